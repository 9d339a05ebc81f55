import PyProof.Rows.All
import Wide.All
import OpenK.AllK
import Wide.FinOn
import HandS.Codes
import HandS.Conv
import HandS.Defaults
import HandS.Exc
import HandS.ExcField
import HandS.ExcInit
import HandS.ExcOwn
import HandS.ExcValue
import HandS.ForMost
import HandS.Gcd
import HandS.IsInst
import HandS.Property
import HandS.SortInts
import HandS.TryMany
import HandS.TryOnly
import HandS.Wide
import HandS.WordsExc
import HandS.Zip
import KE.GoesEnum
import KE.GoesMore
import KE.KExcIs
import KE.KTupSum
import PySem.Challenge.RW_sweetsring_k19_errors_apart
set_option Elab.async false
set_option linter.all false
set_option maxRecDepth 100000
set_option maxHeartbeats 4000000
set_option maxRecDepth 100000
/-! Sw: what stands still (S) beside what there is (H); frames of defs; the drawn numbers' list. -/
namespace Sw
open PySem PySem.Spec PyProof.Rows L2
/-- from (S, H) to (S', H'): S grows, H keeps what it has but at M's places; what of H was not in S doesn't come into S -/
structure Fr (M : Addr → Prop) (S H S' H' : Hp) : Prop where
  a : Same S S'
  b : Same S' H'
  c : ∀ p o, ¬ M p → H p = some o → H' p = some o
  d : ∀ p, H p ≠ none → S p = none → S' p = none
  e : ∀ p, H p ≠ none → H' p ≠ none
abbrev M0 : Addr → Prop := fun _ => False
abbrev M1 (d : Addr) : Addr → Prop := fun p => p = d
theorem nn {H : Hp} {p : Addr} {o : HO} (h : H p = some o) : H p ≠ none := fun z => by rw [h] at z; cases z
theorem ex_of {H : Hp} {p : Addr} (h : H p ≠ none) : ∃ o, H p = some o := by
  cases e : H p with
  | none => exact absurd e h
  | some o => exact ⟨o, rfl⟩
theorem same_none {S H : Hp} (s : Same S H) {p : Addr} (h : H p = none) : S p = none := s.free h
theorem same_updR {S H : Hp} (s : Same S H) {q : Addr} {o : HO} (h : S q = none) : Same S (upd H q o) := fun b x e => by
  rw [upd_ne (ne_of_none e h)]
  exact s b x e
theorem same_updB {S H : Hp} (s : Same S H) {q : Addr} {o : HO} : Same (upd S q o) (upd H q o) := fun b x e => by
  by_cases hb : b = q
  · subst hb
    rw [upd_same] at e ⊢
    exact e
  · rw [upd_ne hb] at e ⊢
    exact s b x e
theorem same_new {S : Hp} {q : Addr} {o : HO} (h : S q = none) : Same S (upd S q o) := fun b x e => by
  rw [upd_ne (ne_of_none e h)]
  exact e
section
variable {M N : Addr → Prop} {S H S1 H1 S2 H2 : Hp} {q p : Addr} {o : HO}
theorem Fr.refl (s : Same S H) : Fr M S H S H := ⟨Same.refl S, s, fun _ _ _ e => e, fun _ _ e => e, fun _ e => e⟩
theorem Fr.trans (f : Fr M S H S1 H1) (g : Fr M S1 H1 S2 H2) : Fr M S H S2 H2 :=
  ⟨f.a.trans g.a, g.b, fun p o m e => g.c p o m (f.c p o m e), fun p h s => g.d p (f.e p h) (f.d p h s), fun p h => g.e p (f.e p h)⟩
theorem Fr.weak (f : Fr M S H S1 H1) (h : ∀ p, M p → N p) : Fr N S H S1 H1 := ⟨f.a, f.b, fun p o m e => f.c p o (fun z => m (h p z)) e, f.d, f.e⟩
theorem Fr.of0 (f : Fr M0 S H S1 H1) : Fr M S H S1 H1 := f.weak fun _ z => z.elim
theorem Fr.imm (f : Fr M S H S1 H1) (n : H1 q = none) : Fr M S H (upd S1 q o) (upd H1 q o) := by
  have hq : ∀ p, H p ≠ none → p ≠ q := fun p h z => f.e p h (by rw [z]; exact n)
  refine ⟨f.a.trans (same_new (f.b.free n)), same_updB f.b, fun p u m e => ?_, fun p h s => ?_, fun p h => ?_⟩
  · rw [upd_ne (hq p (nn e))]
    exact f.c p u m e
  · rw [upd_ne (hq p h)]
    exact f.d p h s
  · rw [upd_ne (hq p h)]
    exact f.e p h
/-- a new thing that may change -/
theorem Fr.new (f : Fr M S H S1 H1) (n : H1 q = none) : Fr M S H S1 (upd H1 q o) := by
  have hq : ∀ p, H p ≠ none → p ≠ q := fun p h z => f.e p h (by rw [z]; exact n)
  refine ⟨f.a, same_updR f.b (f.b.free n), fun p u m e => ?_, f.d, fun p h => ?_⟩
  · rw [upd_ne (hq p (nn e))]
    exact f.c p u m e
  · rw [upd_ne (hq p h)]
    exact f.e p h
/-- it changes -/
theorem Fr.mut (f : Fr M S H S1 H1) (s : S1 q = none) (h : M q ∨ H q = none) : Fr M S H S1 (upd H1 q o) := by
  refine ⟨f.a, same_updR f.b s, fun p u m e => ?_, f.d, fun p hp => ?_⟩
  · have hq : p ≠ q := fun z => by
      subst z
      rcases h with h | h
      · exact m h
      · rw [h] at e; cases e
    rw [upd_ne hq]
    exact f.c p u m e
  · by_cases hq : p = q
    · subst hq
      rw [upd_same]
      exact fun z => by cases z
    · rw [upd_ne hq]
      exact f.e p hp
/-- it changes no more -/
theorem Fr.seal (f : Fr M S H S1 H1) (hq : H1 q = some o) (s : S1 q = none) (n : H q = none) : Fr M S H (upd S1 q o) H1 := by
  refine ⟨f.a.trans (same_new s), fun b x e => ?_, f.c, fun p h z => ?_, f.e⟩
  · by_cases hb : b = q
    · subst hb
      rw [upd_same] at e
      cases e
      exact hq
    · rw [upd_ne hb] at e
      exact f.b b x e
  · have : p ≠ q := fun y => by subst y; exact h n
    rw [upd_ne this]
    exact f.d p h z
end
/-! ### what is read stays -/
theorem Same.seqT {K : PySem.W.Frag} {H H' : Hp} {a : Addr} {xs : List V} (e : Same H H') (h : SqT K H a xs) : SqT K H' a xs := by
  rcases h with (h | ⟨o, h⟩) | h
  · exact .inl (.inl (e _ _ h))
  · exact .inl (.inr ⟨o, e _ _ h⟩)
  · exact .inr h
mutual
theorem dp_mono {K : PySem.W.Frag} {H H' : Hp} (s : Same H H') : ∀ {v : V} {d : PyData}, Dp K H v d → Dp K H' v d
  | _, _, .non => .non
  | _, _, .bl b => .bl b
  | _, _, .int i => .int i
  | _, _, .str x => .str x
  | _, _, .lst h a => .lst (s.seq h) (dpAll_mono s a)
  | _, _, .tup h a => .tup (Same.seqT s h) (dpAll_mono s a)
theorem dpAll_mono {K : PySem.W.Frag} {H H' : Hp} (s : Same H H') : ∀ {vs : List V} {ds : List PyData}, DpAll K H vs ds → DpAll K H' vs ds
  | _, _, .nil => .nil
  | _, _, .cons a b => .cons (dp_mono s a) (dpAll_mono s b)
end
theorem dpAll_ints {K : PySem.W.Frag} {H : Hp} : ∀ ns : List Int, DpAll K H (ns.map V.int) (ns.map PyData.int)
  | [] => .nil
  | n :: r => .cons (.int n) (dpAll_ints r)
theorem dpAll_len {K : PySem.W.Frag} {H : Hp} : ∀ {vs : List V} {ds : List PyData}, DpAll K H vs ds → vs.length = ds.length
  | _, _, .nil => rfl
  | _, _, .cons _ b => by rw [List.length_cons, List.length_cons, dpAll_len b]
theorem dpAll_at {K : PySem.W.Frag} {H : Hp} : ∀ {vs : List V} {ds : List PyData} {i : Nat} {d : PyData}, DpAll K H vs ds → ds[i]? = some d → ∃ v, vs[i]? = some v ∧ Dp K H v d
  | _, _, _, _, .nil, h => by simp at h
  | _, _, 0, _, .cons a _, h => by
    have e := Option.some.inj h
    subst e
    exact ⟨_, rfl, a⟩
  | _, _, i + 1, _, .cons _ b, h => dpAll_at (i := i) b h
theorem dpAll_app {K : PySem.W.Frag} {H : Hp} : ∀ {vs ws : List V} {ds es : List PyData}, DpAll K H vs ds → DpAll K H ws es → DpAll K H (vs ++ ws) (ds ++ es)
  | _, _, _, _, .nil, h => h
  | _, _, _, _, .cons a b, h => .cons a (dpAll_app b h)
theorem dp_tupI {K : PySem.W.Frag} {H : Hp} {a : Addr} {ns : List Int} (h : SqT K H a (ns.map V.int)) : Dp K H (.ref a) (.tuple (ns.map .int)) := .tup h (dpAll_ints ns)
theorem dp_lstI {K : PySem.W.Frag} {H : Hp} {a : Addr} {ns : List Int} (h : SqL K H a (ns.map V.int)) : Dp K H (.ref a) (.list (ns.map .int)) := .lst h (dpAll_ints ns)
/-! ### numbers -/
theorem pow200 : (2 : Int) ^ 200 = 1606938044258990275541962092341162602522202993782792835301376 := by decide +kernel
theorem divW {i j : Int} (h : 0 < j) (hb : j < 2 ^ 200) : CDivW i j := wide_div h (b := 200) (by
  have e : ((2 ^ 200 : Nat) : Int) = (2 : Int) ^ 200 := by decide +kernel
  omega) (by decide) (by decide)
theorem sz100 {n : Nat} (h : n ≤ 100000) : n ≤ sizeLine := Nat.le_trans h (by decide)
theorem szl100 {n : Nat} (h : n < 100000) : n < sizeLine := Nat.lt_of_lt_of_le h (by decide)
/-! ### properties, as one thing -/
structure Prp (P : Program) (w : World) (K : PySem.W.Frag) (mg : Str → Option Value) (base : Heap) (k : Nat) (C : Addr) (f fl : Str) : Prop where
  ex : ∃ (p g : Addr) (fd : FuncData), Cls K C ∧ PropOf K C f p g ∧ FnOk P w K mg base CX0 k g fd ["self"] (getSp C fl) ∧ Binds K fd ["self"] []
theorem pe_pr {X : Cx} {k j : Nat} {C : Addr} {f fl : Str} {e : Expr} {ta : TE} {pos : Pos} (c : Prp X.prog X.w X.K X.mg X.base k C f fl) (hr : Room j X.A) (hk : k + 1 ≤ j) (he : PE X e ta) (hab : attributeBase e f X.env (eval e X.env) = eval e X.env := by rfl) :
    PE X (.Attribute e f pos) (tProp C (getSp C fl) [] E0 ta) := by
  obtain ⟨p, g, fd, c, hp, F, b⟩ := c.ex
  exact pe_prop he c hp F (hr.mono hk) b .nil pass0 hab
/-! ### the list that numbers are drawn from -/
def DS (d : Addr) (H : Hp) : Prop := ∃ (a b : Int) (r : List Int), H d = some (.lst ((a :: b :: r).map V.int)) ∧ 0 ≤ a ∧ 0 ≤ b ∧ (∀ x ∈ r, 0 ≤ x) ∧ r.length ≤ 63
theorem DS.nn {d : Addr} {H : Hp} (h : DS d H) : H d ≠ none := let ⟨_, _, _, e, _⟩ := h; Sw.nn e
theorem DS.keep {M : Addr → Prop} {d : Addr} {S H S' H' : Hp} (h : DS d H) (f : Fr M S H S' H') (hm : ¬ M d) : DS d H' := let ⟨a, b, r, e, z⟩ := h; ⟨a, b, r, f.c d _ hm e, z⟩
theorem DS.new {d l : Addr} {H : Hp} {o : HO} (h : DS d H) (n : H l = none) : DS d (upd H l o) := by
  obtain ⟨a, b, r, e, z⟩ := h
  exact ⟨a, b, r, by rw [upd_ne (ne_of_none e n)]; exact e, z⟩
theorem DS.upd {d l : Addr} {H : Hp} {o : HO} (h : DS d H) (n : d ≠ l) : DS d (upd H l o) := by
  obtain ⟨a, b, r, e, z⟩ := h
  exact ⟨a, b, r, by rw [upd_ne n]; exact e, z⟩
theorem Fr.back {M : Addr → Prop} {S H S1 H1 : Hp} {q : Addr} (f : Fr M S H S1 H1) (n : H1 q = none) : H q = none := by
  cases e : H q with
  | none => rfl
  | some o => exact absurd n (f.e q (by rw [e]; exact fun z => by cases z))
theorem Fr.backS {M : Addr → Prop} {S H S1 H1 : Hp} {q : Addr} (f : Fr M S H S1 H1) (n : H1 q = none) : S1 q = none := f.b.free n
theorem DS.ne {d l : Addr} {H : Hp} (h : DS d H) (n : H l = none) : l ≠ d := fun z => by subst z; exact h.nn n
end Sw
set_option maxRecDepth 100000
/-! Two rules that the layer lacks: enumerate(x) of a tuple, tuple(range(a, b, c)). -/
namespace SwX
open PySem PySem.Spec PyProof.Rows L2
open AutoSeq1 (wpAny_loadPart')
/-! ### enumerate(v), v anything that begins -/
abbrev enO (h : Heap) : Obj := { cls := .type "enumerate", data := .fields #[.none, .bool false, .ref h.objs.size, rawInt 0, .none, .none] }
theorem meets_enum1 {v : Value} {o : Obj} {G : Heap → Prop} (B : Begins v o G) :
    Meets (Builtin.«enumerate.__new__» ⟨[.type "enumerate", v], []⟩) (fun _ R s => G s.heap ∧
      R (.ok (.ret (.ref (s.heap.push o).objs.size))) { s with heap := (s.heap.push o).push (enO s.heap) }) := by
  refine .of_wp fun prog w A R s hh => ?_
  obtain ⟨hp, g, d, tk, os⟩ := s
  obtain ⟨hG, hR⟩ := hh
  have es := sub_enumerate
  have itr : ∀ {A₁ : Around} {E₁ : Value → Shared → Prop} {Q₁ : Value → Shared → Prop}, Q₁ (.ref hp.objs.size) ⟨hp.push o, g, d, tk, os⟩ → wpAny (model prog w) A₁ (pyIter v) Q₁ E₁ ⟨hp, g, d, tk, os⟩ :=
    fun q => B.iter prog w _ _ ⟨hp, g, d, tk, os⟩ _ hG q
  wp_walk using itr
  refine wpAny_stack_any fun st => wpAny_pure ?_
  split
  · rename_i c _ _ _ _ _
    cases (c == Value.type "enumerate") <;> (wp_walk using itr; exact ⟨_, rfl, hR⟩)
  · wp_walk using itr
    exact ⟨_, rfl, hR⟩
section
variable {prog : Program} {w : World} {A : Around} {E : Value → Shared → Prop} {s : Shared}
theorem call_enum1 {v : Value} {o : Obj} {G : Heap → Prop} {Q : Value → Shared → Prop} (B : Begins v o G) (hG : G s.heap)
    (hq : ∀ h', IsEnum h' (s.heap.objs.size + 1) s.heap.objs.size 0 .none → h'.get? s.heap.objs.size = some o →
      (∀ b u, s.heap.get? b = some u → h'.get? b = some u) → Q (.ref (s.heap.objs.size + 1)) { s with heap := h' }) :
    wpAny (model prog w) A (call (.type "enumerate") [v]) Q E s := by
  refine callType_new F.called_enumerate (by decide) (F.typeCall_enumerate_1 _) (F.newCall_enumerate_1 _) (fun obj => F.args_object_init_2 obj _) F.entry_enumerate_new (meets_enum1 B) ⟨hG, ?_⟩
  have sz : (s.heap.push o).objs.size = s.heap.objs.size + 1 := Heap.size_push ..
  show _ ∧ _
  rw [sz]
  have isE : IsEnum ((s.heap.push o).push (enO s.heap)) (s.heap.objs.size + 1) s.heap.objs.size 0 .none := by
    have q := Heap.get?_push_size (s.heap.push o) (o := enO s.heap) rfl
    rw [sz] at q
    exact q
  exact ⟨⟨_, isE, rfl⟩, hq _ isE (Heap.get?_push_of_some _ (Heap.get?_push_size _ B.free)) fun b u z => Heap.get?_push_of_some _ (Heap.get?_push_of_some _ z)⟩
end
/-- the tuple at a as it stands, each item in a new pair with its place -/
def Itu (K : PySem.W.Frag) (a : Addr) : It :=
  ⟨fun i H => ∃ (xs : List V) (x : V), SqT K H a xs ∧ xs[i]? = some x, fun i H v H' => ∃ T x, v = .ref T ∧ H T = none ∧ H' = upd H T (.tup [.int (i : Nat), x]) ∧ ∀ xs, SqT K H a xs → xs[i]? = some x, fun i H => ∃ xs : List V, SqT K H a xs ∧ xs.length ≤ i⟩
theorem turn_enumT {P : Program} {w : World} {K : PySem.W.Frag} {elts : List Expr} {kk : Nat} {tpos : Pos} (a e it : Addr) :
    Turn P w K (.Tuple elts kk tpos) (Itu K a) [e, it] e (fun i h => (∃ old, IsEnum h e it ((i : Nat) : Int) old) ∧ h.IsTupleIter it a i ∧ e ≠ it) where
  mem := List.mem_cons_self
  obj := fun i h st b hb => by
    obtain ⟨⟨old, he⟩, ⟨o, ho, hc, hd⟩, _⟩ := st
    rcases (show b = e ∨ b = it by simpa using hb) with rfl | rfl
    · exact ⟨_, he, fun v q => nomatch q⟩
    · exact ⟨o, ho, fun v q => by rw [hd] at q; cases q⟩
  keep := fun i h h' st k => ⟨st.1.imp fun old he => k e (by simp) _ he, st.2.1.at fun o q => k it (by simp) o q, st.2.2⟩
  item := by
    intro X hP hw hK hc i pins s σ H E I hf st hg
    subst hP hw hK
    obtain ⟨⟨old, he⟩, hit, hne⟩ := st
    obtain ⟨xs, x, hq, hx⟩ := hg
    obtain ⟨its, rv, p, hz⟩ := I.tuple hq
    obtain ⟨u, hu, ru⟩ := rv.get hx
    have pt : s.heap.IsTuple a its.toArray := p
    have hil : it < s.heap.objs.size := by obtain ⟨_, q, _⟩ := hit; exact Heap.lt_size q
    have hel : e < s.heap.objs.size := Heap.lt_size he
    have hai : a ≠ it := fun z => by
      obtain ⟨o1, q1, c1, _⟩ := hit
      obtain ⟨o2, q2, c2, _⟩ := pt
      rw [z, q1] at q2
      cases q2
      rw [c1] at c2
      exact absurd c2 (by decide)
    have hea : e ≠ a := fun z => by
      obtain ⟨o2, q2, c2, _⟩ := pt
      have q1 : s.heap.get? e = _ := he
      rw [z, q2] at q1
      cases q1
      have c3 : Value.type "enumerate" = Value.type "tuple" := c2
      exact absurd (Value.type.inj c3) (by decide)
    have D := Draws.tuple (prog := X.prog) (w := X.w) (A := X.A.in1) (I.ok.hd hc) it a hai its.toArray
    have hlt : i < its.toArray.size := by
      have := (List.getElem?_eq_some_iff.mp hu).1
      simpa using this
    refine wpAny_pyNext_enum_itemD D he ⟨hit, pt⟩ hlt hne (by simp [hne, hea]) fun x' h' tk hP ho st' hT hsz hk => ?_
    have ex : x' = u := by
      have e1 : its.toArray[i]? = some u := by simpa using hu
      have hP' : its.toArray[i]? = some x' := hP
      rw [e1] at hP'
      exact (Option.some.inj hP').symm
    subst ex
    refine ⟨_, rfl, wpAny_letOwnedTupleGo_enum (s := { s with heap := h', toks := tk + 1 }) ho fun h'' he' sb => ?_⟩
    have hT2 : h''.get? s.heap.objs.size = some { cls := .type "tuple", data := .seq #[.int i tk, x'] } := (sb.2 _ (Nat.ne_of_gt hel)).trans hT
    have new : ObjOk X.prog X.w (upd H s.heap.objs.size (.tup [.int (i : Nat), x])) h'' s.heap.objs.size (.tup [.int (i : Nat), x]) :=
      ⟨by show 2 ≤ sizeLine; decide, [.int i tk, x'], .cons ⟨_, rfl⟩ (.cons ru .nil), ⟨_, hT2, rfl, _, rfl⟩⟩
    have I1 : Inv X pins σ (upd H s.heap.objs.size (.tup [.int (i : Nat), x])) { s with heap := h'', toks := tk + 1 } :=
      I.turnedNew (ch := [e, it]) (fun b ob hb q => (sb.2 b (fun z => hb (by simp [z]))).trans (hk b ob (fun z => hb (by simp [z])) (fun z => hb (by simp [z])) q)) hf (Nat.le_refl _) new
    refine ⟨.ref s.heap.objs.size, _, I1, rfl, ⟨_, x, rfl, I.hok.fresh (Nat.le_refl _), rfl, fun ys hy => by rw [I.tuple_inj hy hq]; exact hx⟩, ⟨⟨x', ?_⟩, st'.1.at fun o q => (sb.2 it (Ne.symm hne)).trans q, hne⟩, fun b hb => ?_⟩
    · have e1 : ((i + 1 : Nat) : Int) = (i : Int) + 1 := by omega
      rw [e1]
      exact he'
    · have hb' : b < s.heap.objs.size := by
        rcases (show b = e ∨ b = it by simpa using hb) with z | z
        · rw [z]; exact hel
        · rw [z]; exact hil
      rw [upd_ne (Nat.ne_of_lt hb')]
      exact (hf b hb).1
  done := by
    intro X hP hw hK hc i pins s σ H E I hf st hg
    subst hP hw hK
    obtain ⟨⟨old, he⟩, hit, hne⟩ := st
    obtain ⟨xs, hq, hx⟩ := hg
    obtain ⟨its, rv, p, hz⟩ := I.tuple hq
    have pt : s.heap.IsTuple a its.toArray := p
    obtain ⟨f0, f1, f2, f3, f4, f5⟩ := hf it (by simp)
    have hl := rv.length
    have hno : its.toArray[i]? = none := by simp; omega
    unfold pyNext
    have hT : s.TypeIs (.ref e) "enumerate" := ⟨_, he, rfl⟩
    refine wpAny_bind (wpAny_attempt (wpAny_callSpecial?_slot (name := Str.ofString "__next__") hT F.slot_enumerate_next (wpAny_call_entry F.slot_enumerate_next hT F.entry_enumerate_next ?_ (F.args_enumerate_next_1 _))))
    show wpAny _ _ (field (.ref e) 2 >>= _) _ _ _
    refine wpAny_bind (wpAny_field he rfl (x := .ref it) rfl ?_)
    refine wpAny_bind (wpAny_nextOf_tuple_end (A := X.A.in1) (I.ok.hd hc) hit pt hno fun h' x eb hx' => ?_)
    obtain ⟨o, ho, hcl⟩ := hx'
    refine wpAny_bind (wpAny_isInstance (T := "StopIteration") (b := true) ⟨o, ho, hcl⟩ isSubtype_stop ?_)
    exact wpAny_pure ⟨rfl, I.turned (t' := s.toks) (fun b o hb q => eb b o hb q) f0 f1 f3 f4 f5⟩
  self := fun A i s Q E st h => let ⟨⟨_, he⟩, _⟩ := st; wpAny_pyIter_enum he h
def iEnumT (K : PySem.W.Frag) (ta : TA) : TI := fun σ H R => ta σ H fun vs H1 => ∃ a xs, vs = [.ref a] ∧ SqT K H1 a xs ∧ R (Itu K a) H1
theorem pi_enumT {X : Cx} {e : Expr} {ta : TA} {p pos tpos : Pos} {elts : List Expr} {kk : Nat} (hg : Gl X "enumerate") (hm : X.mg "enumerate" = none) (ha : PA X [e] ta) (hs : starEach [e] X.env = [(false, eval e X.env)] := by rfl) :
    PI X (.Tuple elts kk tpos) (.Call (.Name "enumerate" p) [e] [] pos) (iEnumT X.K ta) := by
  refine ⟨fun pins s σ H R I h => ?_⟩
  refine Call_ (ld_blt I hg hm boot_enumerate (PyProof.Rows.callWith_type1 (thn (ha.run pos pins s σ H _ I h) fun us s1 ⟨vs, H1, I1, r1, q1⟩ => ?_) hs rfl))
  obtain ⟨a, xs, rfl, hq, q⟩ := q1
  cases r1 with
  | cons r rr =>
    cases rr
    cases r
    obtain ⟨its, rv, pl, hz⟩ := I1.tuple hq
    have pt : s1.heap.IsTuple a its.toArray := pl
    refine call_enum1 (begins_tuple a its.toArray) pt fun h' he hit hk => wpAny_pyIter_enum he ?_
    have I2 : Inv X pins σ H1 { s1 with heap := h' } := I1.kept (t' := s1.toks) hk
    refine ⟨s1.heap.objs.size + 1, [s1.heap.objs.size + 1, s1.heap.objs.size], _, _, H1, rfl, I2, turn_enumT a (s1.heap.objs.size + 1) s1.heap.objs.size, ⟨⟨.none, he⟩, ⟨_, hit, rfl, rfl⟩, Nat.succ_ne_self _⟩, fun b hb => ?_, q⟩
    have hle : s1.heap.objs.size ≤ b := by
      rcases (show b = s1.heap.objs.size + 1 ∨ b = s1.heap.objs.size by simpa using hb) with z | z
      · rw [z]; exact Nat.le_succ _
      · rw [z]; exact Nat.le_refl _
    exact I1.fpOk hle (I1.hok.fresh hle)
/-- for i, x in enumerate(t): Pv (the turn) (slots) (heap); in a turn the pair stands at T, new -/
theorem for_enumT {K : PySem.W.Frag} {a : Addr} {xs : List V} {g : TG} {tb : TS} {D : Ends} {σ : L2.St} {H : Hp} (Pv : Nat → L2.St → Hp → Prop) (h0 : Pv 0 σ H) (hl : ∀ i σ H, i ≤ xs.length → Pv i σ H → SqT K H a xs)
    (hs : ∀ i x T σ H, xs[i]? = some x → Pv i σ H → H T = none → g (.ref T) σ (upd H T (.tup [.int (i : Nat), x])) fun σ2 H2 => tb { D with nx := Pv (i + 1), ct := Pv (i + 1), bk := D.nx } σ2 H2) (hd : ∀ σ H, Pv xs.length σ H → D.nx σ H) :
    ∃ W : Nat → Nat → L2.St → Hp → Prop, (∃ m, W 0 m σ H) ∧ ∀ i m σ H, W i m σ H →
      ((Itu K a).stop i H ∧ D.nx σ H) ∨ ((Itu K a).go i H ∧ ∃ N : L2.St → Hp → Prop, (∀ σ' H', N σ' H' → ∃ m', m' < m ∧ W (i + 1) m' σ' H') ∧ ∀ x H', (Itu K a).yld i H x H' → g x σ H' fun σ2 H2 => tb { D with nx := N, ct := N, bk := D.nx } σ2 H2) := by
  refine ⟨fun i m σ H => m = xs.length - i ∧ i ≤ xs.length ∧ Pv i σ H, ⟨_, rfl, Nat.zero_le _, h0⟩, ?_⟩
  rintro i m σ H ⟨rfl, hi, p⟩
  have q := hl i σ H hi p
  by_cases hlt : i < xs.length
  · refine .inr ⟨⟨xs, xs[i], q, List.getElem?_eq_getElem hlt⟩, Pv (i + 1), fun σ' H' p' => ⟨xs.length - (i + 1), by omega, rfl, hlt, p'⟩, fun x H' y => ?_⟩
    obtain ⟨T, x, rfl, nT, rfl, f⟩ := y
    exact hs i x T σ H (f xs q) p nT
  · have e : i = xs.length := by omega
    subst e
    exact .inl ⟨⟨xs, q, Nat.le_refl _⟩, hd σ H p⟩
/-- for i, x in enumerate(list) -/
theorem for_enumL {K : PySem.W.Frag} {a : Addr} {xs : List V} {g : TG} {tb : TS} {D : Ends} {σ : L2.St} {H : Hp} (Pv : Nat → L2.St → Hp → Prop) (h0 : Pv 0 σ H) (hl : ∀ i σ H, i ≤ xs.length → Pv i σ H → SqL K H a xs)
    (hs : ∀ i x T σ H, xs[i]? = some x → Pv i σ H → H T = none → g (.ref T) σ (upd H T (.tup [.int (i : Nat), x])) fun σ2 H2 => tb { D with nx := Pv (i + 1), ct := Pv (i + 1), bk := D.nx } σ2 H2) (hd : ∀ σ H, Pv xs.length σ H → D.nx σ H) :
    ∃ W : Nat → Nat → L2.St → Hp → Prop, (∃ m, W 0 m σ H) ∧ ∀ i m σ H, W i m σ H →
      ((Ite K a).stop i H ∧ D.nx σ H) ∨ ((Ite K a).go i H ∧ ∃ N : L2.St → Hp → Prop, (∀ σ' H', N σ' H' → ∃ m', m' < m ∧ W (i + 1) m' σ' H') ∧ ∀ x H', (Ite K a).yld i H x H' → g x σ H' fun σ2 H2 => tb { D with nx := N, ct := N, bk := D.nx } σ2 H2) := by
  refine ⟨fun i m σ H => m = xs.length - i ∧ i ≤ xs.length ∧ Pv i σ H, ⟨_, rfl, Nat.zero_le _, h0⟩, ?_⟩
  rintro i m σ H ⟨rfl, hi, p⟩
  have q := hl i σ H hi p
  by_cases hlt : i < xs.length
  · refine .inr ⟨⟨xs, xs[i], q, List.getElem?_eq_getElem hlt⟩, Pv (i + 1), fun σ' H' p' => ⟨xs.length - (i + 1), by omega, rfl, hlt, p'⟩, fun x H' y => ?_⟩
    obtain ⟨T, x, rfl, nT, rfl, f⟩ := y
    exact hs i x T σ H (f xs q) p nT
  · have e : i = xs.length := by omega
    subst e
    exact .inl ⟨⟨xs, q, Nat.le_refl _⟩, hd σ H p⟩
/-! ### tuple(range(a, b, c)) -/
def rgC (a c : Int) (n : Nat) : List V := (List.range n).map fun i => V.int (a + (i : Nat) * c)
theorem rgC_len (a c : Int) (n : Nat) : (rgC a c n).length = n := by unfold rgC; rw [List.length_map, List.length_range]
def tTupR3 (ta tb tc : TE) : TE := fun σ H Q => ta σ H fun x H1 => tb σ H1 fun y H2 => tc σ H2 fun z H3 => ∃ (i j c : Int) (n : Nat), x = .int i ∧ y = .int j ∧ z = .int c ∧ RgC i j c n ∧ n ≤ 2 ^ 24 ∧ ∀ q, H3 q = none → Q (.ref q) (upd H3 q (.tup (rgC i c n)))
theorem pe_tupR3 {X : Cx} {a b c : Expr} {ta tb tc : TE} {p1 p2 q1 q2 : Pos} (hc : X.calm = true) (hg : Gl X "tuple") (hm : X.mg "tuple" = none) (hg2 : Gl X "range") (hm2 : X.mg "range" = none) (ha : PE X a ta) (hb : PE X b tb) (hcc : PE X c tc)
    (hs : starEach [a, b, c] X.env = (false, eval a X.env) :: starEach [b, c] X.env := by rfl) (hs2 : starEach [b, c] X.env = (false, eval b X.env) :: starEach [c] X.env := by rfl) (hs3 : starEach [c] X.env = (false, eval c X.env) :: starEach [] X.env := by rfl)
    (hpl : (backTo q2 (starEach [b, c] X.env)).any (·.1) = false := by rfl)
    (na : starEach [Expr.Call (.Name "range" p2) [a, b, c] [] q2] X.env = (false, eval (Expr.Call (.Name "range" p2) [a, b, c] [] q2) X.env) :: starEach [] X.env := by rfl) :
    PE X (.Call (.Name "tuple" p1) [.Call (.Name "range" p2) [a, b, c] [] q2] [] q1) (tTupR3 ta tb tc) := by
  have hA : PA X [a, b, c] (tCons ta (tCons tb (tCons tc tNil))) := pa_cons ha (pa_cons hb (pa_cons hcc pa_nil hs3) hs2) hs
  have rg : ∀ (pins : List (Addr × Obj)) (s : Shared) (σ : L2.St) (H : Hp) (Q : VK), Inv X pins σ H s → tTupR3 ta tb tc σ H Q →
      wpAny (model X.prog X.w) X.A (eval (.Call (.Name "range" p2) [a, b, c] [] q2) X.env) (fun x s' => ∃ r i j k n t u v H', x = .ref r ∧ IsRange s'.heap r i j k t u v ∧ Inv X pins σ H' s' ∧ RgC i j k n ∧ n ≤ 2 ^ 24 ∧ ∀ q, H' q = none → Q (.ref q) (upd H' q (.tup (rgC i k n)))) X.xe s := by
    intro pins s σ H Q I h
    refine Call_ (ld_blt I hg2 hm2 boot_range (PyProof.Rows.callWith_type1 (thn (hA.run q2 pins s σ H (fun vs H' => ∃ (i j k : Int) (n : Nat), vs = [.int i, .int j, .int k] ∧ RgC i j k n ∧ n ≤ 2 ^ 24 ∧ ∀ q, H' q = none → Q (.ref q) (upd H' q (.tup (rgC i k n)))) I ?_) fun us s1 ⟨vs, H1, I1, r1, z1⟩ => ?_) hs hpl))
    · have mono : ∀ {t : TE}, True := fun {_} => trivial
      revert h
      unfold tTupR3 tCons tNil
      intro h
      have e : (fun x H1 => tb σ H1 fun y H2 => tc σ H2 fun z H3 => ∃ (i j c : Int) (n : Nat), x = .int i ∧ y = .int j ∧ z = .int c ∧ RgC i j c n ∧ n ≤ 2 ^ 24 ∧ ∀ q, H3 q = none → Q (.ref q) (upd H3 q (.tup (rgC i c n)))) =
          (fun x H1 => tb σ H1 fun y H2 => tc σ H2 fun z H3 => ∃ (i j k : Int) (n : Nat), [x, y, z] = [V.int i, .int j, .int k] ∧ RgC i j k n ∧ n ≤ 2 ^ 24 ∧ ∀ q, H3 q = none → Q (.ref q) (upd H3 q (.tup (rgC i k n)))) := by
        funext x H1
        congr 1
        funext y H2
        congr 1
        funext z H3
        apply propext
        constructor
        · rintro ⟨i, j, c, n, rfl, rfl, rfl, r⟩
          exact ⟨i, j, c, n, rfl, r⟩
        · rintro ⟨i, j, c, n, e, r⟩
          cases e
          exact ⟨i, j, c, n, rfl, rfl, rfl, r⟩
      rw [e] at h
      exact h
    · obtain ⟨i, j, k, n, rfl, ⟨c0, c1, c2, c3⟩, hn, q⟩ := z1
      cases r1 with
      | cons ra rr =>
        cases rr with
        | cons rb rr =>
          cases rr with
          | cons rc rr =>
            cases rr
            obtain ⟨t, rfl⟩ := ra
            obtain ⟨t', rfl⟩ := rb
            obtain ⟨t'', rfl⟩ := rc
            exact call_range_3 c0 ⟨_, i, j, k, n, _, _, _, H1, rfl, IsRange.new _ _ _ _ _ _ _, I1.kept fun b u e => Heap.get?_push_of_some _ e, ⟨c0, c1, c2, c3⟩, hn, q⟩ (.inl (PyProof.noPylong_small c1))
  refine ⟨fun pins s σ H Q I h => ?_⟩
  refine Call_ (ld_blt I hg hm boot_tuple (PyProof.Rows.callWith_type1 (args_cons (thn (rg pins s σ H _ I h) fun x s1 ⟨r, i, j, k, n, t, u, v, H1, ex, hr, I1, ok, hn, q⟩ => args_nil ?_) na) na))
  subst ex
  obtain ⟨c0, c1, c2, c3⟩ := ok
  refine call_tuple_range (n := n) (I1.ok.hd hc) hr c2 c3 hn fun h' tk acc hk hi => ?_
  have I2 : Inv X pins σ H1 { s1 with heap := h', toks := tk } := I1.kept hk
  have hv : Vals (rgC i k n) acc.toList := by
    have e : acc.toList.length = n := by rw [Array.length_toList]; exact hi.1
    unfold rgC
    rw [← e]
    refine vals_of_get acc.toList _ fun m u hm => ?_
    exact hi.2 m u (by rw [← hm, Array.getElem?_toList])
  refine ⟨.ref h'.objs.size, upd H1 h'.objs.size (.tup (rgC i k n)), I2.laid (t' := tk) (fun c o e => Heap.get?_push_of_some _ e) (Nat.le_refl _) (show ObjOk X.prog X.w _ _ _ (.tup (rgC i k n)) from ⟨?_, acc.toList, hv, ?_⟩), rfl, q _ (I2.hok.fresh (Nat.le_refl _))⟩
  · rw [rgC_len, sizeLine_eq]; omega
  · rw [Array.toArray_toList]; exact IsTup.new _ _
/-! ### len(set(xs)), xs any ints -/
def dist (ns : List Int) : List Int := PyProof.Rows.firstMet (fun i => ns.getD i 0) ns.length
def tLenSetG (K : PySem.W.Frag) (ta : TE) : TE := fun σ H Q => ta σ H fun x H1 => ∃ (l : Addr) (ns : List Int), x = .ref l ∧ SqL K H1 l (ns.map V.int) ∧ ns.length ≤ 4000 ∧ Q (.int ((dist ns).length : Nat)) H1
theorem met_succ (f : Nat → Int) (i : Nat) : PyProof.Rows.firstMet f (i + 1) = if (PyProof.Rows.firstMet f i).any (· == f i) then PyProof.Rows.firstMet f i else PyProof.Rows.firstMet f i ++ [f i] := by
  rw [PyProof.Rows.firstMet_succ]
  rfl
theorem met_le (f : Nat → Int) : ∀ i, (PyProof.Rows.firstMet f i).length ≤ i
  | 0 => Nat.le_refl _
  | i + 1 => by
    have := met_le f i
    rw [met_succ]
    split
    · omega
    · rw [List.length_append, List.length_singleton]; omega
theorem pe_lenSetG {X : Cx} {a : Expr} {ta : TE} {p p2 q pos : Pos} (hg : Gl X "len") (hm : X.mg "len" = none) (hg2 : Gl X "set") (hm2 : X.mg "set" = none) (ha : PE X a ta) (hc : X.calm = true := by rfl)
    (na : starEach [a] X.env = (false, eval a X.env) :: starEach [] X.env := by rfl) : PE X (.Call (.Name "len" p) [.Call (.Name "set" p2) [a] [] q] [] pos) (tLenSetG X.K ta) := by
  refine ⟨fun pins s σ H Q I h => Call_ (ld_blt I hg hm boot_len (PyProof.Rows.callWith_builtin1 (PyProof.Rows.args_cons ?_ rfl) rfl rfl))⟩
  refine Call_ (ld_blt I hg2 hm2 boot_set (PyProof.Rows.callWith_type1 (PyProof.Rows.args_cons (thn (ha.run pins s σ H _ I h) fun v s1 ⟨x, H1, I1, r1, q1⟩ => PyProof.Rows.args_nil ?_) na) na rfl))
  obtain ⟨l, ns, rfl, hq, hl, q1⟩ := q1
  cases r1
  obtain ⟨its, r, pl, hz⟩ := I1.list hq
  have sz : its.toArray.size = ns.length := by rw [List.size_toArray, ← r.length, List.length_map]
  refine call_set_list (I1.ok.hd hc) pl.isList (by simpa using RZ.intsAre_vals r) (by rw [sz]; unfold scanBound; omega) fun h' tk hS hk => PyProof.Rows.args_nil ?_
  rw [sz] at hS
  obtain ⟨o, es, ep, t, ho, hex, hd, _, _, _, hf, hn⟩ := hS
  have hle := met_le (fun i => ns.getD i 0) ns.length
  have I2 : Inv X pins σ H1 { s1 with heap := h', toks := tk } := I1.kept fun b o e => hk b o (Heap.lt_size e) e
  exact call_len_set ho hex hd hf (by rw [hn]; omega) ⟨.int ((dist ns).length : Nat), H1, I2.tok _, ⟨_, by rw [hn]; rfl⟩, q1⟩
theorem met_has (f : Nat → Int) : ∀ i j, j < i → f j ∈ PyProof.Rows.firstMet f i
  | 0, j, h => absurd h (Nat.not_lt_zero j)
  | i + 1, j, h => by
    rw [met_succ]
    by_cases hj : j = i
    · subst hj
      split
      · rename_i hb
        obtain ⟨y, hy, e⟩ := List.any_eq_true.mp hb
        rw [← eq_of_beq e]
        exact hy
      · exact List.mem_append_right _ List.mem_cons_self
    · have := met_has f i j (by omega)
      split
      · exact this
      · exact List.mem_append_left _ this
theorem met_one (f : Nat → Int) (v : Int) : ∀ i, (∀ j, j < i + 1 → f j = v) → PyProof.Rows.firstMet f (i + 1) = [v]
  | 0, h => by
    rw [met_succ]
    show (if ([] : List Int).any (· == f 0) then [] else [] ++ [f 0]) = [v]
    rw [h 0 (by omega)]
    rfl
  | i + 1, h => by
    rw [met_succ, met_one f v i fun j hj => h j (by omega), h (i + 1) (by omega)]
    simp
/-- one just if all are alike -/
theorem dist_one {ns : List Int} (h : ns ≠ []) : (dist ns).length = 1 ↔ ∀ x ∈ ns, ∀ y ∈ ns, x = y := by
  have at_ : ∀ {j : Nat} (hj : j < ns.length), ns.getD j 0 = ns[j] := fun {j} hj => by rw [List.getD_eq_getElem?_getD, List.getElem?_eq_getElem hj]; rfl
  have hpos : 0 < ns.length := List.length_pos_iff.mpr h
  constructor
  · intro e x hx y hy
    obtain ⟨i, hi, rfl⟩ := List.getElem_of_mem hx
    obtain ⟨j, hj, rfl⟩ := List.getElem_of_mem hy
    have m1 := met_has (fun i => ns.getD i 0) ns.length i hi
    have m2 := met_has (fun i => ns.getD i 0) ns.length j hj
    obtain ⟨v, hv⟩ := List.length_eq_one_iff.mp e
    unfold dist at hv
    rw [hv] at m1 m2
    have e1 := List.mem_singleton.mp m1
    have e2 := List.mem_singleton.mp m2
    rw [at_ hi] at e1
    rw [at_ hj] at e2
    rw [e1, e2]
  · intro ha
    obtain ⟨m, hm⟩ : ∃ m, ns.length = m + 1 := ⟨ns.length - 1, by omega⟩
    have : PyProof.Rows.firstMet (fun i => ns.getD i 0) (m + 1) = [ns[0]] := met_one _ _ m fun j hj => by
      show ns.getD j 0 = _
      rw [at_ (by omega)]
      exact ha _ (List.getElem_mem _) _ (List.getElem_mem _)
    unfold dist
    rw [hm, this]
    rfl
theorem dist_pos {ns : List Int} (h : ns ≠ []) : 1 ≤ (dist ns).length := by
  have hpos : 0 < ns.length := List.length_pos_iff.mpr h
  exact List.length_pos_of_mem (met_has (fun i => ns.getD i 0) ns.length 0 hpos)
/-! ### sum(t) of a tuple of ints -/
def rSumT (K : PySem.W.Frag) : List V → Hp → VK → Prop := fun vs H Q => ∃ (a : Addr) (ns : List Int), vs = [V.ref a] ∧ SqT K H a (ns.map V.int) ∧ Q (.int ns.sum) H
theorem cr_sumT {X : Cx} (hc : X.calm = true) : CallR X (.builtin "sum") (rSumT X.K) := by
  intro pins s σ H vs us Q I r h
  obtain ⟨a, ns, rfl, hs, q⟩ := h
  obtain ⟨its, rv, hl, _⟩ := I.tuple hs
  rw [Vals.ref1 r]
  have hi : PyProof.Rows.IntsAre its ns := rv.ints
  obtain ⟨xs, e⟩ := hi.allInts.items
  have hn : numsOf (intItems xs).toList = ns := by rw [← e]; exact hi.numsOf
  rw [nums_intItems] at hn
  have ht : s.heap.IsTuple a its.toArray := hl
  rw [e] at ht
  refine PySem.W.ktm_sumG (I.ok.hd hc) ht fun h' tk t' hk => ?_
  refine ⟨.int _, H, I.kept hk, ⟨_, rfl⟩, ?_⟩
  rw [preSum_eq, List.take_of_length_le (by simp), hn]
  exact q
/-! ### raise X(), X an own class without __init__ -/
theorem pmk_own0 {X : Cx} {C : Addr} {bmB : List Value} {B newId initId : String} {x : Str} {p pos : Pos} (F : ExcBaseFacts B newId initId bmB) (q : PySem.W.excIn X.K C bmB newId = true) (gC : X.mg x = some (.ref C)) (kC : PySem.W.keepIn X.K (.ref C) = true) (r : Raises X (.ref C)) (hg : Gl X x)
    (hdb : (x == ("__debug__" : Str)) = false := by decide) : PMk X (.Call (.Name x p) [] [] pos) (fun _ H Q => Q (.ref C) none H) := by
  intro pins s σ H Q I h
  refine wpAny_Call_Name_kw (ld_glob I hg gC ?_ hdb)
  refine PySem.W.callWith_K0 I.kIn kC ?_
  show wpAny _ _ (call (.ref C) []) _ _ _
  obtain ⟨bm, N, nm, qn, bs, hdct, sn, sub, ab, col, dd, k0, k1, k2, k3, k5, mN, hC, hN, hni, T⟩ := exc_obj I.kIn q
  exact wpAny_call_exc_subT F T hC hN hni (fun h' e hm => mk_of I hm r h (I.hok.gone hm.new)) (Nat.zero_le _)
end SwX
set_option maxRecDepth 100000
/-! Sw: plain data, == of it -/
namespace Sw
open PySem L2 PySem.SeqAt
abbrev dT (ns : List Int) : PyData := .tuple (ns.map .int)
abbrev dL (ns : List Int) : PyData := .list (ns.map .int)
theorem ints_can : ∀ ns : List Int, PyData.canLayAll0 (ns.map .int) = true
  | [] => by simp [PyData.canLayAll0]
  | n :: r => by simp [PyData.canLayAll0, PyData.canLay0, ints_can r]
theorem ints_depth : ∀ ns : List Int, PyData.depthAll (ns.map .int) = 0
  | [] => by simp [PyData.depthAll]
  | n :: r => by simp [PyData.depthAll, PyData.depth, ints_depth r]
theorem dT_depth (ns : List Int) : (dT ns).depth ≤ 1 := by simp [PyData.depth, ints_depth]
theorem dL_depth (ns : List Int) : (dL ns).depth ≤ 1 := by simp [PyData.depth, ints_depth]
theorem dT_shaped (ns : List Int) : shaped (dT ns) = true := by
  have h := dT_depth ns
  simp only [shaped, PyData.canLay0, ints_can, Bool.true_and, decide_eq_true_eq]
  omega
theorem dL_shaped (ns : List Int) : shaped (dL ns) = true := by
  have h := dL_depth ns
  simp only [shaped, PyData.canLay0, ints_can, Bool.true_and, decide_eq_true_eq]
  omega
theorem ints_eqv : ∀ a b : List Int, PyData.eqvAll (a.map .int) (b.map .int) = decide (a = b)
  | [], [] => by simp [PyData.eqvAll]
  | [], _ :: _ => by simp [PyData.eqvAll]
  | _ :: _, [] => by simp [PyData.eqvAll]
  | x :: xs, y :: ys => by
    simp only [List.map_cons, PyData.eqvAll, PyData.eqv, ints_eqv xs ys, List.cons.injEq]
    by_cases h : x = y
    · subst h; simp
    · have : (x == y) = false := by simpa using h
      simp [this, h]
theorem dT_eqv (a b : List Int) : PyData.eqv (dT a) (dT b) = decide (a = b) := by rw [PyData.eqv]; exact ints_eqv a b
theorem dL_eqv (a b : List Int) : PyData.eqv (dL a) (dL b) = decide (a = b) := by rw [PyData.eqv]; exact ints_eqv a b
/-- data without dicts, texts or floats, at most k deep -/
def fine : Nat → PyData → Prop
  | 0, d => d = .none ∨ (∃ b, d = .bool b) ∨ (∃ i, d = .int i)
  | k + 1, d => d = .none ∨ (∃ b, d = .bool b) ∨ (∃ i, d = .int i) ∨ (∃ ds, (d = .list ds ∨ d = .tuple ds) ∧ ds.length ≤ 100000 ∧ ∀ e ∈ ds, fine k e)
theorem fine_int {k : Nat} (i : Int) : fine k (.int i) := by
  cases k with
  | zero => exact .inr (.inr ⟨i, rfl⟩)
  | succ k => exact .inr (.inr (.inl ⟨i, rfl⟩))
theorem fine_bool {k : Nat} (b : Bool) : fine k (.bool b) := by
  cases k with
  | zero => exact .inr (.inl ⟨b, rfl⟩)
  | succ k => exact .inr (.inl ⟨b, rfl⟩)
theorem fine_none {k : Nat} : fine k .none := by cases k <;> exact .inl rfl
theorem fine_tup {k : Nat} {ds : List PyData} (h : ds.length ≤ 100000) (a : ∀ e ∈ ds, fine k e) : fine (k + 1) (.tuple ds) := .inr (.inr (.inr ⟨ds, .inr rfl, h, a⟩))
theorem fine_lst {k : Nat} {ds : List PyData} (h : ds.length ≤ 100000) (a : ∀ e ∈ ds, fine k e) : fine (k + 1) (.list ds) := .inr (.inr (.inr ⟨ds, .inl rfl, h, a⟩))
theorem fine_dT {k : Nat} {ns : List Int} (h : ns.length ≤ 100000) : fine (k + 1) (dT ns) := fine_tup (by rw [List.length_map]; exact h) fun e he => by
  obtain ⟨i, _, rfl⟩ := List.mem_map.mp he
  exact fine_int i
theorem fine_dL {k : Nat} {ns : List Int} (h : ns.length ≤ 100000) : fine (k + 1) (dL ns) := fine_lst (by rw [List.length_map]; exact h) fun e he => by
  obtain ⟨i, _, rfl⟩ := List.mem_map.mp he
  exact fine_int i
end Sw
set_option maxRecDepth 100000
/-! Rings: the mathematics. A set that is closed under the steps holds all that leave the same rest. -/
namespace Sw
open PySem L2
/-- the divisor -/
def gdv (n : Nat) (ss : List Nat) : Nat := ss.foldl Nat.gcd n
/-- the ring of r -/
def ringL (n g r : Nat) : List Nat := (List.range (n / g)).map fun i => r + i * g
theorem gdv_dvd_n : ∀ (ss : List Nat) (n : Nat), gdv n ss ∣ n
  | [], n => Nat.dvd_refl n
  | s :: r, n => Nat.dvd_trans (gdv_dvd_n r (Nat.gcd n s)) (Nat.gcd_dvd_left n s)
theorem gdv_dvd_s : ∀ (ss : List Nat) (n s : Nat), s ∈ ss → gdv n ss ∣ s
  | [], _, _, h => absurd h (by simp)
  | a :: r, n, s, h => by
    rcases List.mem_cons.mp h with h | h
    · subst h
      exact Nat.dvd_trans (gdv_dvd_n r (Nat.gcd n s)) (Nat.gcd_dvd_right n s)
    · exact gdv_dvd_s r (Nat.gcd n a) s h
theorem gdv_pos {n : Nat} {ss : List Nat} (h : 0 < n) : 0 < gdv n ss := Nat.pos_of_dvd_of_pos (gdv_dvd_n ss n) h
/-- t leads from members to members -/
def Leads (n : Nat) (C : Nat → Prop) (t : Nat) : Prop := ∀ x, C x → C ((x + t) % n)
theorem Leads.add {n : Nat} {C : Nat → Prop} {s t : Nat} (a : Leads n C s) (b : Leads n C t) : Leads n C (s + t) := fun x h => by
  have q := b _ (a x h)
  rw [Nat.mod_add_mod, Nat.add_assoc] at q
  exact q
theorem Leads.zero {n : Nat} {C : Nat → Prop} (hm : ∀ x, C x → x < n) : Leads n C 0 := fun x h => by
  rw [Nat.add_zero, Nat.mod_eq_of_lt (hm x h)]
  exact h
theorem Leads.mul {n : Nat} {C : Nat → Prop} (hm : ∀ x, C x → x < n) {s : Nat} (a : Leads n C s) : ∀ k, Leads n C (k * s)
  | 0 => by rw [Nat.zero_mul]; exact Leads.zero hm
  | k + 1 => by rw [Nat.succ_mul]; exact (Leads.mul hm a k).add a
theorem Leads.cong {n : Nat} {C : Nat → Prop} {s t : Nat} (a : Leads n C s) (e : s % n = t % n) : Leads n C t := fun x h => by
  have q := a x h
  rw [Nat.add_mod, e, ← Nat.add_mod] at q
  exact q
theorem Leads.n {n : Nat} {C : Nat → Prop} (hm : ∀ x, C x → x < n) : Leads n C n := (Leads.zero hm).cong (by rw [Nat.mod_self, Nat.zero_mod])
/-- s less a multiple of t -/
theorem Leads.modd {n : Nat} {C : Nat → Prop} (hm : ∀ x, C x → x < n) (h0 : 0 < n) {s t : Nat} (a : Leads n C s) (b : Leads n C t) : Leads n C (s % t) := by
  -- s % t ≡ s + (n - 1) * (s / t) * t
  have h1 : Leads n C (s + ((n - 1) * (s / t)) * t) := a.add (b.mul hm _)
  refine h1.cong ?_
  have e : s + (n - 1) * (s / t) * t = s % t + n * ((s / t) * t) := by
    have e1 : s % t + t * (s / t) = s := Nat.mod_add_div s t
    have e2 : (n - 1) * (s / t) * t + (s / t) * t = n * ((s / t) * t) := by
      rw [Nat.mul_assoc, ← Nat.succ_mul]
      congr 1
      omega
    have e3 : t * (s / t) = (s / t) * t := Nat.mul_comm _ _
    omega
  rw [e, Nat.add_mul_mod_self_left]
theorem Leads.gcd {n : Nat} {C : Nat → Prop} (hm : ∀ x, C x → x < n) (h0 : 0 < n) : ∀ (s t : Nat), Leads n C s → Leads n C t → Leads n C (Nat.gcd s t) := by
  intro s t
  induction s, t using Nat.gcd.induction with
  | H0 t =>
    intro _ b
    rw [Nat.gcd_zero_left]
    exact b
  | H1 s t hs ih =>
    intro a b
    rw [Nat.gcd_rec]
    exact ih (b.modd hm h0 a) a
theorem Leads.gdv {n : Nat} {C : Nat → Prop} (hm : ∀ x, C x → x < n) (h0 : 0 < n) : ∀ (ss : List Nat) (m : Nat), Leads n C m → (∀ s ∈ ss, Leads n C s) → Leads n C (gdv m ss)
  | [], m, a, _ => a
  | s :: r, m, a, h => Leads.gdv hm h0 r (Nat.gcd m s) (Leads.gcd hm h0 m s a (h s List.mem_cons_self)) fun t ht => h t (List.mem_cons_of_mem _ ht)
/-- a closed set with x has all of x's rest -/
theorem closed_all {n : Nat} {ss : List Nat} {C : Nat → Prop} (hm : ∀ x, C x → x < n) (h0 : 0 < n) (hc : ∀ s ∈ ss, Leads n C s) {x y : Nat} (hx : C x) (hy : y < n) (e : y % gdv n ss = x % gdv n ss) : C y := by
  have hg := Leads.gdv hm h0 ss n (Leads.n hm) hc
  have gp := gdv_pos (ss := ss) h0
  have hxn := hm x hx
  obtain ⟨m, hmn⟩ := gdv_dvd_n ss n
  have e1 : (y + n) % gdv n ss = x % gdv n ss := by
    rw [← e]
    conv => lhs; rw [hmn]
    rw [← hmn, show y + n = y + gdv n ss * m by rw [← hmn], Nat.add_mul_mod_self_left]
  obtain ⟨q, hq⟩ := Nat.dvd_of_mod_eq_zero (Nat.sub_mod_eq_zero_of_mod_eq e1)
  have h := hg.mul hm q x hx
  have e2 : x + q * gdv n ss = y + n := by rw [Nat.mul_comm]; omega
  rw [e2, Nat.add_mod_right, Nat.mod_eq_of_lt hy] at h
  exact h
theorem ringL_mem {n g r x : Nat} (hg : 0 < g) (hr : r < g) (hd : g ∣ n) : x ∈ ringL n g r ↔ x < n ∧ x % g = r := by
  obtain ⟨m, rfl⟩ := hd
  unfold ringL
  rw [Nat.mul_div_cancel_left m hg, List.mem_map]
  constructor
  · rintro ⟨i, hi, rfl⟩
    have hi := List.mem_range.mp hi
    have : (i + 1) * g ≤ m * g := Nat.mul_le_mul_right g hi
    rw [Nat.succ_mul] at this
    refine ⟨by rw [Nat.mul_comm g m]; omega, ?_⟩
    rw [Nat.add_mul_mod_self_right, Nat.mod_eq_of_lt hr]
  · rintro ⟨h1, h2⟩
    refine ⟨x / g, List.mem_range.mpr (Nat.div_lt_of_lt_mul h1), ?_⟩
    rw [← h2, Nat.mul_comm]
    exact Nat.mod_add_div x g
theorem ringL_asc {n g r : Nat} (hg : 0 < g) : (ringL n g r).Pairwise (· < ·) := by
  unfold ringL
  rw [List.pairwise_map]
  refine List.Pairwise.imp ?_ List.pairwise_lt_range
  intro a b h
  have := Nat.mul_lt_mul_of_pos_right h hg
  omega
/-- two ascending lists with the same members are one -/
theorem asc_ext : ∀ {l m : List Nat}, l.Pairwise (· < ·) → m.Pairwise (· < ·) → (∀ x, x ∈ l ↔ x ∈ m) → l = m
  | [], [], _, _, _ => rfl
  | [], b :: m, _, _, h => absurd ((h b).mpr List.mem_cons_self) (by simp)
  | a :: l, [], _, _, h => absurd ((h a).mp List.mem_cons_self) (by simp)
  | a :: l, b :: m, hl, hm, h => by
    have hl' := List.pairwise_cons.mp hl
    have hm' := List.pairwise_cons.mp hm
    have hab : a = b := by
      rcases List.mem_cons.mp ((h a).mp List.mem_cons_self) with e | e
      · exact e
      · rcases List.mem_cons.mp ((h b).mpr List.mem_cons_self) with e' | e'
        · exact e'.symm
        · have h1 := hm'.1 a e
          have h2 := hl'.1 b e'
          omega
    subst hab
    have := asc_ext hl'.2 hm'.2 fun x => by
      constructor
      · intro hx
        rcases List.mem_cons.mp ((h x).mp (List.mem_cons_of_mem _ hx)) with e | e
        · subst e
          have := hl'.1 x hx
          omega
        · exact e
      · intro hx
        rcases List.mem_cons.mp ((h x).mpr (List.mem_cons_of_mem _ hx)) with e | e
        · subst e
          have := hm'.1 x hx
          omega
        · exact e
    rw [this]

theorem rg_all : ∀ n : Fin 13, ∀ g : Fin 13, ∀ r : Fin 13, 0 < g.1 → r.1 < g.1 → n.1 % g.1 = 0 → Builtin.Range.small (r.1 : Int) (n.1 : Int) (g.1 : Int) = true ∧ Builtin.Range.rangeSize (r.1 : Int) (n.1 : Int) (g.1 : Int) = ((n.1 / g.1 : Nat) : Int) := by decide +kernel
theorem rg_ok {n g r : Nat} (hn : n ≤ 12) (hn0 : 0 < n) (hg : 0 < g) (hr : r < g) (hd : g ∣ n) : RgC (r : Int) (n : Int) (g : Int) (n / g) := by
  have hgn : g ≤ n := Nat.le_of_dvd hn0 hd
  have h := rg_all ⟨n, by omega⟩ ⟨g, by omega⟩ ⟨r, by omega⟩ hg hr (Nat.mod_eq_zero_of_dvd hd)
  exact ⟨by omega, by omega, h.1, h.2⟩
theorem gdv_take (n : Nat) {ss : List Nat} {i s : Nat} (h : ss[i]? = some s) : gdv n (ss.take (i + 1)) = Nat.gcd (gdv n (ss.take i)) s := by
  unfold gdv
  rw [List.take_add_one, h, List.foldl_append]
  rfl
def dN (l : List Nat) : PyData := .tuple (l.map fun (k : Nat) => PyData.int (k : Int))
/-- the rings of a game, as data -/
def ringsL (n : Nat) (ss : List Nat) : List (List Nat) := (List.range (gdv n ss)).map (ringL n (gdv n ss))
def ringsD (n : Nat) (ss : List Nat) : PyData := .list ((ringsL n ss).map dN)
theorem ringsL_at {n : Nat} {ss : List Nat} {i : Nat} (h : i < gdv n ss) : (ringsL n ss)[i]? = some (ringL n (gdv n ss) i) := by
  unfold ringsL
  rw [List.getElem?_map, List.getElem?_range h]
  rfl
theorem take_snoc {α : Type} {l : List α} {i : Nat} {x : α} (h : l[i]? = some x) : l.take (i + 1) = l.take i ++ [x] := by
  rw [List.take_add_one, h]
  rfl

/-! ### the closure, step by step -/
structure Own (n : Nat) (ss : List Nat) (f c : Nat) (own : List Nat) : Prop where
  hd : f ∈ own
  nd : own.Nodup
  lt : ∀ x ∈ own, x < n ∧ x % gdv n ss = f % gdv n ss
  cl : ∀ j x, j < c → own[j]? = some x → ∀ s ∈ ss, (x + s) % n ∈ own
structure OwnS (n : Nat) (ss : List Nat) (f c x j : Nat) (own : List Nat) : Prop where
  o : Own n ss f c own
  at_ : own[c]? = some x
  st : ∀ s ∈ ss.take j, (x + s) % n ∈ own
theorem Own.start {n f : Nat} {ss : List Nat} (h : f < n) : Own n ss f 0 [f] :=
  ⟨List.mem_cons_self, List.nodup_cons.mpr ⟨by simp, List.nodup_nil⟩, fun x hx => by rw [List.mem_singleton.mp hx]; exact ⟨h, rfl⟩, fun j x hj => absurd hj (Nat.not_lt_zero j)⟩
theorem Own.enter {n f c x : Nat} {ss own : List Nat} (h : Own n ss f c own) (hx : own[c]? = some x) : OwnS n ss f c x 0 own := ⟨h, hx, fun s hs => absurd hs (by simp)⟩
theorem Own.past {n f c : Nat} {ss own : List Nat} (h : Own n ss f c own) (hx : own.length ≤ c) : Own n ss f (c + 1) own :=
  ⟨h.hd, h.nd, h.lt, fun j x hj e s hs => by
    have := (List.getElem?_eq_some_iff.mp e).1
    exact h.cl j x (by omega) e s hs⟩
theorem OwnS.done {n f c x : Nat} {ss own : List Nat} (h : OwnS n ss f c x ss.length own) : Own n ss f (c + 1) own :=
  ⟨h.o.hd, h.o.nd, h.o.lt, fun j y hj e s hs => by
    by_cases hjc : j = c
    · subst hjc
      have q := h.at_
      rw [e] at q
      have e2 := Option.some.inj q
      subst e2
      have := h.st s
      rw [List.take_length] at this
      exact this hs
    · exact h.o.cl j y (by omega) e s hs⟩
theorem OwnS.has {n f c x j s : Nat} {ss own : List Nat} (h : OwnS n ss f c x j own) (hs : ss[j]? = some s) (hm : (x + s) % n ∈ own) : OwnS n ss f c x (j + 1) own :=
  ⟨h.o, h.at_, fun z hz => by
    rw [take_snoc hs] at hz
    rcases List.mem_append.mp hz with hz | hz
    · exact h.st z hz
    · rw [List.mem_singleton.mp hz]; exact hm⟩
theorem OwnS.more {n f c x j s : Nat} {ss own : List Nat} (n0 : 0 < n) (h : OwnS n ss f c x j own) (hs : ss[j]? = some s) (hm : (x + s) % n ∉ own) : OwnS n ss f c x (j + 1) (own ++ [(x + s) % n]) := by
  have hsm : s ∈ ss := List.mem_of_getElem? hs
  have hc := (List.getElem?_eq_some_iff.mp h.at_).1
  have hx := h.o.lt x (List.mem_of_getElem? h.at_)
  have up : ∀ {y}, y ∈ own → y ∈ own ++ [(x + s) % n] := fun hy => List.mem_append_left _ hy
  refine ⟨⟨up h.o.hd, ?_, fun y hy => ?_, fun i y hi e z hz => ?_⟩, ?_, fun z hz => ?_⟩
  · rw [List.nodup_append]
    exact ⟨h.o.nd, List.nodup_cons.mpr ⟨by simp, List.nodup_nil⟩, fun a ha b hb e => by rw [List.mem_singleton.mp hb] at e; subst e; exact hm ha⟩
  · rcases List.mem_append.mp hy with hy | hy
    · exact h.o.lt y hy
    · rw [List.mem_singleton.mp hy]
      refine ⟨Nat.mod_lt _ n0, ?_⟩
      rw [Nat.mod_mod_of_dvd _ (gdv_dvd_n ss n), Nat.add_mod, Nat.mod_eq_zero_of_dvd (gdv_dvd_s ss n s hsm), Nat.add_zero, Nat.mod_mod]
      exact hx.2
  · rw [List.getElem?_append_left (by omega)] at e
    exact up (h.o.cl i y hi e z hz)
  · rw [List.getElem?_append_left hc]
    exact h.at_
  · rw [take_snoc hs] at hz
    rcases List.mem_append.mp hz with hz | hz
    · exact up (h.st z hz)
    · rw [List.mem_singleton.mp hz]
      exact List.mem_append_right _ List.mem_cons_self
theorem nodup_le : ∀ (n : Nat) (l : List Nat), l.Nodup → (∀ x ∈ l, x < n) → l.length ≤ n
  | 0, l, _, h => by
    cases l with
    | nil => exact Nat.le_refl _
    | cons a r => exact absurd (h a List.mem_cons_self) (Nat.not_lt_zero a)
  | n + 1, l, nd, h => by
    have h1 := nodup_le n (l.erase n) (nd.erase n) fun x hx => by
      have hx' := nd.mem_erase_iff.mp hx
      have := h x hx'.2
      have := hx'.1
      omega
    by_cases hm : n ∈ l
    · rw [List.length_erase_of_mem hm] at h1
      omega
    · rw [List.erase_of_not_mem hm] at h1
      omega
theorem Own.all {n f c : Nat} {ss own : List Nat} (h : Own n ss f c own) (hc : own.length ≤ c) (n0 : 0 < n) (x : Nat) : x ∈ own ↔ x < n ∧ x % gdv n ss = f % gdv n ss := by
  refine ⟨h.lt x, fun ⟨h1, h2⟩ => ?_⟩
  refine closed_all (ss := ss) (C := fun y => y ∈ own) (fun y hy => (h.lt y hy).1) n0 (fun s hs y hy => ?_) h.hd h1 h2
  obtain ⟨j, hj, e⟩ := List.getElem_of_mem hy
  exact h.cl j y (by omega) (by rw [List.getElem?_eq_getElem hj, e]) s hs
theorem Own.len {n f c : Nat} {ss own : List Nat} (h : Own n ss f c own) : own.length ≤ n := nodup_le n own h.nd fun x hx => (h.lt x hx).1
theorem asc_extI : ∀ {l m : List Int}, l.Pairwise (· < ·) → m.Pairwise (· < ·) → (∀ x, x ∈ l ↔ x ∈ m) → l = m
  | [], [], _, _, _ => rfl
  | [], b :: m, _, _, h => absurd ((h b).mpr List.mem_cons_self) (by simp)
  | a :: l, [], _, _, h => absurd ((h a).mp List.mem_cons_self) (by simp)
  | a :: l, b :: m, hl, hm, h => by
    have hl' := List.pairwise_cons.mp hl
    have hm' := List.pairwise_cons.mp hm
    have hab : a = b := by
      rcases List.mem_cons.mp ((h a).mp List.mem_cons_self) with e | e
      · exact e
      · rcases List.mem_cons.mp ((h b).mpr List.mem_cons_self) with e' | e'
        · exact e'.symm
        · have h1 := hm'.1 a e
          have h2 := hl'.1 b e'
          omega
    subst hab
    have := asc_extI hl'.2 hm'.2 fun x => by
      constructor
      · intro hx
        rcases List.mem_cons.mp ((h x).mp (List.mem_cons_of_mem _ hx)) with e | e
        · subst e
          have := hl'.1 x hx
          omega
        · exact e
      · intro hx
        rcases List.mem_cons.mp ((h x).mpr (List.mem_cons_of_mem _ hx)) with e | e
        · subst e
          have := hm'.1 x hx
          omega
        · exact e
    rw [this]
theorem sorted_asc {l : List Int} (h : l.Pairwise (· ≤ ·)) (nd : l.Nodup) : l.Pairwise (· < ·) := by
  refine (h.and nd).imp fun {a b} q => ?_
  have := q.1
  have := q.2
  omega
/-- sorted(own) -/
theorem own_sorted {own l : List Nat} {ns : List Int} (hp : ns.Perm (own.map fun (k : Nat) => (k : Int))) (hs : ns.Pairwise (· ≤ ·)) (nd : own.Nodup) (hl : l.Pairwise (· < ·)) (hm : ∀ x, x ∈ own ↔ x ∈ l) : ns = l.map fun (k : Nat) => (k : Int) := by
  have ndI : (own.map fun (k : Nat) => (k : Int)).Nodup := by
    rw [List.Nodup, List.pairwise_map]
    refine nd.imp fun {a b} h e => h ?_
    omega
  have nd2 : ns.Nodup := hp.nodup_iff.mpr ndI
  refine asc_extI (sorted_asc hs nd2) ?_ fun x => ?_
  · rw [List.pairwise_map]
    refine hl.imp fun {a b} h => ?_
    omega
  · rw [hp.mem_iff, List.mem_map, List.mem_map]
    constructor
    · rintro ⟨a, h, e⟩
      exact ⟨a, (hm a).mp h, e⟩
    · rintro ⟨a, h, e⟩
      exact ⟨a, (hm a).mpr h, e⟩
end Sw
set_option maxRecDepth 100000
set_option maxHeartbeats 4000000
/-! Own errors with one field: raised, caught by several clauses (each with or without a name), calls that may raise. -/
namespace SwV
open PySem PySem.Spec PyProof.Rows L2
/-! ### an own error with one field, set by its __init__ -/
def tMkF (C : Addr) (fld : Str) (ta : TA) : L2.St → Hp → XK → Prop := fun σ H Q => ta σ H fun vs H1 => ∃ v, vs = [v] ∧ ∀ d, H1 d = none → Q (.ref C) (some d) (upd H1 d (.xd [(fld, v)]))
def spIniF (C : Addr) (fld : Str) : Sp := fun vs H Q _ => ∃ (a : Addr) (v : V), vs = [.ref a, v] ∧ H a = some (exo a C none) ∧ ∀ dx, H dx = none → dx ≠ a → Q .non (upd (upd H dx (exd dx [(fld, v)])) a (exo a C (some dx)))
structure ExF (P : Program) (w : World) (K : PySem.W.Frag) (mg : Str → Option Value) (base : Heap) (nm : Str) (C : Addr) (fld : Str) : Prop where
  o : OexC K C
  x : XfC K C
  no : PySem.W.findIn K (.ref C) fld = some none
  g : mg nm = some (.ref C)
  e : PySem.W.exmOne K (.ref C) (.ref C) = some true
  ini : ∃ (fI : Addr) (fd : FuncData) (ps : List Str), PySem.W.findIn K (.ref C) "__init__" = some (some (.ref fI)) ∧ PySem.W.typeIn K (.ref fI) = some (.type "function") ∧ FnOk P w K mg base L2.CX0 1 fI fd ps (spIniF C fld) ∧ Binds K fd ps []
/-- the reading of arguments with the wish fixed -/
def fixA (σ0 : L2.St) (H0 : Hp) (R : List V → Hp → Prop) (q : Prop) : TA := fun σ H Q => σ = σ0 ∧ H = H0 ∧ q ∧ ∀ vs H1, R vs H1 → Q vs H1
theorem pa_fix {X : Cx} {es : List Expr} {ta : TA} (h : PA X es ta) {σ0 : L2.St} {H0 : Hp} {R : List V → Hp → Prop} : PA X es (fixA σ0 H0 R (ta σ0 H0 R)) :=
  ⟨fun pos pins s σ H Q I ⟨e1, e2, q, k⟩ => by
    subst e1 e2
    exact thn (h.run pos pins s σ H R I q) fun us s1 ⟨vs, H1, I1, r, z⟩ => ⟨vs, H1, I1, r, k _ _ z⟩⟩
theorem pmk_exf {X : Cx} {x fld : Str} {C : Addr} {j : Nat} {e : Expr} {ta : TA} {p pos : Pos} (T : ExF X.prog X.w X.K X.mg X.base x C fld) (hr : Room j X.A) (hj : 2 ≤ j) (hg : Gl X x) (ha : PA X [e] ta)
    (hdb : (x == ("__debug__" : Str)) = false := by decide) (he : starEach [e] X.env = (false, eval e X.env) :: starEach [] X.env := by rfl) (hpl : (backTo pos (starEach [] X.env)).any (·.1) = false := by rfl) :
    PMk X (.Call (.Name x p) [e] [] pos) (tMkF C fld ta) := by
  intro pins s σ H Q I h
  obtain ⟨fI, fd, ps, iC, tI, F1, hb⟩ := T.ini
  refine pmk_oex T.o iC tI F1 (hr.mono hj) hb .nil pass0 hg T.g (pa_fix ha (σ0 := σ) (H0 := H) (R := fun vs H1 => ∃ v, vs = [v] ∧ ∀ d, H1 d = none → Q (.ref C) (some d) (upd H1 d (.xd [(fld, v)])))) hdb he hpl pins s σ H Q I ⟨rfl, rfl, h, ?_⟩
  rintro vs H1 ⟨v, rfl, q⟩
  refine ⟨by show 1 ≤ 1000; decide, fun a na => ?_⟩
  refine ⟨a, v, rfl, upd_same, fun dx nd ne => ⟨rfl, dx, [(fld, v)], upd_same, ?_, ?_, ?_⟩⟩
  · rw [upd_ne ne]
    exact upd_same
  · rw [upd_ne ne] at nd
    exact nd
  · rw [upd_ne ne] at nd
    have e : upd (del (upd (upd (upd H1 a (exo a C none)) dx (exd dx [(fld, v)])) a (exo a C (some dx))) a) dx (.xd [(fld, v)]) = upd H1 dx (.xd [(fld, v)]) := by
      funext b
      by_cases h1 : b = dx
      · subst h1
        rw [upd_same, upd_same]
      · rw [upd_ne h1, upd_ne h1]
        by_cases h2 : b = a
        · subst h2
          rw [del_same, na]
        · rw [del_ne h2, upd_ne h2, upd_ne h1, upd_ne h2]
    rw [e]
    exact q dx nd
/-! ### calls that may raise -/
section
variable {X : Cx} {k j : Nat} {x m : Str} {C f : Addr} {fd : FuncData} {ps : List Str} {sp : Sp} {dvs : List V} {ds : List Value} {p pos apos : Pos} {e o : Expr} {es : List Expr} {ta : TE} {t : TA} {W : WX}
structure CalX (P : Program) (w : World) (K : PySem.W.Frag) (mg : Str → Option Value) (base : Heap) (k : Nat) (x : Str) (sp : Sp) (dvs : List V) : Prop where
  ex : ∃ (f : Addr) (fd : FuncData) (ps : List Str) (ds : List Value), FnOk P w K mg base (L2.CX P w) k f fd ps sp ∧ mg x = some (.ref f) ∧ PySem.W.keepIn K (.ref f) = true ∧ Binds K fd ps ds ∧ Vals dvs ds
structure MetX (P : Program) (w : World) (K : PySem.W.Frag) (mg : Str → Option Value) (base : Heap) (k : Nat) (C : Addr) (m : Str) (sp : Sp) (dvs : List V) : Prop where
  ex : ∃ (f : Addr) (fd : FuncData) (ps : List Str) (ds : List Value), Cls K C ∧ Meth K C m f ∧ FnOk P w K mg base (L2.CX P w) k f fd ps sp ∧ Binds K fd ps ds ∧ Vals dvs ds
structure MakX (P : Program) (w : World) (K : PySem.W.Frag) (mg : Str → Option Value) (base : Heap) (k : Nat) (x : Str) (C : Addr) (sp : Sp) (dvs : List V) : Prop where
  ex : ∃ (f : Addr) (fd : FuncData) (ps : List Str) (ds : List Value), Mk K C f ∧ FnOk P w K mg base (L2.CX P w) k f fd ps sp ∧ mg x = some (.ref C) ∧ Binds K fd ps ds ∧ Vals dvs ds
/-- a def's body, run where it may raise -/
theorem runX {pins : List (Addr × Obj)} {σ : L2.St} {H : Hp} {s : Shared} {Q : VK} {us : List Value} {vs : List V} (G : FnOk X.prog X.w X.K X.mg X.base (L2.CX X.prog X.w) k f fd ps sp) (hr : Room k X.A) (hb : Binds X.K fd ps ds) (hd : Vals dvs ds)
    (tk : Takes X W) (I : Inv X pins σ H s) (r : Vals vs us) (q : sp (vs ++ dvs) H Q (WE W σ)) : wpAny (model X.prog X.w) X.A (call (.ref f) us) (EP X pins σ Q) X.xe s := by
  have rd := r.append hd
  have n : (us ++ ds).length = ps.length := rd.length.symm.trans (G.len _ _ _ _ q)
  refine wpAny_call (codeAny_mono (G.run X.A X.stack s H ⟨us, []⟩ _ _ Q (WE W σ) hr I.env0 (hb s us I.kIn n) rd q) ?_)
  rintro (z | (_ | _ | _ | u)) s' hz
  · exact passAt tk σ pins H s z s' I hz
  · exact False.elim hz
  · exact False.elim hz
  · exact False.elim hz
  · exact I.after hz
/-- .. a class made -/
theorem makX {pins : List (Addr × Obj)} {σ : L2.St} {H : Hp} {s : Shared} {Q : VK} {us : List Value} {vs : List V} (M : Mk X.K C f) (G : FnOk X.prog X.w X.K X.mg X.base (L2.CX X.prog X.w) k f fd ps sp) (hr : Room (k + 1) X.A) (hb : Binds X.K fd ps ds) (hd : Vals dvs ds)
    (tk : Takes X W) (I : Inv X pins σ H s) (r : Vals vs us) (q : ∀ y dy, H y = none → H dy = none → dy ≠ y → sp (.ref y :: (vs ++ dvs)) (upd (upd H dy (.own y)) y (.ins C dy [])) (fun v H2 => v = .non ∧ Q (.ref y) H2) (WE W σ)) :
    wpAny (model X.prog X.w) X.A (call (.ref C) us) (EP X pins σ Q) X.xe s := by
  have f0 : H s.heap.objs.size = none := I.hok.fresh (Nat.le_refl _)
  have f1 : H (s.heap.objs.size + 1) = none := I.hok.fresh (Nat.le_succ _)
  have qq := q _ _ f1 f0 (Nat.ne_of_lt (Nat.lt_succ_self _))
  have J := Inv.made (C := C) I
  have rd : Vals (V.ref (s.heap.objs.size + 1) :: (vs ++ dvs)) (Value.ref (s.heap.objs.size + 1) :: us ++ ds) := .cons rfl (r.append hd)
  have n : (Value.ref (s.heap.objs.size + 1) :: us ++ ds).length = ps.length := rd.length.symm.trans (G.len _ _ _ _ qq)
  refine wpAny_call (make_map (f := f) I.kIn M.makes M.init (beq_iff_eq.mp M.fn) (codeAny_mono (G.run _ X.stack _ _ ⟨.ref (s.heap.objs.size + 1) :: us, []⟩ _ _ _ (WE W σ) (hr.make C us []) (J.env0.make C us []) (hb _ (Value.ref (s.heap.objs.size + 1) :: us) J.kIn n) rd qq) ?_))
  rintro (z | (_ | _ | _ | u)) s' hz
  · exact passAt tk σ pins _ _ z s' J hz
  · exact False.elim hz
  · exact False.elim hz
  · exact False.elim hz
  · obtain ⟨v, H', J', rv, ev, q3⟩ := J.after hz
    subst ev
    exact ⟨rv, ⟨V.ref (s.heap.objs.size + 1), H', J', rfl, q3⟩⟩
theorem pe_cx (c : CalX X.prog X.w X.K X.mg X.base k x sp dvs) (hr : Room j X.A) (hk : k ≤ j) (hg : Gl X x) (tk : Takes X W) (ha : PA X (e :: es) t)
    (hdb : (x == ("__debug__" : Str)) = false := by decide) (he : starEach (e :: es) X.env = (false, eval e X.env) :: starEach es X.env := by rfl) (hpl : (backTo pos (starEach es X.env)).any (·.1) = false := by rfl) :
    PE X (.Call (.Name x p) (e :: es) [] pos) (fun σ H Q => t σ H fun vs H1 => sp (vs ++ dvs) H1 Q (WE W σ)) := by
  obtain ⟨f, fd, ps, ds, G, hm, kp, b, d⟩ := c.ex
  exact ⟨fun pins s σ H Q I h => wpAny_Call_Name_kw (ld_glob I hg hm (PySem.W.callWith_K (h₀ := X.base) I.ok.mod.kin kp (thn (ha.run pos pins s σ H _ I h) fun us s1 ⟨vs, H1, I1, r, q⟩ => ⟨I1.kIn, runX G (hr.mono hk) b d tk I1 r q⟩) he hpl) hdb)⟩
theorem pe_mkx (c : MakX X.prog X.w X.K X.mg X.base k x C sp dvs) (hr : Room j X.A) (hk : k + 1 ≤ j) (hg : Gl X x) (tk : Takes X W) (ha : PA X (e :: es) t)
    (hdb : (x == ("__debug__" : Str)) = false := by decide) (he : starEach (e :: es) X.env = (false, eval e X.env) :: starEach es X.env := by rfl) (hpl : (backTo pos (starEach es X.env)).any (·.1) = false := by rfl) :
    PE X (.Call (.Name x p) (e :: es) [] pos) (fun σ H Q => t σ H fun vs H1 => ∀ y dy, H1 y = none → H1 dy = none → dy ≠ y → sp (.ref y :: (vs ++ dvs)) (upd (upd H1 dy (.own y)) y (.ins C dy [])) (fun v H2 => v = .non ∧ Q (.ref y) H2) (WE W σ)) := by
  obtain ⟨f, fd, ps, ds, M, G, hm, b, d⟩ := c.ex
  exact ⟨fun pins s σ H Q I h => wpAny_Call_Name_kw (ld_glob I hg hm (PySem.W.callWith_K (h₀ := X.base) I.ok.mod.kin M.kp (thn (ha.run pos pins s σ H _ I h) fun us s1 ⟨vs, H1, I1, r, q⟩ => ⟨I1.kIn, makX M G (hr.mono hk) b d tk I1 r q⟩) he hpl) hdb)⟩
theorem pe_mtx {pl : Sem Bool} (c : MetX X.prog X.w X.K X.mg X.base k C m sp dvs) (hr : Room j X.A) (hk : k ≤ j) (tk : Takes X W) (hv : PE X o ta) (ha : PA X (e :: es) t)
    (hst : starEach (e :: es) X.env = (false, eval e X.env) :: starEach es X.env := by rfl) (hpl : (backTo pos (starEach es X.env)).any (·.1) = false := by rfl)
    (ht : eval (.Call (.Attribute o m apos) (e :: es) [] pos) X.env = (eval o X.env >>= fun ov => standAt apos.atName >>= fun _ => holding [ov] (getMethod ov m pl) >>= fun g => callWith pos g.1 g.2 (backTo pos (starEach (e :: es) X.env)) (backToKw pos (keywordEach [] X.env))) := by rfl) :
    PE X (.Call (.Attribute o m apos) (e :: es) [] pos) (fun σ H Q => ta σ H fun y H1 => ∃ a dy fs, y = .ref a ∧ H1 a = some (.ins C dy fs) ∧ fs.lookup m = none ∧ t σ H1 fun vs H2 => sp (.ref a :: (vs ++ dvs)) H2 Q (WE W σ)) := by
  obtain ⟨f, fd, ps, ds, cl, hm, G, b, d⟩ := c.ex
  refine ⟨fun pins s σ H Q I h => PySem.W.methodCall_KW (pl := pl) (thn (hv.run pins s σ H _ I h) ?_) ht⟩
  rintro u s1 ⟨y, H1, I1, ry, a, dy, fs, rfl, ea, l, q⟩
  obtain rfl : u = Value.ref a := ry
  exact getmeth_ok I1 ea cl hm l (PySem.W.callWith_K (first := [.ref a]) (h₀ := X.base) I.ok.mod.kin hm.kp (thn (ha.run pos pins s1 σ H1 _ I1 q) fun us s2 ⟨vs, H2, I2, r, q2⟩ => ⟨I2.kIn, runX (us := .ref a :: us) (vs := .ref a :: vs) G (hr.mono hk) b d tk I2 (.cons rfl r) q2⟩) hst hpl)
end
/-! ### several except clauses, each with a name or without -/
abbrev Clause := Value × Option Nat × (Addr → Value → Option Addr → TS)
/-- behind a suite the slot of its name is empty -/
def noSlot (D : Ends) (i : Nat) : Ends := { nx := fun σ H => D.nx (σ.set i none) H, rt := D.rt, bk := fun σ H => D.bk (σ.set i none) H, ct := fun σ H => D.ct (σ.set i none) H }
def wMix (K : PySem.W.Frag) (Wout : WX) (D : Ends) : List Clause → WX
  | [] => Wout
  | (c, none, ts) :: r => fun cls d σ H => ∃ b, PySem.W.exmOne K cls c = some b ∧ (b = true → ∀ a, H a = none → ts a cls d D σ H) ∧ (b = false → wMix K Wout D r cls d σ H)
  | (c, some i, ts) :: r => fun cls d σ H => ∃ b, PySem.W.exmOne K cls c = some b ∧ (b = true → ∀ a, H a = none → ts a cls d (noSlot D i) (σ.set i (some (.ref a))) H) ∧ (b = false → wMix K Wout D r cls d σ H)
/-- a suite does what its reading says, whatever error it holds -/
def SuiteOk (X : Cx) (st : List Stmt) (ts : Addr → Value → Option Addr → TS) : Prop := ∀ (a : Addr) (oe : Obj) (cls : Value) (d : Option Addr) (pn : List (Addr × Obj)), Zc cls d oe → (∃ fv, oe.data = .fields fv) → PSs (X.suite a ((a, oe) :: pn)) st (ts a cls d)
inductive HdX (X : Cx) : List ExceptHandler → List Clause → Prop
  | nil : HdX X [] []
  | plain {x : Str} {c : Value} {ts : Addr → Value → Option Addr → TS} {b0 : Stmt} {bs : List Stmt} {p1 p2 : Pos} {hs : List ExceptHandler} {l : List Clause} (hc : Names X x c) (su : SuiteOk X (b0 :: bs) ts) (r : HdX X hs l) :
      HdX X (.ExceptHandler (some (.Name x p1)) none (b0 :: bs) p2 :: hs) ((c, none, ts) :: l)
  | named {x n : Str} {i : Nat} {c : Value} {ts : Addr → Value → Option Addr → TS} {b0 : Stmt} {bs : List Stmt} {p1 p2 : Pos} {hs : List ExceptHandler} {l : List Clause} (hc : Names X x c) (hN : X.N.Nodup) (hi : X.N[i]? = some n) (hl : X.env.kindOf n = some .local)
      (su : SuiteOk X (b0 :: bs) ts) (r : HdX X hs l) : HdX X (.ExceptHandler (some (.Name x p1)) (some n) (b0 :: bs) p2 :: hs) ((c, some i, ts) :: l)
section
variable {X : Cx} {body : List Stmt} {h0 : ExceptHandler} {hs : List ExceptHandler} {l : List Clause} {pos : Pos} {tb : WX → TS} {Wout : WX}
theorem ps_try_mix (hst : X.stack = X.env :: X.outer) (hfm : X.env.frame = some X.env.locals) (tk : Takes X Wout)
    (hb : ∀ (W : WX) (pn : List (Addr × Obj)) (xe : Value → Shared → Prop), Takes (X.tr pn xe) W → PassesOwn (model X.prog X.w) X.A X.env xe → PSs (X.tr pn xe) body (tb W)) (hh : HdX X (h0 :: hs) l) :
    PS X (.Try body (h0 :: hs) [] [] pos) (fun D σ H => tb (wMix X.K Wout D l) D σ H) := by
  constructor
  intro pins s σ H D I h
  have fr : X.A.frames = some (X.env :: X.outer) := I.ok.frames.trans (congrArg some hst)
  -- what the body leaves by itself
  have quiet : ∀ (f : Flow) (s1 : Shared), SP (X.tr (X.pn ++ pins) (fun e s₁ => wpAny (model X.prog X.w) X.A (noteFrame e X.env) (fun _ s₂ => wpAny (model X.prog X.w) X.A (setFlight e none) (fun _ s₃ => wpAny (model X.prog X.w) X.A (handleBy e X.env (h0 :: hs)) (SP X pins D) X.xe s₃) X.xe s₂) X.xe s₁)) [] D f s1 →
      SP X pins D f s1 := by
    rintro (_ | _ | _ | u) s1 z
    iterate 3
      · obtain ⟨σ1, H1, J, q⟩ := z
        exact ⟨σ1, H1, J.ofTry I.ok, q⟩
    obtain ⟨v, σ1, H1, J, r, q⟩ := z
    exact ⟨v, σ1, H1, J.ofTry I.ok, r, q⟩
  refine wpAny_Try_except (wpAny_mono ((hb (wMix X.K Wout D l) (X.pn ++ pins) _ (fun u s1 xx => ?_) PassesOwn.looking).run [] s σ H D (I.toTry _) h) ?_ fun _ _ he => he)
  · obtain ⟨a, B, s0, pn', σ1, H1, cls, d, rfl, J0, nb, up, sky, na, os, ag, wish⟩ := xx
    have J : Inv X pins σ1 H1 s0 := J0.ofTry I.ok
    rw [show (X.tr (X.pn ++ pins) _).stack = X.env :: X.outer from hst] at sky
    refine Sky.land Zc.steady fr hfm sky fun g3 fly up3 => ?_
    have J3 : Inv X pins σ1 H1 { s1 with heap := g3 } := J.landed nb fly.1 (up.trans up3) os ag
    obtain ⟨o3, v3, ho3, hz3, hd3⟩ := fly.there
    have off : a ∉ frs (X.env :: X.outer) := fun hm => by
      obtain ⟨_, o', ho', hn⟩ := fly.2.2.1.mem hm
      rw [ho3] at ho'
      cases ho'
      exact hn _ hd3
    have offL : a ≠ X.env.locals := fun z => off (List.mem_filterMap.mpr ⟨X.env, List.mem_cons_self, hfm.trans (congrArg some z.symm)⟩)
    have offF : a ∉ X.fs := fun hm => by
      obtain ⟨e1, he1, q1⟩ := List.mem_filterMap.mp hm
      exact off (List.mem_filterMap.mpr ⟨e1, List.mem_cons_of_mem _ he1, q1⟩)
    have S3 := J3.suite ho3 hd3 na offL offF
    -- the class's name is read
    have name : ∀ {x : Str} {c : Value} {np : Pos} {Q : Value → Shared → Prop} {E : Value → Shared → Prop}, Names X x c → Q c { s1 with heap := g3 } → wpAny (model X.prog X.w) (X.A.mark (some (.ref a))) (eval (.Name x np) X.env) Q E { s1 with heap := g3 } := by
      rintro x c np Q E ⟨gl, nd, m1 | ⟨m0, bb, nn⟩⟩ q
      · exact ld_glob (X := X.suite a ((a, o3) :: (X.pn ++ pins))) S3 gl m1 q nd
      · exact ld_blt (X := X.suite a ((a, o3) :: (X.pn ++ pins))) S3 gl m0 bb q nn nd
    have LT : PySem.W.Looks (model X.prog X.w) g3 (typeOf (.ref a)) cls := fun _ _ _ _ k q => wpAny_typeOf_ref (k _ _ ho3) (by rw [hz3.1]; exact q)
    have go : ∀ {hs' : List ExceptHandler} {l' : List Clause}, HdX X hs' l' → wMix X.K Wout D l' cls d σ1 H1 → wpAny (model X.prog X.w) X.A (handleBy (.ref a) X.env hs') (SP X pins D) X.xe { s1 with heap := g3 } := by
      intro hs' l' hk
      induction hk with
      | nil =>
        intro w
        obtain ⟨-, -, -, oe, vs, T, oT, ts', he, hz, hd, h1, -⟩ := id fly
        refine wpAny_handleBy_nil ?_
        have out : wpAny (model X.prog X.w) X.A (setFlight (.ref a) X.env.frame) (fun _ s4 => wpAny (model X.prog X.w) X.A (throw (.ref a) : Sem Flow) (SP X pins D) X.xe s4) X.xe { s1 with heap := g3 } := by
          rw [hfm]
          exact HandSPX.setFlight_upZ fly fun g4 hh4 up4 => wpAny_throw (tk _ _ ⟨a, B, s0, pins, σ1, H1, cls, d, rfl, J, nb, (up.trans up3).trans up4, .inr (.inr (hst ▸ hh4)), na, os, ag, w⟩)
        unfold PySem.passOn
        refine wpAny_bind (wpAny_field he hd h1 ?_)
        rw [if_neg (show ¬ ((Value.ref T == Value.none) = true) from by simp)]
        first
          | exact wpAny_bind (wpAny_pure (wpAny_bind out))
          | exact wpAny_bind out
      | plain hc su r ih =>
        rintro ⟨b, hb1, yes, no⟩
        refine wpAny_handleBy_cons (codeAny_handlers_test (name hc ((PySem.W.exm_one (M := model X.prog X.w) J3.kIn LT hb1).here ?_))) (by intro q; cases q)
        cases b with
        | false => exact ih (no rfl)
        | true =>
          refine codeAny_handlers_suite (HandSPX.lands_againZ fly fun g4 fly4 up4 => ?_)
          have J4 : Inv X pins σ1 H1 { s1 with heap := g4 } := J.landed nb fly4.1 ((up.trans up3).trans up4) os ag
          obtain ⟨o4, v4, ho4, hz4, hd4⟩ := fly4.there
          refine wpAny_mono ((su a o4 cls d (X.pn ++ pins) hz4 ⟨_, hd4⟩).run [] _ _ H1 _ (J4.suite ho4 hd4 na offL offF) (yes rfl a na)) ?_ (fun _ _ z => z.elim)
          rintro (_ | _ | _ | u) s6 z
          iterate 3
            · obtain ⟨σ6, H6, S6, q6⟩ := z
              exact ⟨_, _, S6.unsuite I.ok, q6⟩
          obtain ⟨v6, σ6, H6, S6, r6, q6⟩ := z
          exact ⟨_, _, _, S6.unsuite I.ok, r6, q6⟩
      | named hc hN hi hl su r ih =>
        rintro ⟨b, hb1, yes, no⟩
        refine wpAny_handleBy_cons (codeAny_handlers_test (name hc ((PySem.W.exm_one (M := model X.prog X.w) J3.kIn LT hb1).here ?_))) (by intro q; cases q)
        cases b with
        | false => exact ih (no rfl)
        | true =>
          refine codeAny_handlers_suite_as (HandSPX.lands_againZ fly fun g4 fly4 up4 => ?_)
          have J4 : Inv X pins σ1 H1 { s1 with heap := g4 } := J.landed nb fly4.1 ((up.trans up3).trans up4) os ag
          obtain ⟨o4, v4, ho4, hz4, hd4⟩ := fly4.there
          have S4 := J4.suite ho4 hd4 na offL offF
          refine store_ok (X := X.suite a ((a, o4) :: (X.pn ++ pins))) (v := .ref a) S4 hN hi (.inl hl) rfl (fun s5 S5 => wpAny_mono ((su a o4 cls d (X.pn ++ pins) hz4 ⟨_, hd4⟩).run [] s5 _ H1 _ S5 (yes rfl a na)) ?_ (fun _ _ z => z.elim)) (.inr hl)
          rintro (_ | _ | _ | u) s6 z
          iterate 3
            · obtain ⟨σ6, H6, S6, q6⟩ := z
              exact gone_ok (S6.unsuite I.ok) hN hi hl fun s7 J7 => ⟨_, _, J7, q6⟩
          obtain ⟨v6, σ6, H6, S6, r6, q6⟩ := z
          exact gone_ok (S6.unsuite I.ok) hN hi hl fun s7 J7 => ⟨_, _, _, J7, r6, q6⟩
    exact go hh wish
  · rintro f s1 z
    have y := quiet f s1 z
    cases f with
    | next => exact wpAny_execs_nil y
    | brk => exact y
    | cont => exact y
    | ret u => exact y
end
end SwV
namespace SwV
open PySem PySem.Spec PyProof.Rows L2
/-- a walk over one of two things -/
theorem pi_or {X : Cx} {tg it : Expr} {w1 w2 : TI} (h1 : PI X tg it w1) (h2 : PI X tg it w2) : PI X tg it (fun σ H R => w1 σ H R ∨ w2 σ H R) :=
  ⟨fun pins s σ H R I h => h.elim (h1.run pins s σ H R I) (h2.run pins s σ H R I)⟩
/-- a value read in one of two ways -/
theorem pe_either {X : Cx} {e : Expr} {t1 t2 : TE} (h1 : PE X e t1) (h2 : PE X e t2) : PE X e (fun σ H Q => t1 σ H Q ∨ t2 σ H Q) :=
  ⟨fun pins s σ H Q I h => h.elim (h1.run pins s σ H Q I) (h2.run pins s σ H Q I)⟩
end SwV
theorem SwV.iteNT {c A B : Prop} [Decidable c] (hc : ¬ c) (h : A) : if (!decide c) = true then A else B := by
  rw [decide_eq_false hc]
  exact if_pos rfl ▸ h
/-- what is new may be forgotten -/
theorem Sw.Fr.still {M : PySem.Addr → Prop} {S H S1 H1 : L2.Hp} (f : Sw.Fr M S H S1 H1) : Sw.Fr M S H S H1 := ⟨L2.Same.refl S, f.a.trans f.b, f.c, fun _ _ e => e, f.e⟩
namespace SwV
open PySem PySem.Spec PyProof.Rows L2
/-! ### == by an own __eq__, whatever its answer -/
structure EqO (P : Program) (w : World) (K : PySem.W.Frag) (mg : Str → Option Value) (base : Heap) (n : Nat) (C : Addr) (sp : Sp) : Prop where
  ex : ∃ (f : Addr) (fd : FuncData) (ps : List Str), FnOk P w K mg base L2.CX0 n f fd ps sp ∧ PySem.W.findIn K (.ref C) "__eq__" = some (some (.ref f)) ∧ PySem.W.isFn K (.ref f) = true ∧ Binds K fd ps []
def rEqO (K : PySem.W.Frag) (C : Addr) (sp : Sp) : R2 := fun x y H Q => ∃ a dx fs t, x = .ref a ∧ H a = some (.ins C dx fs) ∧ TyX K H y t ∧ PySem.W.notFirst K C t = true ∧ sp [.ref a, y] H (fun v H' => (∃ b, v = .bl b) ∧ Q v H') (fun _ _ _ => False)
theorem op_eqc {X : Cx} {n j : Nat} {C : Addr} {sp : Sp} (c : EqO X.prog X.w X.K X.mg X.base n C sp) (hr : Room j X.A) (hn : n ≤ j) : OpR X (compareOp .Eq) (rEqO X.K C sp) := by
  intro pins s σ H x y v u Q I rx ry h
  obtain ⟨f, fd, ps, F, hs, hf, hb⟩ := c.ex
  obtain ⟨a, dx, fs, t, rfl, ha, ty, nf, hq⟩ := h
  cases rx
  obtain ⟨mA, J, _⟩ := ins_get I.hok ha
  obtain ⟨od, J, _⟩ := J.look
  obtain ⟨m, hF⟩ := I.fr
  obtain ⟨P, Z, p, -⟩ := kit_of I ry ty
  refine PySem.W.cmp_K (op := .Eq) (tb := t) hr.units0 hF I.ok.mod.kin J (Z.ty _ _ I.kIn p) nf hs hf ?_
  refine wpAny_mono (run_fn (us := [.ref a, u]) (vs := [.ref a, y]) (dvs := []) (ds := []) F (hr.mono hn) hb .nil (L2.pass0 (X := X)) I (.cons rfl (.cons ry .nil)) hq) (fun r s' z => ?_) fun _ _ x => x
  obtain ⟨z, H', I', rz, ⟨b, ez⟩, q⟩ := z
  subst ez
  cases rz
  exact ⟨.bl b, H', I', rfl, q⟩
end SwV
theorem SwV.exm_of {K : PySem.W.Frag} {cls : PySem.Value} {S : PySem.Addr} {b : Bool} (h1 : PySem.W.subIn K (.ref S) (.type "BaseException") = some true) (h2 : PySem.W.isClsIn K S = true) (h3 : PySem.W.typeIn K (.ref S) = some (.type "type")) (h4 : PySem.W.subIn K cls (.ref S) = some b) :
    PySem.W.exmOne K cls (.ref S) = some b := by
  have e1 : (PySem.W.subIn K (.ref S) (.type "BaseException") == some true) = true := by rw [h1] <;> rfl
  have h2' : (PySem.W.clsIn K S).isSome = true := h2
  have e2 : ((PySem.W.clsIn K S).isSome && PySem.W.typeIn K (.ref S) == some (.type "type")) = true := by rw [h2', h3] <;> rfl
  show (if _ then (if _ then _ else none) else none) = some b
  rw [if_pos e1, if_pos e2]
  exact h4
set_option maxRecDepth 100000
set_option maxHeartbeats 4000000
/-! Own errors as values: made, asked for their class, their field read. -/
namespace SwW
open PySem PySem.Spec PyProof.Rows L2
/-- what an own error class says, so that its errors are asked as values -/
structure ErC (K : PySem.W.Frag) (C : Addr) : Prop where
  cl : (PySem.W.clsIn K C).isSome = true
  ga : PySem.W.findIn K (.ref C) "__getattribute__" = some (some (.builtin "BaseException.__getattribute__"))
  gg : PySem.W.findIn K (.ref C) "__getattr__" = some none
  su : PySem.W.subIn K (.ref C) (.type "BaseException") = some true
  ha : PySem.W.findIn K (.ref C) "__class__" = some (some (.builtin "object.__class__"))
  hn : PySem.W.specialIn K (.builtin "object.__class__") "__get__" = some (some (.builtin "getset_descriptor.__get__"))
  ht : PySem.W.takesIn K (.builtin "object.__class__") = some true
  hm : PySem.W.mroIn K C (.type "object") = some true
/-- an error of the class at C stands at a: with a field, or with none -/
def ErAt (H : Hp) (a C : Addr) : Prop := (∃ d fs, H a = some (exo a C (some d)) ∧ H d = some (exd d fs)) ∨ H a = some (ExO (.ref C) a)
section
variable {X : Cx} {pins : List (Addr × Obj)} {σ : L2.St} {H : Hp} {s : Shared}
theorem erAt_inst {a C : Addr} (I : Inv X pins σ H s) (h : ErAt H a C) : ∃ ox od, PySem.W.InstAt s.heap a ox C od := by
  rcases h with ⟨d, fs, ha, hd⟩ | ha
  · obtain ⟨t1, ho⟩ := exo_at I.hok ha
    obtain ⟨mA, hn, r⟩ := exd_at I.hok hd
    obtain ⟨oD, es, ep, hoD, _⟩ := hn
    exact ⟨_, some oD, ho, rfl, rfl, hoD⟩
  · obtain ⟨⟨oe, vs, ho, hz, hdt, _⟩, _, _⟩ := I.hok a _ ha
    obtain ⟨oc, od, dt, sl⟩ := oe
    obtain ⟨h1, h2⟩ := hz
    simp only at h1 h2 hdt
    subst h1 h2 hdt
    exact ⟨_, none, ho, rfl, rfl, trivial⟩
end
/-- isinstance(e, c) -/
def rIsX (K : PySem.W.Frag) : List V → Hp → VK → Prop := fun xs H Q => ∃ (a C : Addr) (c : V) (u : Value) (b : Bool), xs = [.ref a, c] ∧ ErC K C ∧ ErAt H a C ∧ ClsV c u ∧ PySem.W.kitOne K (.ref C) u = some b ∧ Q (.bl b) H
theorem call_isX {X : Cx} : CallR X (.builtin "isinstance") (rIsX X.K) := by
  intro pins s σ H xs us Q I r h
  obtain ⟨a, C, c, u, b, rfl, E, ea, k, e, q⟩ := h
  obtain ⟨u1, u2, rfl, r1, r2⟩ := vals2 r
  have e2 := k.eq r2
  subst e2
  cases r1
  obtain ⟨ox, od, J⟩ := erAt_inst I ea
  exact PySem.W.kia_one (PySem.W.kitx_exc E.cl E.ga E.gg E.su E.ha E.hn E.ht E.hm) I.kIn J e (fun z => nomatch z) fun tk => ⟨.bl b, H, I.tok tk, rfl, q⟩
/-- e.f, e an error that is held -/
def tXv (K : PySem.W.Frag) (f : Str) (te : TE) : TE := fun σ H Q => te σ H fun x H1 => ∃ (a C d : Addr) (fs : List (Str × V)) (v : V), x = .ref a ∧ XfC K C ∧ PySem.W.findIn K (.ref C) f = some none ∧ H1 a = some (exo a C (some d)) ∧ H1 d = some (exd d fs) ∧ fs.lookup f = some v ∧ Q v H1
theorem pe_xv {X : Cx} {e : Expr} {te : TE} {pos : Pos} {n : Str} (he : PE X e te) (hb : attributeBase e n X.env (eval e X.env) = eval e X.env := by rfl) : PE X (.Attribute e n pos) (tXv X.K n te) := by
  refine ⟨fun pins s σ H Q I h => attr_of hb (thn (he.run pins s σ H _ I h) ?_)⟩
  rintro u s1 ⟨x, H1, I1, rx, a, C, d, fs, v, rfl, T, no, ea, ed, l, q⟩
  obtain rfl : u = Value.ref a := rx
  obtain ⟨t1, ho⟩ := exo_at I1.hok ea
  obtain ⟨mA, hn, r⟩ := exd_at I1.hok ed
  obtain ⟨od, hod, hl⟩ := lookIn_ns hn
  obtain ⟨u, hu, ru⟩ := RelO.some_of (v := v) (o := mA n) (by rw [← l]; exact r n)
  have J : PySem.W.InstAt s1.heap a _ C (some od) := ⟨ho, rfl, rfl, hod⟩
  exact HandSPX.exc_get I1.kIn J T.ga T.gg T.exC (PySem.W.findObj_own T.hdC no rfl (by rw [hl, hu])) (handed_of ru) ⟨v, H1, I1.tok _, ru, q⟩
/-- X(e): a new error with its field, as a value -/
def tNewF (C : Addr) (fld : Str) (ta : TA) : TE := fun σ H Q => ta σ H fun vs H1 => ∃ v, vs = [v] ∧ ∀ a d, H1 a = none → H1 d = none → d ≠ a → Q (.ref a) (upd (upd (upd H1 a (exo a C none)) d (exd d [(fld, v)])) a (exo a C (some d)))
theorem pe_exv {X : Cx} {x fld : Str} {C : Addr} {j : Nat} {e : Expr} {ta : TA} {p pos : Pos} (T : SwV.ExF X.prog X.w X.K X.mg X.base x C fld) (hr : Room j X.A) (hj : 2 ≤ j) (hg : Gl X x) (ha : PA X [e] ta)
    (hdb : (x == ("__debug__" : Str)) = false := by decide) (he : starEach [e] X.env = (false, eval e X.env) :: starEach [] X.env := by rfl) (hpl : (backTo pos (starEach [] X.env)).any (·.1) = false := by rfl) :
    PE X (.Call (.Name x p) [e] [] pos) (tNewF C fld ta) := by
  obtain ⟨fI, fd, ps, iC, tI, F1, hb⟩ := T.ini
  obtain ⟨nm, q, N, bs, bm, sn, sub, ab, col, dd, k0, k1, k2, k3, k5, hC, hbm⟩ := T.o.cls
  refine ⟨fun pins s σ H Q I h => wpAny_Call_Name_kw (ld_glob I hg T.g (PySem.W.callWith_K (h₀ := X.base) I.ok.mod.kin T.o.kC (thn (ha.run pos pins s σ H _ I h) ?_) he hpl) hdb)⟩
  rintro us s1 ⟨vs, H1, I1, r1, v, rfl, q1⟩
  refine ⟨I1.kIn, ?_⟩
  show wpAny _ _ (call (.ref C) us) _ _ _
  obtain ⟨hp, g, dr, tk, os⟩ := s1
  have f1 : H1 (hp.objs.size + 1) = none := I1.hok.fresh (Nat.le_succ _)
  have keeps : ∀ b o, hp.get? b = some o → ((hp.push (PySem.W.kdv_tup us)).push (PySem.HandSPX.excO C hp.objs.size)).get? b = some o := fun b o z => Heap.get?_push_of_some _ (Heap.get?_push_of_some _ z)
  have there : ((hp.push (PySem.W.kdv_tup us)).push (PySem.HandSPX.excO C hp.objs.size)).get? (hp.objs.size + 1) = some (PySem.HandSPX.excO C hp.objs.size) := by heap_get
  have J : Inv X pins σ (upd H1 (hp.objs.size + 1) (exo (hp.objs.size + 1) C none)) ⟨(hp.push (PySem.W.kdv_tup us)).push (PySem.HandSPX.excO C hp.objs.size), g, dr, tk, os⟩ :=
    I1.laid (t' := tk) (a := hp.objs.size + 1) (o := exo (hp.objs.size + 1) C none) keeps (Nat.le_succ _) (exo_ok there)
  have rd : Vals [V.ref (hp.objs.size + 1), v] (Value.ref (hp.objs.size + 1) :: us) := .cons rfl r1
  have sq : SwV.spIniF C fld [.ref (hp.objs.size + 1), v] (upd H1 (hp.objs.size + 1) (exo (hp.objs.size + 1) C none)) (fun w H2 => w = .non ∧ Q (.ref (hp.objs.size + 1)) H2) (fun _ _ _ => False) := by
    refine ⟨_, v, rfl, upd_same, fun d nd ne => ⟨rfl, ?_⟩⟩
    rw [upd_ne ne] at nd
    exact q1 _ d f1 nd ne
  have n : (Value.ref (hp.objs.size + 1) :: us ++ []).length = ps.length := by
    rw [List.append_nil]
    exact rd.length.symm.trans (F1.len _ _ _ _ sq)
  have us1 : us.length ≤ sizeLine := by
    rw [← Paired.length r1]
    show 1 ≤ sizeLine
    decide
  have hb1 := hb ⟨(hp.push (PySem.W.kdv_tup us)).push (PySem.HandSPX.excO C hp.objs.size), g, dr, tk, os⟩ (Value.ref (hp.objs.size + 1) :: us) J.kIn n
  rw [List.append_nil] at hb1
  refine wpAny_call (PySem.HandSPX.call_own F.excBase_ValueError (fun Y => PySem.HandSPX.refsVE_contains Y bm hbm) (I1.kIn _ _ hC) (PySem.W.looks_findIn I1.kIn iC) (fun self => PySem.W.bind_fn I1.kIn self tI) us1
    (codeAny_mono (F1.run _ X.stack _ _ ⟨Value.ref (hp.objs.size + 1) :: us, []⟩ _ _ _ (fun _ _ _ => False) ((hr.mono hj).make C us []) (J.env0.make C us []) hb1 rd sq) ?_))
  rintro (z | (_ | _ | _ | u)) s' hz
  · exact (L2.pass0 (X := X)) pins σ _ _ z s' J hz
  · exact False.elim hz
  · exact False.elim hz
  · exact False.elim hz
  · obtain ⟨w, H', J', rv, ew, q3⟩ := J.after hz
    subst ew
    exact ⟨rv, ⟨V.ref (hp.objs.size + 1), H', J', rfl, q3⟩⟩
/-- X(): a new error without a field, as a value -/
theorem pe_exc0 {X : Cx} {C : Addr} {bmB : List Value} {B newId initId : String} {x : Str} {p pos : Pos} (F : ExcBaseFacts B newId initId bmB) (q : PySem.W.excIn X.K C bmB newId = true) (gC : X.mg x = some (.ref C)) (kC : PySem.W.keepIn X.K (.ref C) = true) (hg : Gl X x)
    (hdb : (x == ("__debug__" : Str)) = false := by decide) : PE X (.Call (.Name x p) [] [] pos) (fun _ H Q => ∀ a, H a = none → Q (.ref a) (upd H a (ExO (.ref C) a))) := by
  refine ⟨fun pins s σ H Q I h => wpAny_Call_Name_kw (ld_glob I hg gC (PySem.W.callWith_K0 I.kIn kC ?_) hdb)⟩
  show wpAny _ _ (call (.ref C) []) _ _ _
  obtain ⟨bm, N, nm, qn, bs, hdct, sn, sub, ab, col, dd, k0, k1, k2, k3, k5, mN, hC, hN, hni, T⟩ := exc_obj I.kIn q
  refine wpAny_call_exc_subT F T hC hN hni (fun h' a hm => ?_) (Nat.zero_le _)
  have hn : H a = none := I.hok.gone hm.new
  obtain ⟨t, ht, _, _⟩ := hm.there
  exact ⟨.ref a, upd H a (ExO (.ref C) a), I.laidN hm.keeps hm.new hn (exO_ok ht ⟨rfl, rfl⟩ rfl rfl rfl (show 4 < 6 by decide)), rfl, h a hn⟩
end SwW
set_option maxRecDepth 100000
set_option maxHeartbeats 4000000
namespace Sw
open PySem L2
open C8 (pss_cut tCut pe_c pe_mk pe_mt pe_mt0 pe_gc Cal Mak Met InsC call_isC)
def topS (i : Nat) : Stmt := PySem.Challenge.pw_sweetsring_k19_errors_apart.main.body.getD i (.Pass ⟨0, 0, 0, 0⟩)
abbrev s_BadSteps_init : Stmt := inClass (topS 4) 0
theorem sc_BadSteps_init : FnScope ["self", "index"] ["self", "index"] (defScope s_BadSteps_init) := ⟨rfl, rfl, rfl, by decide +kernel, rfl, by decide +kernel, by decide +kernel⟩
abbrev s_BadSweets_init : Stmt := inClass (topS 5) 0
theorem sc_BadSweets_init : FnScope ["self", "index"] ["self", "index"] (defScope s_BadSweets_init) := ⟨rfl, rfl, rfl, by decide +kernel, rfl, by decide +kernel, by decide +kernel⟩
abbrev s_BadRows_init : Stmt := inClass (topS 8) 0
theorem sc_BadRows_init : FnScope ["self", "index"] ["self", "index"] (defScope s_BadRows_init) := ⟨rfl, rfl, rfl, by decide +kernel, rfl, by decide +kernel, by decide +kernel⟩
abbrev s_BadSeen_init : Stmt := inClass (topS 9) 0
theorem sc_BadSeen_init : FnScope ["self", "index"] ["self", "index"] (defScope s_BadSeen_init) := ⟨rfl, rfl, rfl, by decide +kernel, rfl, by decide +kernel, by decide +kernel⟩
abbrev s_BadText_init : Stmt := inClass (topS 13) 0
theorem sc_BadText_init : FnScope ["self", "word"] ["self", "word"] (defScope s_BadText_init) := ⟨rfl, rfl, rfl, by decide +kernel, rfl, by decide +kernel, by decide +kernel⟩
abbrev s_law_random : Stmt := topS 15
theorem sc_law_random : FnScope ["_law_script", "_law_salt", "_law_seed", "_law_cell"] ["_law_script", "_law_salt"] (defScope s_law_random) := ⟨rfl, rfl, rfl, by decide +kernel, rfl, by decide +kernel, by decide +kernel⟩
abbrev s_law_below : Stmt := topS 16
theorem sc_law_below : FnScope ["_law_d", "_law_size", "_law_result"] ["_law_d", "_law_size"] (defScope s_law_below) := ⟨rfl, rfl, rfl, by decide +kernel, rfl, by decide +kernel, by decide +kernel⟩
abbrev s_law_pick : Stmt := topS 17
theorem sc_law_pick : FnScope ["_law_d", "_law_items"] ["_law_d", "_law_items"] (defScope s_law_pick) := ⟨rfl, rfl, rfl, by decide +kernel, rfl, by decide +kernel, by decide +kernel⟩
abbrev s_law_one : Stmt := topS 18
theorem sc_law_one : FnScope ["_law_d", "_law_one_here", "_law_kind", "_law_error"] ["_law_d"] (defScope s_law_one) := ⟨rfl, rfl, rfl, by decide +kernel, rfl, by decide +kernel, by decide +kernel⟩
abbrev s_law_classes : Stmt := topS 19
theorem sc_law_classes : FnScope ["_law_error", "_law_found", "_law_one_here"] ["_law_error"] (defScope s_law_classes) := ⟨rfl, rfl, rfl, by decide +kernel, rfl, by decide +kernel, by decide +kernel⟩
abbrev s_law : Stmt := topS 20
theorem sc_law : FnScope ["_law_script", "_law_d", "_law_turn", "_law_error", "_law_is_right", "_law_errors", "_law_one_here"] ["_law_script"] (defScope s_law) := ⟨rfl, rfl, rfl, by decide +kernel, rfl, by decide +kernel, by decide +kernel⟩
structure Txt (K : PySem.W.Frag) (mg : Str → Option Value) : Prop where
  z_ValueError : mg "ValueError" = none
  z_abs : mg "abs" = none
  z_bool : mg "bool" = none
  z_dict : mg "dict" = none
  z_int : mg "int" = none
  z_isinstance : mg "isinstance" = none
  z_len : mg "len" = none
  z_list : mg "list" = none
  z_range : mg "range" = none
  z_str : mg "str" = none
  z_tuple : mg "tuple" = none
end Sw
set_option maxRecDepth 100000
set_option maxHeartbeats 4000000
namespace Sw
open PySem L2
open C8 (pss_cut tCut pe_c pe_mk pe_mt pe_mt0 pe_gc Cal Mak Met InsC call_isC)
section
variable {P : Program} {w : World} {K : PySem.W.Frag} {mg : Str → Option Value} {base : Heap}
/-- a drawn number from 0 to n - 1; the list at d changes -/
def spBelow : Sp := fun vs H Q _ => ∃ (d : Addr) (n : Int) (S : Hp), vs = [.ref d, .int n] ∧ Same S H ∧ S d = none ∧ DS d H ∧ 0 < n ∧ n < 2 ^ 200 ∧
  ∀ (r : Int) (H' : Hp), 0 ≤ r → r < n → Fr (M1 d) S H S H' → DS d H' → Q (.int r) H'
theorem below_len {a b : Int} {r : List Int} : (((a :: b :: r).map V.int).length : Int) = (r.length : Int) + 2 := by
  simp only [List.length_map, List.length_cons]
  omega
theorem ok_law_below {f : Addr} {fd : FuncData} (F : Fun K "_law_below" "_law_below" s_law_below f fd) (T : Txt K mg) : FnOk P w K mg base CX0 1 f fd ["_law_d", "_law_size"] spBelow := by
  refine F.ok sc_law_below (fun vs H Q E h => ?_) (fun cdv A outer s H vs Q E hr h => ?_)
  · obtain ⟨d, n, S, rfl, _⟩ := h
    rfl
  · obtain ⟨d, n, S, rfl, hS, hd, ⟨a, b, r, e, ha, hb, hp, hl⟩, n0, n1, k⟩ := h
    refine ⟨_, (pss_cut (ps_if (PW.pt (pw_and (pt_cmpR op_eq (pe_ix (r := rIxL K) ix_list (pv 0) pe_int (fun _ _ => rfl)) pe_int (nomark _)) (pw_and1 (pt_cmpR op_gt (pe_callB call_len_seq (by rfl) T.z_len (by decide +kernel) (pa_cons (pv 0) pa_nil)) pe_int (nomark _))))) (pss_one (ps_asg (pe_bm PySem.F.plainAttrs_list PySem.F.slot_list_pop PySem.F.type_list_pop mt_popAt (pv 0) (pa_cons pe_int pa_nil)) (pg_sub (pv 0) pe_int set_list))) pss_nil)
      (pss_cons (ps_if (pt_cmpR op_gt (pe_ix (r := rIxL K) ix_list (pv 0) pe_int (fun _ _ => rfl)) pe_int (nomark _)) (pss_cons (ps_set (i := 2) sc_law_below.nd rfl (Or.inl rfl) (pe_op op_mod (pe_callTy call_int1 (by rfl) T.z_int (by decide +kernel) (pa_cons (pe_ix (r := rIxL K) ix_list (pv 0) pe_int (fun _ _ => rfl)) pa_nil)) (pv 1)))
      (pss_cons (ps_asg (pe_op op_fdivW (pe_ix (r := rIxL K) ix_list (pv 0) pe_int (fun _ _ => rfl)) (pv 1)) (pg_sub (pv 0) pe_int set_list))
      (pss_one (ps_ret (pv 2))))) pss_nil)
      (pss_cons (ps_asg (pe_op op_mod (pe_callTy call_int1 (by rfl) T.z_int (by decide +kernel) (pa_cons (pe_op op_add (pe_op op_mul (pe_ix (r := rIxL K) ix_list (pv 0) pe_int (fun _ _ => rfl)) pe_int) pe_int) pa_nil)) pe_int) (pg_sub (pv 0) pe_int set_list))
      (pss_one (ps_ret (pe_op op_mod (pe_callTy call_int1 (by rfl) T.z_int (by decide +kernel) (pa_cons (pe_op op_fdivW (pe_ix (r := rIxL K) ix_list (pv 0) pe_int (fun _ _ => rfl)) pe_int) pa_nil)) (pv 1))))))), ?_⟩
    refine ⟨fun σ' H' => ∃ a b r, σ' = [some (.ref d), some (.int n), none] ∧ H' d = some (.lst ((a :: b :: r).map V.int)) ∧ 0 ≤ a ∧ 0 ≤ b ∧ (∀ x ∈ r, 0 ≤ x) ∧ r.length ≤ 63 ∧ Fr (M1 d) S H S H', ?_, ?_⟩
    · refine ⟨_, rfl, d, _, 1, _, rfl, rfl, SqL.of e, atI_nat (j := 1) rfl, rfl, _, rfl, ite2 (fun h0 => ?_) (fun h0 => ?_)⟩
      · refine ⟨_, rfl, d, _, rfl, .inl (SqL.of e), _, _, rfl, rfl, _, rfl, ite2 (fun h1 => ?_) (fun h1 => ?_)⟩
        · have h2 := of_decide_eq_true h1
          rw [below_len] at h2
          cases r with
          | nil => exact absurd h2 (by decide)
          | cons x r' =>
            have hx : 0 ≤ x := hp x List.mem_cons_self
            refine ⟨_, rfl, .inl ⟨rfl, _, SqL.of e⟩, d, _, 2, 2, .int x, rfl, rfl, e, by decide, by decide, ?_, rfl, ?_⟩
            · exact seqIndex_of (by decide) (by rw [below_len, List.length_cons]; omega)
            · refine ⟨_, rfl, d, _, 1, 1, rfl, rfl, upd_same, ?_, ?_⟩
              · unfold ixN
                rw [if_pos (by decide), if_pos (by simp; omega)]
                rfl
              · refine ⟨a, x, r', rfl, upd_same, ha, hx, fun y hy => hp y (List.mem_cons_of_mem _ hy), Nat.le_of_succ_le hl, ?_⟩
                exact ((Fr.refl (M := M1 d) hS).mut hd (.inl rfl)).mut hd (.inl rfl)
        · exact ⟨a, b, r, rfl, e, ha, hb, hp, hl, Fr.refl hS⟩
      · refine iteF ?_
        exact ⟨a, b, r, rfl, e, ha, hb, hp, hl, Fr.refl hS⟩
    · rintro σ' H1 ⟨a, b, r, rfl, e, ha, hb, hp, hl, f⟩
      refine ⟨_, rfl, d, _, 1, _, rfl, rfl, SqL.of e, atI_nat (j := 1) rfl, _, _, rfl, rfl, _, rfl, ite2 (fun h0 => ?_) (fun h0 => ?_)⟩
      · -- digits are left
        refine ⟨_, rfl, d, _, 1, _, rfl, rfl, SqL.of e, atI_nat (j := 1) rfl, .inl ⟨_, rfl, _, rfl, _, _, rfl, rfl, n0, ?_⟩⟩
        refine ⟨_, rfl, d, _, 1, _, rfl, rfl, SqL.of e, atI_nat (j := 1) rfl, _, rfl, _, _, rfl, rfl, divW n0 n1, ?_⟩
        refine ⟨_, rfl, d, _, 1, 1, rfl, rfl, e, ?_, ?_⟩
        · unfold ixN
          rw [if_pos (by decide), if_pos (by rw [below_len]; omega)]
          rfl
        · refine ⟨_, rfl, k _ _ (Int.emod_nonneg _ (by omega)) (Int.emod_lt_of_pos _ n0) (f.mut hd (.inl rfl)) ⟨a, b / n, r, upd_same, ha, Int.ediv_nonneg hb (by omega), hp, hl⟩⟩
      · -- the seed
        refine ⟨_, rfl, d, _, 0, _, rfl, rfl, SqL.of e, atI_nat (j := 0) rfl, a, 48271, rfl, rfl, .inr ⟨by decide, by decide⟩, _, _, rfl, rfl, .inl ⟨_, rfl, _, _, rfl, rfl, (by show (0 : Int) < 2147483647; decide), ?_⟩⟩
        refine ⟨_, rfl, d, _, 0, 0, rfl, rfl, e, ?_, ?_⟩
        · unfold ixN
          rw [if_pos (by decide), if_pos (by rw [below_len]; omega)]
          rfl
        · refine ⟨_, rfl, d, _, 0, _, rfl, rfl, SqL.of upd_same, atI_nat (j := 0) rfl, _, _, rfl, rfl, divW (by decide) (by decide), .inl ⟨_, rfl, _, rfl, _, _, rfl, rfl, n0, ?_⟩⟩
          exact k _ _ (Int.emod_nonneg _ (by omega)) (Int.emod_lt_of_pos _ n0) (f.mut hd (.inl rfl)) ⟨(a * 48271 + 11) % 2147483647, b, r, upd_same, Int.emod_nonneg _ (by decide), hb, hp, hl⟩
end
end Sw
set_option maxRecDepth 100000
set_option maxHeartbeats 4000000
namespace Sw
open PySem L2
open C8 (pss_cut tCut pe_c pe_mk pe_mt pe_mt0 pe_gc Cal Mak Met InsC call_isC)
section
variable {P : Program} {w : World} {K : PySem.W.Frag} {mg : Str → Option Value} {base : Heap}
def spRandom (K : PySem.W.Frag) : Sp := fun vs H Q _ => ∃ (a : Addr) (ns : List Int) (z : Int), vs = [.ref a, .int z] ∧ SqL K H a (ns.map V.int) ∧ ns.length ≤ 63 ∧ 0 ≤ z ∧ z < 2147483647 ∧
  ∀ (d : Addr) (H' : Hp), H d = none → Same H H' → DS d H' → Q (.ref d) H'
theorem map_at {ns : List Int} {i : Nat} {y : V} (h : (ns.map V.int)[i]? = some y) : ∃ z, ns[i]? = some z ∧ y = .int z := by
  rw [List.getElem?_map] at h
  cases e : ns[i]? with
  | none => rw [e] at h; cases h
  | some z => rw [e] at h; exact ⟨z, rfl, (Option.some.inj h).symm⟩
theorem ok_law_random {f : Addr} {fd : FuncData} (F : Fun K "_law_random" "_law_random" s_law_random f fd) (T : Txt K mg) : FnOk P w K mg base CX0 1 f fd ["_law_script", "_law_salt"] (spRandom K) := by
  refine F.ok sc_law_random (fun vs H Q E h => ?_) (fun cdv A outer s H vs Q E hr h => ?_)
  · obtain ⟨a, ns, z, rfl, _⟩ := h
    rfl
  · obtain ⟨a, ns, z, rfl, hS, hl, z0, z1, q⟩ := h
    refine ⟨_, (pss_cons (ps_set (i := 2) sc_law_random.nd rfl (Or.inl rfl) (pv 1))
      (pss_cons (ps_for PassesOwn.never rfl (pi_list (pv 0)) (pg_name (i := 3) sc_law_random.nd rfl (Or.inl rfl))
      (pss_one (ps_set (i := 2) sc_law_random.nd rfl (Or.inl rfl) (pe_op op_mod (pe_callTy call_int1 (by rfl) T.z_int (by decide +kernel) (pa_cons (pe_op op_add (pe_op op_mul (pv 2) pe_int) (pe_callB call_abs (by rfl) T.z_abs (by decide +kernel) (pa_cons (pv 3) pa_nil))) pa_nil)) pe_int))))
      (pss_one (ps_ret (pe_op op_cat (pe_lst (pa_cons (pv 2) (pa_cons pe_int pa_nil))) (pe_lc (own := [("_law_cell", 3)]) rfl sc_law_random.nd (pi_list (pv 0)) (blkOk_by (own := [("_law_cell", 3)]) (N := ["_law_script", "_law_salt", "_law_seed", "_law_cell"]) (sc := defScope s_law_random) (by decide +kernel)) (fun _ _ _ _ _ => pg_name (i := 3) sc_law_random.nd rfl (Or.inl rfl)) (fun _ _ _ _ _ => pts_one (pt_cmpR op_ge (pv 3) (pe_op op_pow pe_int pe_int) (nomark _))) (fun _ _ _ _ _ => (pv 3)))))))), ?_⟩
    refine ⟨_, rfl, _, rfl, a, rfl, ⟨_, hS⟩, for_list (K := K) (a := a) (xs := ns.map V.int) (fun i σ H' => ∃ (y : Int) (c : Option V), σ = [some (.ref a), some (.int z), some (.int y), c] ∧ 0 ≤ y ∧ y < 2147483647 ∧ H' = H)
      ⟨z, none, rfl, z0, z1, rfl⟩ (fun i σ H' _ ⟨_, _, _, _, _, e⟩ => e ▸ hS) ?_ ?_⟩
    · rintro i x σ H' hx ⟨y, c, rfl, y0, y1, rfl⟩
      obtain ⟨u, hu, rfl⟩ := map_at hx
      refine ⟨_, rfl, y, 31, rfl, rfl, .inl ⟨by omega, by omega⟩, _, rfl, u, rfl, _, _, rfl, rfl, .inl ⟨_, rfl, _, _, rfl, rfl, (by show (0 : Int) < 2147483647; decide), ?_⟩⟩
      exact ⟨_, _, rfl, Int.emod_nonneg _ (by decide), Int.emod_lt_of_pos _ (by decide), rfl⟩
    · rintro σ H' ⟨y, c, rfl, y0, y1, rfl⟩
      refine ⟨_, rfl, by show 2 ≤ sizeLine; decide, fun l hl1 => ?_⟩
      have s1 : Same H' (upd H' l (.lst [.int y, .int 0])) := same_new hl1
      refine ⟨_, rfl, a, rfl, ⟨_, s1.seq hS⟩, fun D hD => ?_⟩
      have hlD : l ≠ D := ne_of_none upd_same hD
      have hD0 : H' D = none := s1.free hD
      refine lc_list (K := K) (a := a) (xs := ns.map V.int) (fun i H2 => ∃ r : List Int, H2 D = some (.lst (r.map V.int)) ∧ (∀ x ∈ r, 0 ≤ x) ∧ r.length ≤ i ∧ Same (upd H' l (.lst [.int y, .int 0])) H2)
        ⟨[], upd_same, fun x h => absurd h (by simp), Nat.le_refl _, same_new hD⟩ (fun i H2 _ ⟨r, _, _, _, s2⟩ => (s1.trans s2).seq hS) ?_ ?_
      · rintro i x H2 hx ⟨r, hr1, hr2, hr3, s2⟩
        obtain ⟨u, hu, rfl⟩ := map_at hx
        have hi : i < 63 := by
          have := (List.getElem?_eq_some_iff.mp hx).1
          rw [List.length_map] at this
          omega
        refine ⟨rfl, _, rfl, 10, 18, rfl, rfl, ⟨by decide, by decide, by decide⟩, _, _, rfl, rfl, _, rfl, ite2 (fun h0 => ?_) (fun h0 => ?_)⟩
        · have h1 := of_decide_eq_true h0
          have h2 : (0 : Int) ≤ u := Int.le_trans (by decide) h1
          refine ⟨_, rfl, _, hr1, szl100 (by rw [List.length_map]; omega), r ++ [u], ?_, ?_, ?_, ?_⟩
          · rw [upd_same, List.map_append]
            rfl
          · intro x hx
            rcases List.mem_append.mp hx with hx | hx
            · exact hr2 x hx
            · rw [List.mem_singleton.mp hx]
              exact h2
          · rw [List.length_append, List.length_singleton]
            omega
          · exact same_updR s2 hD
        · exact ⟨r, hr1, hr2, Nat.le_succ_of_le hr3, s2⟩
      · rintro H2 ⟨r, hr1, hr2, hr3, s2⟩
        rw [List.length_map] at hr3
        refine ⟨l, D, _, _, rfl, rfl, s2 l _ upd_same, hr1, ?_, fun p hp => ?_⟩
        · refine sz100 ?_
          simp only [List.length_map, List.length_cons, List.length_nil]
          omega
        · refine q p _ ((s1.trans s2).free hp) ((s1.trans s2).trans (same_new hp)) ⟨y, 0, r, ?_, y0, Int.le_refl _, hr2, Nat.le_trans hr3 hl⟩
          rw [upd_same]
          rfl
end
section
variable {P : Program} {w : World} {K : PySem.W.Frag} {mg : Str → Option Value} {base : Heap}
/-- one of the items of a list that stands in H beside d -/
def spPick : Sp := fun vs H Q _ => ∃ (d p : Addr) (xs : List V) (S : Hp), vs = [.ref d, .ref p] ∧ Same S H ∧ S d = none ∧ DS d H ∧ p ≠ d ∧ H p = some (.lst xs) ∧ 0 < xs.length ∧ xs.length ≤ 1000 ∧
  ∀ (i : Nat) (v : V) (H' : Hp), xs[i]? = some v → Fr (M1 d) S H S H' → DS d H' → Q v H'
theorem ok_law_pick {K : PySem.W.Frag} {f : Addr} {fd : FuncData} (F : Fun K "_law_pick" "_law_pick" s_law_pick f fd) (T : Txt K mg) (c_law_below : Cal P w K mg base 1 "_law_below" spBelow []) : FnOk P w K mg base CX0 2 f fd ["_law_d", "_law_items"] spPick := by
  refine F.ok sc_law_pick (fun vs H Q E h => ?_) (fun cdv A outer s H vs Q E hr h => ?_)
  · obtain ⟨d, p, xs, S, rfl, _⟩ := h
    rfl
  · obtain ⟨d, p, xs, S, rfl, hS, hd, ds, npd, hp, h0, h1, q⟩ := h
    refine ⟨_, (pss_one (ps_ret (pe_ix (r := rIxL K) ix_list (pv 1) (pe_c c_law_below hr (by decide) (by rfl) (pa_cons (pv 0) (pa_cons (pe_callB call_len_seq (by rfl) T.z_len (by decide +kernel) (pa_cons (pv 1) pa_nil)) pa_nil))) (fun _ _ => rfl)))), ?_⟩
    refine ⟨_, rfl, _, rfl, _, rfl, p, _, rfl, .inl (SqL.of hp), d, _, S, rfl, hS, hd, ds, by omega, by omega, fun r H' r0 r1 f ds' => ?_⟩
    have hi : r.toNat < xs.length := by omega
    have hx : xs[r.toNat]? = some xs[r.toNat] := List.getElem?_eq_getElem hi
    have hat : atI xs r = some xs[r.toNat] := at_of (by omega) hx
    exact ⟨p, xs, r, _, rfl, rfl, SqL.of (f.c p _ npd hp), hat, q _ _ _ hx f ds'⟩
end
end Sw
set_option maxRecDepth 100000
set_option maxHeartbeats 4000000
namespace Sw
open PySem L2
open C8 (pss_cut tCut pe_c pe_mk pe_mt pe_mt0 pe_gc Cal Mak Met InsC call_isC)
/-- an own error class without __init__, below ValueError -/
structure ExC (K : PySem.W.Frag) (mg : Str → Option Value) (nm : Str) (C : Addr) : Prop where
  x : PySem.W.excIn K C [.type "ValueError", .type "Exception", .type "BaseException", .type "object"] "ValueError.__new__" = true
  g : mg nm = some (.ref C)
  k : PySem.W.keepIn K (.ref C) = true
  b : PySem.W.subIn K (.ref C) (.type "BaseException") = some true
  t : PySem.W.typeIn K (.ref C) = some (.type "type")
  e : PySem.W.exmOne K (.ref C) (.ref C) = some true
theorem exm_self {K : PySem.W.Frag} {S : Addr} (h1 : PySem.W.subIn K (.ref S) (.type "BaseException") = some true) (h2 : PySem.W.isClsIn K S = true) (h3 : PySem.W.typeIn K (.ref S) = some (.type "type")) (h4 : PySem.W.subIn K (.ref S) (.ref S) = some true) :
    PySem.W.exmOne K (.ref S) (.ref S) = some true := by
  have e1 : (PySem.W.subIn K (.ref S) (.type "BaseException") == some true) = true := by rw [h1] <;> rfl
  have h2' : (PySem.W.clsIn K S).isSome = true := h2
  have e2 : ((PySem.W.clsIn K S).isSome && PySem.W.typeIn K (.ref S) == some (.type "type")) = true := by rw [h2', h3] <;> rfl
  show (if _ then (if _ then _ else none) else none) = some true
  rw [if_pos e1, if_pos e2]
  exact h4
section
variable {P : Program} {w : World} {K : PySem.W.Frag} {mg : Str → Option Value} {base : Heap}
/-- as FunD.ok, for a def that may raise -/
theorem okDX {x qual : Str} {params : Arguments} {body : List Stmt} {scope : Scope} {dvs : List V} {kws : List (Str × V)} {f : Addr} {fd : FuncData} {N ps : List Str} {k : Nat} {sp : Sp} (F : FunD K x qual params body scope dvs kws f fd) (S : FnScope N ps scope) (len : ∀ vs H Q E, sp vs H Q E → vs.length = ps.length)
    (hbody : ∀ (cdv : Value) (A : Around) (outer : List Env) (s : Shared) (H : Hp) (vs : List V) (Q : VK) (E : XK), Room k (A.deeper (PyProof.Rows.envOfC qual scope s.heap.objs.size f cdv)) → sp vs H Q E →
      ∃ t, PSs (cxOf (L2.CX P w) P w K mg base N qual scope f cdv A outer s H E) body t ∧ t { nx := fun _ H' => Q .non H', rt := Q } (start N vs) H) : FnOk P w K mg base (L2.CX P w) (k + 1) f fd ps sp := by
  obtain ⟨oc, od, dV, kV, doc, pm, an, cdv, ct, osl, rfl, lk, hcd, _, _⟩ := F.ex
  exact fn_of lk hcd S len fun A outer s H vs Q E hr hsp => hbody cdv A outer s H vs Q E hr hsp
end
/-! ### errors as values -/
def KitAll (K : PySem.W.Frag) (C : Addr) : List Addr → List Bool → Prop
  | [], [] => True
  | D :: Ds, b :: bs => PySem.W.kitOne K (.ref C) (.ref D) = some b ∧ KitAll K C Ds bs
  | _, _ => False
/-- what isinstance answers of the errors of the class at C: it is one of cs alone, and one of S and of ValueError -/
structure KitRow (K : PySem.W.Frag) (cs : List Addr) (S C : Addr) : Prop where
  e : SwW.ErC K C
  r : ∃ bs, KitAll K C cs bs ∧ (bs.filter id).length = 1
  s : PySem.W.kitOne K (.ref C) (.ref S) = some true
  v : PySem.W.kitOne K (.ref C) (.type "ValueError") = some true
theorem erMono {S H : Hp} {a C : Addr} (s : Same S H) (h : SwW.ErAt S a C) : SwW.ErAt H a C := h.elim (fun ⟨d, fs, h1, h2⟩ => .inl ⟨d, fs, s _ _ h1, s _ _ h2⟩) fun h => .inr (s _ _ h)
def spClasses (K : PySem.W.Frag) (cs : List Addr) (SE : Addr) : Sp := fun vs H Q _ => ∃ (a C : Addr) (S : Hp), vs = [.ref a] ∧ Same S H ∧ SwW.ErAt S a C ∧ KitRow K cs SE C ∧ ∀ H', Fr M0 S H S H' → Q (.int 1) H'
theorem filt_snoc {bs : List Bool} {i : Nat} {b : Bool} (h : bs[i]? = some b) : (bs.take (i + 1)).filter id = (bs.take i).filter id ++ (if b then [b] else []) := by
  rw [take_snoc h, List.filter_append]
  cases b <;> rfl
theorem upd3 {H : Hp} {a d : Addr} {x y z : HO} (ne : d ≠ a) : upd (upd (upd H a x) d y) a z = upd (upd H d y) a z := by
  funext b
  by_cases h : b = a
  · subst h
    rw [upd_same, upd_same]
  · rw [upd_ne h, upd_ne h]
    by_cases h2 : b = d
    · subst h2
      rw [upd_same, upd_same]
    · rw [upd_ne h2, upd_ne h2, upd_ne h]
theorem erNew {M : Addr → Prop} {S H S1 H1 : Hp} {a d C : Addr} {fs : List (Str × V)} (f : Fr M S H S1 H1) (ha : H1 a = none) (hd : H1 d = none) (ne : d ≠ a) :
    Fr M S H (upd (upd S1 d (exd d fs)) a (exo a C (some d))) (upd (upd (upd H1 a (exo a C none)) d (exd d fs)) a (exo a C (some d))) := by
  rw [upd3 ne]
  exact (f.imm hd).imm (by rw [upd_ne (Ne.symm ne)]; exact ha)
/-- what is drawn for a field -/
def Plain (K : PySem.W.Frag) (S : Hp) (v : V) : Prop := ∃ dv, Dp K S v dv ∧ SeqAt.shaped dv = true ∧ PyData.eqv dv dv = true
theorem Plain.mono {K : PySem.W.Frag} {S S' : Hp} {v : V} (s : Same S S') (h : Plain K S v) : Plain K S' v := let ⟨dv, h1, h2, h3⟩ := h; ⟨dv, dp_mono s h1, h2, h3⟩
def spOne (K : PySem.W.Frag) (cs : List Addr) : Sp := fun vs H Q _ => ∃ (d : Addr) (S : Hp), vs = [.ref d] ∧ Same S H ∧ S d = none ∧ DS d H ∧
  ∀ (p a C : Addr) (S' H' : Hp), C ∈ cs → Fr (M1 d) S H S' H' → DS d H' → SqT K S' p [.ref a, .bl true] → SwW.ErAt S' a C → Q (.ref p) H'
section
variable {P : Program} {w : World} {K : PySem.W.Frag} {mg : Str → Option Value} {base : Heap}
theorem ok_BadRows_init {f C : Addr} {fd : FuncData} (F : Fun K "__init__" "BadRows.__init__" s_BadRows_init f fd) (o : OexC K C) (no : PySem.W.findIn K (.ref C) "index" = some none) : FnOk P w K mg base CX0 1 f fd ["self", "index"] (SwV.spIniF C "index") := by
  refine F.ok sc_BadRows_init (fun vs H Q E h => ?_) (fun cdv A outer s H vs Q E hr h => ?_)
  · obtain ⟨a, v, rfl, _⟩ := h
    rfl
  · obtain ⟨a, v, rfl, ha, q⟩ := h
    exact ⟨_, pss_one (ps_ost (pv 0) (pv 1)), v, rfl, _, rfl, a, C, rfl, o, no, .inl ⟨ha, fun dx nd ne => q dx nd ne⟩⟩
end
section
variable {P : Program} {w : World} {K : PySem.W.Frag} {mg : Str → Option Value} {base : Heap}
theorem ok_BadSeen_init {f C : Addr} {fd : FuncData} (F : Fun K "__init__" "BadSeen.__init__" s_BadSeen_init f fd) (o : OexC K C) (no : PySem.W.findIn K (.ref C) "index" = some none) : FnOk P w K mg base CX0 1 f fd ["self", "index"] (SwV.spIniF C "index") := by
  refine F.ok sc_BadSeen_init (fun vs H Q E h => ?_) (fun cdv A outer s H vs Q E hr h => ?_)
  · obtain ⟨a, v, rfl, _⟩ := h
    rfl
  · obtain ⟨a, v, rfl, ha, q⟩ := h
    exact ⟨_, pss_one (ps_ost (pv 0) (pv 1)), v, rfl, _, rfl, a, C, rfl, o, no, .inl ⟨ha, fun dx nd ne => q dx nd ne⟩⟩
end
section
variable {P : Program} {w : World} {K : PySem.W.Frag} {mg : Str → Option Value} {base : Heap}
theorem ok_BadSteps_init {f C : Addr} {fd : FuncData} (F : Fun K "__init__" "BadSteps.__init__" s_BadSteps_init f fd) (o : OexC K C) (no : PySem.W.findIn K (.ref C) "index" = some none) : FnOk P w K mg base CX0 1 f fd ["self", "index"] (SwV.spIniF C "index") := by
  refine F.ok sc_BadSteps_init (fun vs H Q E h => ?_) (fun cdv A outer s H vs Q E hr h => ?_)
  · obtain ⟨a, v, rfl, _⟩ := h
    rfl
  · obtain ⟨a, v, rfl, ha, q⟩ := h
    exact ⟨_, pss_one (ps_ost (pv 0) (pv 1)), v, rfl, _, rfl, a, C, rfl, o, no, .inl ⟨ha, fun dx nd ne => q dx nd ne⟩⟩
end
section
variable {P : Program} {w : World} {K : PySem.W.Frag} {mg : Str → Option Value} {base : Heap}
theorem ok_BadSweets_init {f C : Addr} {fd : FuncData} (F : Fun K "__init__" "BadSweets.__init__" s_BadSweets_init f fd) (o : OexC K C) (no : PySem.W.findIn K (.ref C) "index" = some none) : FnOk P w K mg base CX0 1 f fd ["self", "index"] (SwV.spIniF C "index") := by
  refine F.ok sc_BadSweets_init (fun vs H Q E h => ?_) (fun cdv A outer s H vs Q E hr h => ?_)
  · obtain ⟨a, v, rfl, _⟩ := h
    rfl
  · obtain ⟨a, v, rfl, ha, q⟩ := h
    exact ⟨_, pss_one (ps_ost (pv 0) (pv 1)), v, rfl, _, rfl, a, C, rfl, o, no, .inl ⟨ha, fun dx nd ne => q dx nd ne⟩⟩
end
section
variable {P : Program} {w : World} {K : PySem.W.Frag} {mg : Str → Option Value} {base : Heap}
theorem ok_BadText_init {f C : Addr} {fd : FuncData} (F : Fun K "__init__" "BadText.__init__" s_BadText_init f fd) (o : OexC K C) (no : PySem.W.findIn K (.ref C) "word" = some none) : FnOk P w K mg base CX0 1 f fd ["self", "word"] (SwV.spIniF C "word") := by
  refine F.ok sc_BadText_init (fun vs H Q E h => ?_) (fun cdv A outer s H vs Q E hr h => ?_)
  · obtain ⟨a, v, rfl, _⟩ := h
    rfl
  · obtain ⟨a, v, rfl, ha, q⟩ := h
    exact ⟨_, pss_one (ps_ost (pv 0) (pv 1)), v, rfl, _, rfl, a, C, rfl, o, no, .inl ⟨ha, fun dx nd ne => q dx nd ne⟩⟩
end
end Sw
set_option maxRecDepth 100000
set_option maxHeartbeats 4000000
namespace Sw
open PySem L2
open C8 (pss_cut tCut pe_c pe_mk pe_mt pe_mt0 pe_gc Cal Mak Met InsC call_isC)
section
variable {P : Program} {w : World} {K : PySem.W.Frag} {mg : Str → Option Value} {base : Heap}
theorem ok_law_classes {f CX_SweetError CX_BadChild CX_BadChildren CX_BadGift CX_BadMost CX_BadParts CX_BadRounds CX_BadRows CX_BadSeen CX_BadSteps CX_BadSweets CX_BadText CX_TooMany : Addr} {fd : FuncData} (F : Fun K "_law_classes" "_law_classes" s_law_classes f fd) (T : Txt K mg) (EX_BadChild : ExC K mg "BadChild" CX_BadChild) (EX_BadChildren : ExC K mg "BadChildren" CX_BadChildren) (EX_BadGift : ExC K mg "BadGift" CX_BadGift) (EX_BadMost : ExC K mg "BadMost" CX_BadMost) (EX_BadParts : ExC K mg "BadParts" CX_BadParts) (EX_BadRounds : ExC K mg "BadRounds" CX_BadRounds) (EX_BadRows : SwV.ExF P w K mg base "BadRows" CX_BadRows "index") (EX_BadSeen : SwV.ExF P w K mg base "BadSeen" CX_BadSeen "index") (EX_BadSteps : SwV.ExF P w K mg base "BadSteps" CX_BadSteps "index") (EX_BadSweets : SwV.ExF P w K mg base "BadSweets" CX_BadSweets "index") (EX_BadText : SwV.ExF P w K mg base "BadText" CX_BadText "word") (EX_TooMany : ExC K mg "TooMany" CX_TooMany) :
    FnOk P w K mg base CX0 1 f fd ["_law_error"] (spClasses K [CX_BadChild, CX_BadChildren, CX_BadGift, CX_BadMost, CX_BadParts, CX_BadRounds, CX_BadRows, CX_BadSeen, CX_BadSteps, CX_BadSweets, CX_BadText, CX_TooMany] CX_SweetError) := by
  refine F.ok sc_law_classes (fun vs H Q E h => ?_) (fun cdv A outer s H vs Q E hr h => ?_)
  · obtain ⟨a, C, S, rfl, _⟩ := h
    rfl
  · obtain ⟨a, C, S, rfl, hS, ea, KR, q⟩ := h
    refine ⟨_, (pss_cons (ps_set (i := 1) sc_law_classes.nd rfl (Or.inl rfl) (pe_lst (pa_cons (pe_callB (id := "isinstance") (r := SwW.rIsX K) SwW.call_isX (by rfl) T.z_isinstance (by decide +kernel) (pa_cons (pv 0) (pa_cons (pe_gc (v := .ref CX_BadChild) (by rfl) ⟨_, EX_BadChild.g, rfl⟩) pa_nil))) (pa_cons (pe_callB (id := "isinstance") (r := SwW.rIsX K) SwW.call_isX (by rfl) T.z_isinstance (by decide +kernel) (pa_cons (pv 0) (pa_cons (pe_gc (v := .ref CX_BadChildren) (by rfl) ⟨_, EX_BadChildren.g, rfl⟩) pa_nil))) (pa_cons (pe_callB (id := "isinstance") (r := SwW.rIsX K) SwW.call_isX (by rfl) T.z_isinstance (by decide +kernel) (pa_cons (pv 0) (pa_cons (pe_gc (v := .ref CX_BadGift) (by rfl) ⟨_, EX_BadGift.g, rfl⟩) pa_nil))) pa_nil)))))
      (pss_cons (ps_set (i := 1) sc_law_classes.nd rfl (Or.inl rfl) (pe_op op_cat (pv 1) (pe_lst (pa_cons (pe_callB (id := "isinstance") (r := SwW.rIsX K) SwW.call_isX (by rfl) T.z_isinstance (by decide +kernel) (pa_cons (pv 0) (pa_cons (pe_gc (v := .ref CX_BadMost) (by rfl) ⟨_, EX_BadMost.g, rfl⟩) pa_nil))) (pa_cons (pe_callB (id := "isinstance") (r := SwW.rIsX K) SwW.call_isX (by rfl) T.z_isinstance (by decide +kernel) (pa_cons (pv 0) (pa_cons (pe_gc (v := .ref CX_BadParts) (by rfl) ⟨_, EX_BadParts.g, rfl⟩) pa_nil))) (pa_cons (pe_callB (id := "isinstance") (r := SwW.rIsX K) SwW.call_isX (by rfl) T.z_isinstance (by decide +kernel) (pa_cons (pv 0) (pa_cons (pe_gc (v := .ref CX_BadRounds) (by rfl) ⟨_, EX_BadRounds.g, rfl⟩) pa_nil))) pa_nil))))))
      (pss_cons (ps_set (i := 1) sc_law_classes.nd rfl (Or.inl rfl) (pe_op op_cat (pv 1) (pe_lst (pa_cons (pe_callB (id := "isinstance") (r := SwW.rIsX K) SwW.call_isX (by rfl) T.z_isinstance (by decide +kernel) (pa_cons (pv 0) (pa_cons (pe_gc (v := .ref CX_BadRows) (by rfl) ⟨_, EX_BadRows.g, rfl⟩) pa_nil))) (pa_cons (pe_callB (id := "isinstance") (r := SwW.rIsX K) SwW.call_isX (by rfl) T.z_isinstance (by decide +kernel) (pa_cons (pv 0) (pa_cons (pe_gc (v := .ref CX_BadSeen) (by rfl) ⟨_, EX_BadSeen.g, rfl⟩) pa_nil))) (pa_cons (pe_callB (id := "isinstance") (r := SwW.rIsX K) SwW.call_isX (by rfl) T.z_isinstance (by decide +kernel) (pa_cons (pv 0) (pa_cons (pe_gc (v := .ref CX_BadSteps) (by rfl) ⟨_, EX_BadSteps.g, rfl⟩) pa_nil))) pa_nil))))))
      (pss_cons (ps_set (i := 1) sc_law_classes.nd rfl (Or.inl rfl) (pe_op op_cat (pv 1) (pe_lst (pa_cons (pe_callB (id := "isinstance") (r := SwW.rIsX K) SwW.call_isX (by rfl) T.z_isinstance (by decide +kernel) (pa_cons (pv 0) (pa_cons (pe_gc (v := .ref CX_BadSweets) (by rfl) ⟨_, EX_BadSweets.g, rfl⟩) pa_nil))) (pa_cons (pe_callB (id := "isinstance") (r := SwW.rIsX K) SwW.call_isX (by rfl) T.z_isinstance (by decide +kernel) (pa_cons (pv 0) (pa_cons (pe_gc (v := .ref CX_BadText) (by rfl) ⟨_, EX_BadText.g, rfl⟩) pa_nil))) (pa_cons (pe_callB (id := "isinstance") (r := SwW.rIsX K) SwW.call_isX (by rfl) T.z_isinstance (by decide +kernel) (pa_cons (pv 0) (pa_cons (pe_gc (v := .ref CX_TooMany) (by rfl) ⟨_, EX_TooMany.g, rfl⟩) pa_nil))) pa_nil))))))
      (pss_one (ps_ret (pe_callB call_len_seq (by rfl) T.z_len (by decide +kernel) (pa_cons (pe_lc (own := [("_law_one_here", 2)]) rfl sc_law_classes.nd (pi_list (pv 1)) (blkOk_by (own := [("_law_one_here", 2)]) (N := ["_law_error", "_law_found", "_law_one_here"]) (sc := defScope s_law_classes) (by decide +kernel)) (fun _ _ _ _ _ => pg_name (i := 2) sc_law_classes.nd rfl (Or.inl rfl)) (fun _ _ _ _ _ => pts_one (pt_val (pv 2))) (fun _ _ _ _ _ => (pv 2))) pa_nil)))))))), ?_⟩
    obtain ⟨bs, hk, hc⟩ := KR.r
    match bs, hk, hc with
    | [b1, b2, b3, b4, b5, b6, b7, b8, b9, b10, b11, b12], ⟨k1, k2, k3, k4, k5, k6, k7, k8, k9, k10, k11, k12, _⟩, hc =>
      have e0 := erMono hS ea
      refine ⟨_, rfl, a, C, _, _, b1, rfl, KR.e, e0, .own _, k1, _, rfl, a, C, _, _, b2, rfl, KR.e, e0, .own _, k2, _, rfl, a, C, _, _, b3, rfl, KR.e, e0, .own _, k3, by show 3 ≤ sizeLine; decide, fun l1 h1 => ?_⟩
      have f1 := (Fr.refl (M := M0) hS).new (o := .lst [.bl b1, .bl b2, .bl b3]) h1
      have e1 := erMono f1.b ea
      refine ⟨_, rfl, _, rfl, a, C, _, _, b4, rfl, KR.e, e1, .own _, k4, _, rfl, a, C, _, _, b5, rfl, KR.e, e1, .own _, k5, _, rfl, a, C, _, _, b6, rfl, KR.e, e1, .own _, k6, by show 3 ≤ sizeLine; decide, fun l2 h2 => ?_⟩
      have f2 := f1.new (o := .lst [.bl b4, .bl b5, .bl b6]) h2
      have n12 : l1 ≠ l2 := ne_of_none upd_same h2
      refine ⟨l1, l2, _, _, rfl, rfl, (by rw [upd_ne n12]; exact upd_same), upd_same, by show 6 ≤ sizeLine; decide, fun l3 h3 => ?_⟩
      have f3 := f2.new (o := .lst ([.bl b1, .bl b2, .bl b3] ++ [.bl b4, .bl b5, .bl b6])) h3
      have e3 := erMono f3.b ea
      refine ⟨_, rfl, _, rfl, a, C, _, _, b7, rfl, KR.e, e3, .own _, k7, _, rfl, a, C, _, _, b8, rfl, KR.e, e3, .own _, k8, _, rfl, a, C, _, _, b9, rfl, KR.e, e3, .own _, k9, by show 3 ≤ sizeLine; decide, fun l4 h4 => ?_⟩
      have f4 := f3.new (o := .lst [.bl b7, .bl b8, .bl b9]) h4
      have n34 : l3 ≠ l4 := ne_of_none upd_same h4
      refine ⟨l3, l4, _, _, rfl, rfl, (by rw [upd_ne n34]; exact upd_same), upd_same, by show 9 ≤ sizeLine; decide, fun l5 h5 => ?_⟩
      have f5 := f4.new (o := .lst ([.bl b1, .bl b2, .bl b3] ++ [.bl b4, .bl b5, .bl b6] ++ [.bl b7, .bl b8, .bl b9])) h5
      have e5 := erMono f5.b ea
      refine ⟨_, rfl, _, rfl, a, C, _, _, b10, rfl, KR.e, e5, .own _, k10, _, rfl, a, C, _, _, b11, rfl, KR.e, e5, .own _, k11, _, rfl, a, C, _, _, b12, rfl, KR.e, e5, .own _, k12, by show 3 ≤ sizeLine; decide, fun l6 h6 => ?_⟩
      have f6 := f5.new (o := .lst [.bl b10, .bl b11, .bl b12]) h6
      have n56 : l5 ≠ l6 := ne_of_none upd_same h6
      refine ⟨l5, l6, _, _, rfl, rfl, (by rw [upd_ne n56]; exact upd_same), upd_same, by show 12 ≤ sizeLine; decide, fun l7 h7 => ?_⟩
      have f7 := f6.new (o := .lst ([.bl b1, .bl b2, .bl b3] ++ [.bl b4, .bl b5, .bl b6] ++ [.bl b7, .bl b8, .bl b9] ++ [.bl b10, .bl b11, .bl b12])) h7
      generalize hH : upd (upd (upd (upd (upd (upd (upd H l1 _) l2 _) l3 _) l4 _) l5 _) l6 _) l7 _ = H7 at f7 ⊢
      obtain ⟨L, hL⟩ : ∃ L, L = [b1, b2, b3, b4, b5, b6, b7, b8, b9, b10, b11, b12] := ⟨_, rfl⟩
      have e7 : H7 l7 = some (.lst (L.map V.bl)) := by
        rw [← hH, upd_same, hL]
        rfl
      rw [← hL] at hc
      have ll : L.length = 12 := by rw [hL]; rfl
      clear hH hL k1 k2 k3 k4 k5 k6 k7 k8 k9 k10 k11 k12
      refine ⟨_, rfl, l7, rfl, ⟨_, SqL.of e7⟩, fun D hD => ?_⟩
      have n7D : l7 ≠ D := ne_of_none e7 hD
      refine lc_list (K := K) (a := l7) (xs := L.map V.bl) (fun i H' => H' = upd H7 D (.lst (((L.take i).filter id).map V.bl))) rfl (fun i H' _ e => SqL.of (by rw [e, upd_ne n7D]; exact e7)) ?_ ?_
      · rintro i v H' hv rfl
        rw [List.getElem?_map] at hv
        cases eb : L[i]? with
        | none => rw [eb] at hv; cases hv
        | some b =>
          rw [eb] at hv
          have ev := (Option.some.inj hv).symm
          subst ev
          have hle : ((L.take i).filter id).length ≤ 12 := Nat.le_trans (List.length_filter_le _ _) (by rw [List.length_take]; omega)
          refine ⟨rfl, _, rfl, b, rfl, ?_⟩
          cases b with
          | false =>
            refine iteF ?_
            show upd H7 D _ = upd H7 D _
            rw [filt_snoc eb]
            simp
          | true =>
            refine iteT ⟨_, rfl, _, upd_same, szl100 (by rw [List.length_map]; omega), ?_⟩
            show upd (upd H7 D _) D _ = upd H7 D _
            rw [upd_upd, filt_snoc eb, List.map_append]
            rfl
      · rintro H' rfl
        rw [List.length_map, ll, ← ll, List.take_length]
        refine ⟨D, _, rfl, .inl (SqL.of upd_same), ?_⟩
        rw [List.length_map, hc]
        exact q _ (f7.new hD)
end
end Sw
set_option maxRecDepth 100000
set_option maxHeartbeats 4000000
namespace Sw
open PySem L2
open C8 (pss_cut tCut pe_c pe_mk pe_mt pe_mt0 pe_gc Cal Mak Met InsC call_isC)
section
variable {P : Program} {w : World} {K : PySem.W.Frag} {mg : Str → Option Value} {base : Heap}
theorem ok_law_one {f CX_BadRows CX_BadSeen CX_BadSteps CX_BadSweets CX_BadText : Addr} {fd : FuncData} (F : Fun K "_law_one" "_law_one" s_law_one f fd) (T : Txt K mg) (c_law_below : Cal P w K mg base 1 "_law_below" spBelow []) (c_law_pick : Cal P w K mg base 2 "_law_pick" spPick [])
    (EX_BadRows : SwV.ExF P w K mg base "BadRows" CX_BadRows "index") (EX_BadSeen : SwV.ExF P w K mg base "BadSeen" CX_BadSeen "index") (EX_BadSteps : SwV.ExF P w K mg base "BadSteps" CX_BadSteps "index") (EX_BadSweets : SwV.ExF P w K mg base "BadSweets" CX_BadSweets "index") (EX_BadText : SwV.ExF P w K mg base "BadText" CX_BadText "word") :
    FnOk P w K mg base CX0 3 f fd ["_law_d"] (spOne K [CX_BadRows, CX_BadSeen, CX_BadSteps, CX_BadSweets, CX_BadText]) := by
  refine F.ok sc_law_one (fun vs H Q E h => ?_) (fun cdv A outer s H vs Q E hr h => ?_)
  · obtain ⟨d, S, rfl, _⟩ := h
    rfl
  · obtain ⟨d, S, rfl, hS, hd, ds, q⟩ := h
    refine ⟨_, (pss_cons (ps_par (i := 1) (j := 2) (by rfl) sc_law_one.nd rfl rfl (by decide) rfl rfl (pa_cons (pe_c c_law_pick hr (by decide) (by rfl) (pa_cons (pv 0) (pa_cons (pe_lst (pa_cons pe_int (pa_cons (pe_un un_neg pe_int) (pa_cons pe_non (pa_cons pe_str (pa_cons (pe_tup pa_nil) pa_nil)))))) pa_nil))) (pa_cons (pe_c c_law_below hr (by decide) (by rfl) (pa_cons (pv 0) (pa_cons pe_int pa_nil))) pa_nil)) (by rfl))
      (pss_cons (ps_if (pt_cmpR op_eq (pv 2) pe_int (nomark _)) (pss_cons (ps_set (i := 3) sc_law_one.nd rfl (Or.inl rfl) (SwW.pe_exv EX_BadText hr (by decide) (by rfl) (pa_cons (pv 1) pa_nil)))
      (pss_one (ps_ret (pe_tup (pa_cons (pv 3) (pa_cons (pe_cmpR (r := rEqD K) (op_eqD hr.units) (SwW.pe_xv (pv 3)) (pv 1) (nomark _)) pa_nil)))))) pss_nil)
      (pss_cons (ps_set (i := 3) sc_law_one.nd rfl (Or.inl rfl) (pe_ix (r := rIxL K) ix_list (pe_lst (pa_cons (SwW.pe_exv EX_BadRows hr (by decide) (by rfl) (pa_cons (pv 1) pa_nil)) (pa_cons (SwW.pe_exv EX_BadSeen hr (by decide) (by rfl) (pa_cons (pv 1) pa_nil)) (pa_cons (SwW.pe_exv EX_BadSteps hr (by decide) (by rfl) (pa_cons (pv 1) pa_nil)) (pa_cons (SwW.pe_exv EX_BadSweets hr (by decide) (by rfl) (pa_cons (pv 1) pa_nil)) pa_nil))))) (pv 2) (fun _ _ => rfl)))
      (pss_one (ps_ret (pe_tup (pa_cons (pv 3) (pa_cons (pe_cmpR (r := rEqD K) (op_eqD hr.units) (SwW.pe_xv (pv 3)) (pv 1) (nomark _)) pa_nil)))))))), ?_⟩
    refine ⟨_, rfl, 1, rfl, Nat.zero_le _, fun e1 he1 => ⟨by show 5 ≤ sizeLine; decide, fun l hl => ?_⟩⟩
    have k1 := (Fr.refl (M := M1 d) hS).imm (o := .tup []) he1
    have te : SqT K (upd S e1 (.tup [])) e1 [] := SqT.of upd_same
    have hd1 := k1.d d ds.nn hd
    have ds1 := ds.new (o := .tup []) he1
    generalize upd S e1 _ = S1 at k1 te hd1
    generalize upd H e1 _ = H1 at k1 ds1 hl
    have k2 := k1.new (o := .lst [.int 0, .int (-1), .non, .str "a", .ref e1]) hl
    refine ⟨d, l, _, S1, rfl, k2.b, hd1, ds1.new hl, ds1.ne hl, upd_same, by show 0 < 5; decide, by show 5 ≤ 1000; decide, fun k v H2 hv f2 ds2 => ?_⟩
    have hp : Plain K S1 v := by
      match k, hv with
      | 0, hv => rw [← Option.some.inj hv]; exact ⟨.int 0, .int _, by decide +kernel, by decide +kernel⟩
      | 1, hv => rw [← Option.some.inj hv]; exact ⟨.int (-1), .int _, by decide +kernel, by decide +kernel⟩
      | 2, hv => rw [← Option.some.inj hv]; exact ⟨.none, .non, by decide +kernel, by decide +kernel⟩
      | 3, hv => rw [← Option.some.inj hv]; exact ⟨.str "a", .str _, by decide +kernel, by decide +kernel⟩
      | 4, hv => rw [← Option.some.inj hv]; exact ⟨.tuple [], .tup te .nil, by decide +kernel, by decide +kernel⟩
      | k + 5, hv => simp at hv
    refine ⟨_, rfl, d, 5, S1, rfl, f2.b, hd1, ds2, by decide, by decide, fun r H3 r0 r1 f3 ds3 => ?_⟩
    have k3 := k2.trans (f2.trans f3)
    refine ⟨v, .int r, rfl, ?_⟩
    refine ⟨_, rfl, rfl, _, rfl, ite2 (fun _ => ?_) (fun h4 => ?_)⟩
    · refine ⟨_, rfl, v, rfl, fun a dd ha hdd ne => ?_⟩
      have k4 := erNew (C := CX_BadText) (fs := [("word", v)]) k3 ha hdd ne
      have ea := upd_same (H := upd S1 dd (exd dd [("word", v)])) (a := a) (o := exo a CX_BadText (some dd))
      have ed : (upd (upd S1 dd (exd dd [("word", v)])) a (exo a CX_BadText (some dd))) dd = some (exd dd [("word", v)]) := by rw [upd_ne ne]; exact upd_same
      have hp4 : Plain K (upd (upd S1 dd (exd dd [("word", v)])) a (exo a CX_BadText (some dd))) v := hp.mono (fun b o e => by
        have nb : b ≠ dd := fun z => by rw [z, k3.b.free hdd] at e; cases e
        have na : b ≠ a := fun z => by rw [z, k3.b.free ha] at e; cases e
        rw [upd_ne na, upd_ne nb]
        exact e)
      have ds4 : DS d (upd (upd (upd H3 a (exo a CX_BadText none)) dd (exd dd [("word", v)])) a (exo a CX_BadText (some dd))) := ((ds3.new ha).new (by rw [upd_ne ne]; exact hdd)).upd (fun z => by subst z; exact ds3.nn ha)
      generalize upd (upd S1 dd _) a _ = S4 at k4 ea ed hp4
      generalize upd (upd (upd H3 a _) dd _) a _ = H4 at k4 ds4 ⊢
      obtain ⟨dv, h1, h2, h3⟩ := hp4
      refine ⟨_, rfl, _, rfl, a, CX_BadText, dd, _, v, rfl, EX_BadText.x, EX_BadText.no, k4.b _ _ ea, k4.b _ _ ed, by simp [List.lookup], _, rfl, dv, dv, dp_mono k4.b h1, dp_mono k4.b h1, h2, h2, ?_⟩
      rw [h3]
      refine ⟨by show 2 ≤ sizeLine; decide, fun t ht => ?_⟩
      exact q t a CX_BadText _ _ (by simp) (k4.imm ht) (ds4.new ht) (SqT.of upd_same) (erMono (same_new (k4.b.free ht)) (.inl ⟨dd, _, ea, ed⟩))
    · have rr := r1
      have ds10 := ds3
      have hp0 := hp
      refine ⟨_, rfl, v, rfl, fun a1 d1 ha1 hdd1 ne1 => ?_⟩
      have z1 := erNew (C := CX_BadRows) (fs := [("index", v)]) (Fr.refl (M := M0) k3.b) ha1 hdd1 ne1
      have ea1 := upd_same (H := upd S1 d1 (exd d1 [("index", v)])) (a := a1) (o := exo a1 CX_BadRows (some d1))
      have ed1 : (upd (upd S1 d1 (exd d1 [("index", v)])) a1 (exo a1 CX_BadRows (some d1))) d1 = some (exd d1 [("index", v)]) := by rw [upd_ne ne1]; exact upd_same
      have hp1 := hp0.mono z1.a
      have ds11 := ds10.keep z1 (fun z => z)
      have w1 := k3.trans z1.of0
      generalize upd (upd S1 d1 _) a1 _ = T1 at z1 w1 hp1 ea1 ed1
      generalize upd (upd (upd H3 a1 _) d1 _) a1 _ = G1 at z1 w1 ds11 ⊢
      refine ⟨_, rfl, v, rfl, fun a2 d2 ha2 hdd2 ne2 => ?_⟩
      have z2 := erNew (C := CX_BadSeen) (fs := [("index", v)]) (Fr.refl (M := M0) w1.b) ha2 hdd2 ne2
      have ea2 := upd_same (H := upd T1 d2 (exd d2 [("index", v)])) (a := a2) (o := exo a2 CX_BadSeen (some d2))
      have ed2 : (upd (upd T1 d2 (exd d2 [("index", v)])) a2 (exo a2 CX_BadSeen (some d2))) d2 = some (exd d2 [("index", v)]) := by rw [upd_ne ne2]; exact upd_same
      have hp2 := hp1.mono z2.a
      have ds12 := ds11.keep z2 (fun z => z)
      have w2 := w1.trans z2.of0
      have ea1 := z2.a _ _ ea1
      have ed1 := z2.a _ _ ed1
      generalize upd (upd T1 d2 _) a2 _ = T2 at z2 w2 hp2 ea1 ed1 ea2 ed2
      generalize upd (upd (upd G1 a2 _) d2 _) a2 _ = G2 at z2 w2 ds12 ⊢
      refine ⟨_, rfl, v, rfl, fun a3 d3 ha3 hdd3 ne3 => ?_⟩
      have z3 := erNew (C := CX_BadSteps) (fs := [("index", v)]) (Fr.refl (M := M0) w2.b) ha3 hdd3 ne3
      have ea3 := upd_same (H := upd T2 d3 (exd d3 [("index", v)])) (a := a3) (o := exo a3 CX_BadSteps (some d3))
      have ed3 : (upd (upd T2 d3 (exd d3 [("index", v)])) a3 (exo a3 CX_BadSteps (some d3))) d3 = some (exd d3 [("index", v)]) := by rw [upd_ne ne3]; exact upd_same
      have hp3 := hp2.mono z3.a
      have ds13 := ds12.keep z3 (fun z => z)
      have w3 := w2.trans z3.of0
      have ea1 := z3.a _ _ ea1
      have ed1 := z3.a _ _ ed1
      have ea2 := z3.a _ _ ea2
      have ed2 := z3.a _ _ ed2
      generalize upd (upd T2 d3 _) a3 _ = T3 at z3 w3 hp3 ea1 ed1 ea2 ed2 ea3 ed3
      generalize upd (upd (upd G2 a3 _) d3 _) a3 _ = G3 at z3 w3 ds13 ⊢
      refine ⟨_, rfl, v, rfl, fun a4 d4 ha4 hdd4 ne4 => ?_⟩
      have z4 := erNew (C := CX_BadSweets) (fs := [("index", v)]) (Fr.refl (M := M0) w3.b) ha4 hdd4 ne4
      have ea4 := upd_same (H := upd T3 d4 (exd d4 [("index", v)])) (a := a4) (o := exo a4 CX_BadSweets (some d4))
      have ed4 : (upd (upd T3 d4 (exd d4 [("index", v)])) a4 (exo a4 CX_BadSweets (some d4))) d4 = some (exd d4 [("index", v)]) := by rw [upd_ne ne4]; exact upd_same
      have hp4 := hp3.mono z4.a
      have ds14 := ds13.keep z4 (fun z => z)
      have w4 := w3.trans z4.of0
      have ea1 := z4.a _ _ ea1
      have ed1 := z4.a _ _ ed1
      have ea2 := z4.a _ _ ea2
      have ed2 := z4.a _ _ ed2
      have ea3 := z4.a _ _ ea3
      have ed3 := z4.a _ _ ed3
      generalize upd (upd T3 d4 _) a4 _ = T4 at z4 w4 hp4 ea1 ed1 ea2 ed2 ea3 ed3 ea4 ed4
      generalize upd (upd (upd G3 a4 _) d4 _) a4 _ = G4 at z4 w4 ds14 ⊢
      refine ⟨by show 4 ≤ sizeLine; decide, fun l2 hl2 => ?_⟩
      have w5 := w4.new (o := .lst [.ref a1, .ref a2, .ref a3, .ref a4]) hl2
      have ds15 := ds14.new (o := .lst [.ref a1, .ref a2, .ref a3, .ref a4]) hl2
      have r3 : r < 4 := by
        have : r ≠ 4 := fun z => h4 (decide_eq_true (congrArg V.int z))
        omega
      obtain ⟨rn, rfl⟩ : ∃ n : Nat, r = (n : Int) := ⟨r.toNat, by omega⟩
      obtain ⟨a, dd, C, hat, ea, ed, hC, xf, no⟩ : ∃ a dd C, ([.ref a1, .ref a2, .ref a3, .ref a4] : List V)[rn]? = some (.ref a) ∧ T4 a = some (exo a C (some dd)) ∧ T4 dd = some (exd dd [("index", v)]) ∧ C ∈ [CX_BadRows, CX_BadSeen, CX_BadSteps, CX_BadSweets, CX_BadText] ∧ XfC K C ∧ PySem.W.findIn K (.ref C) "index" = some none := by
        match rn, (by omega : rn < 4) with
        | 0, _ => exact ⟨a1, d1, CX_BadRows, rfl, ea1, ed1, by simp, EX_BadRows.x, EX_BadRows.no⟩
        | 1, _ => exact ⟨a2, d2, CX_BadSeen, rfl, ea2, ed2, by simp, EX_BadSeen.x, EX_BadSeen.no⟩
        | 2, _ => exact ⟨a3, d3, CX_BadSteps, rfl, ea3, ed3, by simp, EX_BadSteps.x, EX_BadSteps.no⟩
        | 3, _ => exact ⟨a4, d4, CX_BadSweets, rfl, ea4, ed4, by simp, EX_BadSweets.x, EX_BadSweets.no⟩
      refine ⟨_, rfl, l2, _, (rn : Int), .ref a, rfl, rfl, SqL.of upd_same, at_of rfl hat, ?_⟩
      obtain ⟨dv, h1, h2, h3⟩ := hp4
      refine ⟨_, rfl, _, rfl, a, C, dd, _, v, rfl, xf, no, w5.b _ _ ea, w5.b _ _ ed, by simp [List.lookup], _, rfl, dv, dv, dp_mono w5.b h1, dp_mono w5.b h1, h2, h2, ?_⟩
      rw [h3]
      refine ⟨by show 2 ≤ sizeLine; decide, fun t ht => ?_⟩
      exact q t a C _ _ hC (w5.imm ht) (ds15.new ht) (SqT.of upd_same) (erMono (same_new (w5.b.free ht)) (.inl ⟨dd, _, ea, ed⟩))
end
end Sw
set_option maxRecDepth 100000
set_option maxHeartbeats 4000000
namespace Sw
open PySem L2
open C8 (pss_cut tCut pe_c pe_mk pe_mt pe_mt0 pe_gc Cal Mak Met InsC call_isC)
section
variable {P : Program} {w : World} {K : PySem.W.Frag} {mg : Str → Option Value} {base : Heap}
def spLaw (K : PySem.W.Frag) : Sp := fun vs H Q _ => ∃ (a : Addr) (ns : List Int), vs = [.ref a] ∧ SqL K H a (ns.map V.int) ∧ ns.length ≤ 63 ∧ ∀ H', Q (.bl true) H'
theorem ok_law {f CX_SweetError CX_BadChild CX_BadChildren CX_BadGift CX_BadMost CX_BadParts CX_BadRounds CX_BadRows CX_BadSeen CX_BadSteps CX_BadSweets CX_BadText CX_TooMany : Addr} {fd : FuncData} (F : Fun K "law" "law" s_law f fd) (T : Txt K mg) (c_law_random : Cal P w K mg base 1 "_law_random" (spRandom K) [])
    (c_law_classes : Cal P w K mg base 1 "_law_classes" (spClasses K [CX_BadChild, CX_BadChildren, CX_BadGift, CX_BadMost, CX_BadParts, CX_BadRounds, CX_BadRows, CX_BadSeen, CX_BadSteps, CX_BadSweets, CX_BadText, CX_TooMany] CX_SweetError) []) (c_law_one : Cal P w K mg base 3 "_law_one" (spOne K [CX_BadRows, CX_BadSeen, CX_BadSteps, CX_BadSweets, CX_BadText]) [])
    (EX_SweetError : ExC K mg "SweetError" CX_SweetError) (EX_BadChild : ExC K mg "BadChild" CX_BadChild) (EX_BadChildren : ExC K mg "BadChildren" CX_BadChildren) (EX_BadGift : ExC K mg "BadGift" CX_BadGift) (EX_BadMost : ExC K mg "BadMost" CX_BadMost) (EX_BadParts : ExC K mg "BadParts" CX_BadParts) (EX_BadRounds : ExC K mg "BadRounds" CX_BadRounds) (EX_TooMany : ExC K mg "TooMany" CX_TooMany)
    (KR_BadChild : KitRow K [CX_BadChild, CX_BadChildren, CX_BadGift, CX_BadMost, CX_BadParts, CX_BadRounds, CX_BadRows, CX_BadSeen, CX_BadSteps, CX_BadSweets, CX_BadText, CX_TooMany] CX_SweetError CX_BadChild) (KR_BadChildren : KitRow K [CX_BadChild, CX_BadChildren, CX_BadGift, CX_BadMost, CX_BadParts, CX_BadRounds, CX_BadRows, CX_BadSeen, CX_BadSteps, CX_BadSweets, CX_BadText, CX_TooMany] CX_SweetError CX_BadChildren) (KR_BadGift : KitRow K [CX_BadChild, CX_BadChildren, CX_BadGift, CX_BadMost, CX_BadParts, CX_BadRounds, CX_BadRows, CX_BadSeen, CX_BadSteps, CX_BadSweets, CX_BadText, CX_TooMany] CX_SweetError CX_BadGift) (KR_BadMost : KitRow K [CX_BadChild, CX_BadChildren, CX_BadGift, CX_BadMost, CX_BadParts, CX_BadRounds, CX_BadRows, CX_BadSeen, CX_BadSteps, CX_BadSweets, CX_BadText, CX_TooMany] CX_SweetError CX_BadMost) (KR_BadParts : KitRow K [CX_BadChild, CX_BadChildren, CX_BadGift, CX_BadMost, CX_BadParts, CX_BadRounds, CX_BadRows, CX_BadSeen, CX_BadSteps, CX_BadSweets, CX_BadText, CX_TooMany] CX_SweetError CX_BadParts) (KR_BadRounds : KitRow K [CX_BadChild, CX_BadChildren, CX_BadGift, CX_BadMost, CX_BadParts, CX_BadRounds, CX_BadRows, CX_BadSeen, CX_BadSteps, CX_BadSweets, CX_BadText, CX_TooMany] CX_SweetError CX_BadRounds) (KR_BadRows : KitRow K [CX_BadChild, CX_BadChildren, CX_BadGift, CX_BadMost, CX_BadParts, CX_BadRounds, CX_BadRows, CX_BadSeen, CX_BadSteps, CX_BadSweets, CX_BadText, CX_TooMany] CX_SweetError CX_BadRows) (KR_BadSeen : KitRow K [CX_BadChild, CX_BadChildren, CX_BadGift, CX_BadMost, CX_BadParts, CX_BadRounds, CX_BadRows, CX_BadSeen, CX_BadSteps, CX_BadSweets, CX_BadText, CX_TooMany] CX_SweetError CX_BadSeen) (KR_BadSteps : KitRow K [CX_BadChild, CX_BadChildren, CX_BadGift, CX_BadMost, CX_BadParts, CX_BadRounds, CX_BadRows, CX_BadSeen, CX_BadSteps, CX_BadSweets, CX_BadText, CX_TooMany] CX_SweetError CX_BadSteps) (KR_BadSweets : KitRow K [CX_BadChild, CX_BadChildren, CX_BadGift, CX_BadMost, CX_BadParts, CX_BadRounds, CX_BadRows, CX_BadSeen, CX_BadSteps, CX_BadSweets, CX_BadText, CX_TooMany] CX_SweetError CX_BadSweets) (KR_BadText : KitRow K [CX_BadChild, CX_BadChildren, CX_BadGift, CX_BadMost, CX_BadParts, CX_BadRounds, CX_BadRows, CX_BadSeen, CX_BadSteps, CX_BadSweets, CX_BadText, CX_TooMany] CX_SweetError CX_BadText) (KR_TooMany : KitRow K [CX_BadChild, CX_BadChildren, CX_BadGift, CX_BadMost, CX_BadParts, CX_BadRounds, CX_BadRows, CX_BadSeen, CX_BadSteps, CX_BadSweets, CX_BadText, CX_TooMany] CX_SweetError CX_TooMany) : FnOk P w K mg base CX0 4 f fd ["_law_script"] (spLaw K) := by
  refine F.ok sc_law (fun vs H Q E h => ?_) (fun cdv A outer s H vs Q E hr h => ?_)
  · obtain ⟨a, ns, rfl, _⟩ := h
    rfl
  · obtain ⟨a, ns, rfl, hS, hl, q⟩ := h
    refine ⟨_, (pss_cons (ps_set (i := 1) sc_law.nd rfl (Or.inl rfl) (pe_c c_law_random hr (by decide) (by rfl) (pa_cons (pv 0) (pa_cons pe_int pa_nil))))
      (pss_cons (ps_for PassesOwn.never rfl (pi_range1 (by rfl) T.z_range (pa_cons pe_int pa_nil)) (pg_name (i := 2) sc_law.nd rfl (Or.inl rfl))
      (pss_cons (ps_asg (pe_c c_law_one hr (by decide) (by rfl) (pa_cons (pv 1) pa_nil)) (pg_tup (by rfl) (pgs_cons (pg_name (i := 3) sc_law.nd rfl (Or.inl rfl)) (pgs_cons (pg_name (i := 4) sc_law.nd rfl (Or.inl rfl)) pgs_nil))))
      (pss_cons (ps_if (PW.pt (pw_or (pt_not (pt_val (pv 4))) (pw_or (pt_cmpR op_ne (pe_c c_law_classes hr (by decide) (by rfl) (pa_cons (pv 3) pa_nil)) pe_int (nomark _)) (pw_or1 (pt_not (pt_val (pe_callB (id := "isinstance") (r := SwW.rIsX K) SwW.call_isX (by rfl) T.z_isinstance (by decide +kernel) (pa_cons (pv 3) (pa_cons (pe_gc (v := .ref CX_SweetError) (by rfl) ⟨_, EX_SweetError.g, rfl⟩) pa_nil))))))))) (pss_one (ps_ret pe_bl)) pss_nil)
      (pss_one (ps_if (pt_not (pt_val (pe_callB (id := "isinstance") (r := SwW.rIsX K) SwW.call_isX (by rfl) T.z_isinstance (by decide +kernel) (pa_cons (pv 3) (pa_cons (pe_bltn (v := .ty "ValueError") (by rfl) T.z_ValueError (by decide +kernel) rfl) pa_nil))))) (pss_one (ps_ret pe_bl)) pss_nil)))))
      (pss_cons (ps_set (i := 5) sc_law.nd rfl (Or.inl rfl) (pe_lst (pa_cons (SwW.pe_exc0 PySem.F.excBase_ValueError EX_BadChild.x EX_BadChild.g EX_BadChild.k (by rfl)) (pa_cons (SwW.pe_exc0 PySem.F.excBase_ValueError EX_BadChildren.x EX_BadChildren.g EX_BadChildren.k (by rfl)) (pa_cons (SwW.pe_exc0 PySem.F.excBase_ValueError EX_BadGift.x EX_BadGift.g EX_BadGift.k (by rfl)) (pa_cons (SwW.pe_exc0 PySem.F.excBase_ValueError EX_BadMost.x EX_BadMost.g EX_BadMost.k (by rfl)) (pa_cons (SwW.pe_exc0 PySem.F.excBase_ValueError EX_BadParts.x EX_BadParts.g EX_BadParts.k (by rfl)) (pa_cons (SwW.pe_exc0 PySem.F.excBase_ValueError EX_BadRounds.x EX_BadRounds.g EX_BadRounds.k (by rfl)) (pa_cons (SwW.pe_exc0 PySem.F.excBase_ValueError EX_TooMany.x EX_TooMany.g EX_TooMany.k (by rfl)) pa_nil)))))))))
      (pss_one (ps_ret (pe_cmpR (r := rEqD K) (op_eqD hr.units) (pe_lc (own := [("_law_one_here", 6)]) rfl sc_law.nd (pi_list (pv 5)) (blkOk_by (own := [("_law_one_here", 6)]) (N := ["_law_script", "_law_d", "_law_turn", "_law_error", "_law_is_right", "_law_errors", "_law_one_here"]) (sc := defScope s_law) (by decide +kernel)) (fun _ _ _ _ _ => pg_name (i := 6) sc_law.nd rfl (Or.inl rfl)) (fun _ _ _ _ _ => pts_one (PW.pt (pw_or (pt_cmpR op_ne (pe_c c_law_classes hr (by decide) (by rfl) (pa_cons (pv 6) pa_nil)) pe_int (nomark _)) (pw_or1 (pt_not (pt_val (pe_callB (id := "isinstance") (r := SwW.rIsX K) SwW.call_isX (by rfl) T.z_isinstance (by decide +kernel) (pa_cons (pv 6) (pa_cons (pe_gc (v := .ref CX_SweetError) (by rfl) ⟨_, EX_SweetError.g, rfl⟩) pa_nil))))))))) (fun _ _ _ _ _ => (pv 6))) (pe_lst pa_nil) (nomark _))))))), ?_⟩
    refine ⟨_, rfl, a, ns, 2719, rfl, hS, hl, by decide, by decide, fun d H1 hd s1 ds => ?_⟩
    refine ⟨4, rfl, by decide, by decide, for_range (lo := 0) (n := (4 : Int).toNat) (fun i σ H' => ∃ (a2 a3 a4 a5 a6 : Option V) (S : Hp), σ = [some (.ref a), some (.ref d), a2, a3, a4, a5, a6] ∧ Same S H' ∧ S d = none ∧ DS d H')
      ⟨none, none, none, none, none, H, rfl, s1, hd, ds⟩ ?_ ?_⟩
    · rintro i σ H2 hi ⟨a2, a3, a4, a5, a6, S0, rfl, hS2, hd2, ds2⟩
      refine ⟨_, rfl, d, S0, rfl, hS2, hd2, ds2, fun p e C S3 H3 hC f3 ds3 hp he => ?_⟩
      have hd3 := f3.d d ds2.nn hd2
      have KR : KitRow K [CX_BadChild, CX_BadChildren, CX_BadGift, CX_BadMost, CX_BadParts, CX_BadRounds, CX_BadRows, CX_BadSeen, CX_BadSteps, CX_BadSweets, CX_BadText, CX_TooMany] CX_SweetError C := by
        rcases List.mem_cons.mp hC with rfl | hC
        · exact KR_BadRows
        rcases List.mem_cons.mp hC with rfl | hC
        · exact KR_BadSeen
        rcases List.mem_cons.mp hC with rfl | hC
        · exact KR_BadSteps
        rcases List.mem_cons.mp hC with rfl | hC
        · exact KR_BadSweets
        rw [List.mem_singleton.mp hC]
        exact KR_BadText
      refine ⟨p, _, rfl, Same.seqT f3.b hp, rfl, _, _, rfl, _, _, rfl, rfl, ?_⟩
      refine ⟨_, rfl, true, rfl, iteF ?_⟩
      refine ⟨_, rfl, e, C, S3, rfl, f3.b, he, KR, fun H4 f4 => ?_⟩
      refine ⟨rfl, _, rfl, iteNS rfl ?_⟩
      refine ⟨_, rfl, e, C, _, _, true, rfl, KR.e, erMono f4.b he, .own _, KR.s, true, rfl, iteF ?_⟩
      refine ⟨_, rfl, e, C, _, _, true, rfl, KR.e, erMono f4.b he, .ty _, KR.v, true, rfl, iteF ?_⟩
      exact ⟨_, _, _, _, _, S3, rfl, f4.b, hd3, ds3.keep f4 (fun z => z)⟩
    · rintro σ H2 ⟨a2, a3, a4, a5, a6, S0, rfl, hS2, hd2, ds2⟩
      -- the errors without a field
      have k0 := Fr.refl (M := M0) hS2
      refine fun a1' ha1 => ?_
      have z1 := (Fr.refl (M := M0) k0.b).imm (o := ExO (.ref CX_BadChild) a1') ha1
      have ea1 : SwW.ErAt (upd S0 a1' (ExO (.ref CX_BadChild) a1')) a1' CX_BadChild := .inr upd_same
      have k1 := k0.trans z1
      generalize upd S0 a1' _ = T1 at z1 k1 ea1
      generalize upd H2 a1' _ = G1 at z1 k1 ⊢
      refine fun a2' ha2 => ?_
      have z2 := (Fr.refl (M := M0) k1.b).imm (o := ExO (.ref CX_BadChildren) a2') ha2
      have ea2 : SwW.ErAt (upd T1 a2' (ExO (.ref CX_BadChildren) a2')) a2' CX_BadChildren := .inr upd_same
      have k2 := k1.trans z2
      have ea1 := erMono z2.a ea1
      generalize upd T1 a2' _ = T2 at z2 k2 ea1 ea2
      generalize upd G1 a2' _ = G2 at z2 k2 ⊢
      refine fun a3' ha3 => ?_
      have z3 := (Fr.refl (M := M0) k2.b).imm (o := ExO (.ref CX_BadGift) a3') ha3
      have ea3 : SwW.ErAt (upd T2 a3' (ExO (.ref CX_BadGift) a3')) a3' CX_BadGift := .inr upd_same
      have k3 := k2.trans z3
      have ea1 := erMono z3.a ea1
      have ea2 := erMono z3.a ea2
      generalize upd T2 a3' _ = T3 at z3 k3 ea1 ea2 ea3
      generalize upd G2 a3' _ = G3 at z3 k3 ⊢
      refine fun a4' ha4 => ?_
      have z4 := (Fr.refl (M := M0) k3.b).imm (o := ExO (.ref CX_BadMost) a4') ha4
      have ea4 : SwW.ErAt (upd T3 a4' (ExO (.ref CX_BadMost) a4')) a4' CX_BadMost := .inr upd_same
      have k4 := k3.trans z4
      have ea1 := erMono z4.a ea1
      have ea2 := erMono z4.a ea2
      have ea3 := erMono z4.a ea3
      generalize upd T3 a4' _ = T4 at z4 k4 ea1 ea2 ea3 ea4
      generalize upd G3 a4' _ = G4 at z4 k4 ⊢
      refine fun a5' ha5 => ?_
      have z5 := (Fr.refl (M := M0) k4.b).imm (o := ExO (.ref CX_BadParts) a5') ha5
      have ea5 : SwW.ErAt (upd T4 a5' (ExO (.ref CX_BadParts) a5')) a5' CX_BadParts := .inr upd_same
      have k5 := k4.trans z5
      have ea1 := erMono z5.a ea1
      have ea2 := erMono z5.a ea2
      have ea3 := erMono z5.a ea3
      have ea4 := erMono z5.a ea4
      generalize upd T4 a5' _ = T5 at z5 k5 ea1 ea2 ea3 ea4 ea5
      generalize upd G4 a5' _ = G5 at z5 k5 ⊢
      refine fun a6' ha6 => ?_
      have z6 := (Fr.refl (M := M0) k5.b).imm (o := ExO (.ref CX_BadRounds) a6') ha6
      have ea6 : SwW.ErAt (upd T5 a6' (ExO (.ref CX_BadRounds) a6')) a6' CX_BadRounds := .inr upd_same
      have k6 := k5.trans z6
      have ea1 := erMono z6.a ea1
      have ea2 := erMono z6.a ea2
      have ea3 := erMono z6.a ea3
      have ea4 := erMono z6.a ea4
      have ea5 := erMono z6.a ea5
      generalize upd T5 a6' _ = T6 at z6 k6 ea1 ea2 ea3 ea4 ea5 ea6
      generalize upd G5 a6' _ = G6 at z6 k6 ⊢
      refine fun a7' ha7 => ?_
      have z7 := (Fr.refl (M := M0) k6.b).imm (o := ExO (.ref CX_TooMany) a7') ha7
      have ea7 : SwW.ErAt (upd T6 a7' (ExO (.ref CX_TooMany) a7')) a7' CX_TooMany := .inr upd_same
      have k7 := k6.trans z7
      have ea1 := erMono z7.a ea1
      have ea2 := erMono z7.a ea2
      have ea3 := erMono z7.a ea3
      have ea4 := erMono z7.a ea4
      have ea5 := erMono z7.a ea5
      have ea6 := erMono z7.a ea6
      generalize upd T6 a7' _ = T7 at z7 k7 ea1 ea2 ea3 ea4 ea5 ea6 ea7
      generalize upd G6 a7' _ = G7 at z7 k7 ⊢
      refine ⟨by show 7 ≤ sizeLine; decide, fun l hl7 => ?_⟩
      have k8 := (Fr.refl (M := M0) k7.b).new (o := .lst [.ref a1', .ref a2', .ref a3', .ref a4', .ref a5', .ref a6', .ref a7']) hl7
      refine ⟨_, rfl, l, rfl, ⟨_, SqL.of upd_same⟩, fun D hD => ?_⟩
      have nlD : l ≠ D := ne_of_none upd_same hD
      have k9 := k8.new (o := .lst []) hD
      refine lc_list (K := K) (a := l) (xs := [.ref a1', .ref a2', .ref a3', .ref a4', .ref a5', .ref a6', .ref a7']) (fun i H' => H' l = some (.lst [.ref a1', .ref a2', .ref a3', .ref a4', .ref a5', .ref a6', .ref a7']) ∧ H' D = some (.lst []) ∧ Fr M0 T7 G7 T7 H') ⟨by rw [upd_ne nlD]; exact upd_same, upd_same, k9⟩ (fun i H' _ ⟨e, _⟩ => SqL.of e) ?_ ?_
      · rintro i v H' hv ⟨el, eD, f⟩
        obtain ⟨e, C, rfl, he, KR⟩ : ∃ e C, v = .ref e ∧ SwW.ErAt T7 e C ∧ KitRow K [CX_BadChild, CX_BadChildren, CX_BadGift, CX_BadMost, CX_BadParts, CX_BadRounds, CX_BadRows, CX_BadSeen, CX_BadSteps, CX_BadSweets, CX_BadText, CX_TooMany] CX_SweetError C := by
          match i, hv with
          | 0, hv => exact ⟨a1', _, (Option.some.inj hv).symm, ea1, KR_BadChild⟩
          | 1, hv => exact ⟨a2', _, (Option.some.inj hv).symm, ea2, KR_BadChildren⟩
          | 2, hv => exact ⟨a3', _, (Option.some.inj hv).symm, ea3, KR_BadGift⟩
          | 3, hv => exact ⟨a4', _, (Option.some.inj hv).symm, ea4, KR_BadMost⟩
          | 4, hv => exact ⟨a5', _, (Option.some.inj hv).symm, ea5, KR_BadParts⟩
          | 5, hv => exact ⟨a6', _, (Option.some.inj hv).symm, ea6, KR_BadRounds⟩
          | 6, hv => exact ⟨a7', _, (Option.some.inj hv).symm, ea7, KR_TooMany⟩
          | i + 7, hv => simp at hv
        refine ⟨rfl, _, rfl, e, C, T7, rfl, f.b, he, KR, fun H4 f4 => ?_⟩
        refine ⟨rfl, _, rfl, iteNS rfl ?_⟩
        exact ⟨_, rfl, e, C, _, _, true, rfl, KR.e, erMono f4.b he, .own _, KR.s, true, rfl, iteF ⟨f4.c l _ (fun z => z) el, f4.c D _ (fun z => z) eD, f.trans f4⟩⟩
      · rintro H' ⟨el, eD, f⟩
        refine ⟨Nat.zero_le _, fun u hu => ?_⟩
        refine ⟨.list [], .list [], .lst (SqL.of (by rw [upd_ne (ne_of_none eD hu)]; exact eD)) .nil, .lst (SqL.of upd_same) .nil, by decide +kernel, by decide +kernel, ?_⟩
        exact q _
end
end Sw
set_option maxRecDepth 100000
set_option maxHeartbeats 4000000
namespace Sw
open PySem L2
open C8 (pss_cut tCut pe_c pe_mk pe_mt pe_mt0 pe_gc Cal Mak Met InsC call_isC)
theorem all_mk {l : PySem.W.OpenLaw} {w : World} {K : PySem.W.Frag} {h : Heap} {mg : Str → Option Value} {fa : Addr} (X : K.In h) (G : h.Ns mainGlobals mg) (hfa : mg "law" = some (.ref fa))
    {od1 an1 : Option Addr} {sl1 : Array (Option Value)} {oc1 kV1 dc1 pm1 cd1 ct1 : Value} {f1 : Addr}
    {od2 an2 : Option Addr} {sl2 : Array (Option Value)} {oc2 kV2 dc2 pm2 cd2 ct2 : Value} {f2 : Addr}
    {od3 an3 : Option Addr} {sl3 : Array (Option Value)} {oc3 kV3 dc3 pm3 cd3 ct3 : Value} {f3 : Addr}
    {CX_SweetError : Addr}
    {CX_BadChild : Addr}
    {CX_BadChildren : Addr}
    {CX_BadGift : Addr}
    {CX_BadMost : Addr}
    {CX_BadParts : Addr}
    {CX_BadRounds : Addr}
    {CX_TooMany : Addr}
    {CX_BadRows SX_BadRows NX_BadRows fX_BadRows : Addr} {mX_BadRows qX_BadRows : Str} {bX_BadRows uX_BadRows : List Value} {nX_BadRows : List Str} {aX_BadRows : Bool} {oX_BadRows : Option Bool} {dX_BadRows eX_BadRows yX_BadRows : Option Addr} {m0X_BadRows m1X_BadRows m2X_BadRows m3X_BadRows m5X_BadRows : Option Value} {vX_BadRows kX_BadRows iX_BadRows jX_BadRows tX_BadRows wX_BadRows : Value} {lX_BadRows : Array (Option Value)}
    {CX_BadSeen SX_BadSeen NX_BadSeen fX_BadSeen : Addr} {mX_BadSeen qX_BadSeen : Str} {bX_BadSeen uX_BadSeen : List Value} {nX_BadSeen : List Str} {aX_BadSeen : Bool} {oX_BadSeen : Option Bool} {dX_BadSeen eX_BadSeen yX_BadSeen : Option Addr} {m0X_BadSeen m1X_BadSeen m2X_BadSeen m3X_BadSeen m5X_BadSeen : Option Value} {vX_BadSeen kX_BadSeen iX_BadSeen jX_BadSeen tX_BadSeen wX_BadSeen : Value} {lX_BadSeen : Array (Option Value)}
    {CX_BadSteps SX_BadSteps NX_BadSteps fX_BadSteps : Addr} {mX_BadSteps qX_BadSteps : Str} {bX_BadSteps uX_BadSteps : List Value} {nX_BadSteps : List Str} {aX_BadSteps : Bool} {oX_BadSteps : Option Bool} {dX_BadSteps eX_BadSteps yX_BadSteps : Option Addr} {m0X_BadSteps m1X_BadSteps m2X_BadSteps m3X_BadSteps m5X_BadSteps : Option Value} {vX_BadSteps kX_BadSteps iX_BadSteps jX_BadSteps tX_BadSteps wX_BadSteps : Value} {lX_BadSteps : Array (Option Value)}
    {CX_BadSweets SX_BadSweets NX_BadSweets fX_BadSweets : Addr} {mX_BadSweets qX_BadSweets : Str} {bX_BadSweets uX_BadSweets : List Value} {nX_BadSweets : List Str} {aX_BadSweets : Bool} {oX_BadSweets : Option Bool} {dX_BadSweets eX_BadSweets yX_BadSweets : Option Addr} {m0X_BadSweets m1X_BadSweets m2X_BadSweets m3X_BadSweets m5X_BadSweets : Option Value} {vX_BadSweets kX_BadSweets iX_BadSweets jX_BadSweets tX_BadSweets wX_BadSweets : Value} {lX_BadSweets : Array (Option Value)}
    {CX_BadText SX_BadText NX_BadText fX_BadText : Addr} {mX_BadText qX_BadText : Str} {bX_BadText uX_BadText : List Value} {nX_BadText : List Str} {aX_BadText : Bool} {oX_BadText : Option Bool} {dX_BadText eX_BadText yX_BadText : Option Addr} {m0X_BadText m1X_BadText m2X_BadText m3X_BadText m5X_BadText : Option Value} {vX_BadText kX_BadText iX_BadText jX_BadText tX_BadText wX_BadText : Value} {lX_BadText : Array (Option Value)}
    {od4 an4 : Option Addr} {sl4 : Array (Option Value)} {oc4 kV4 dc4 pm4 cd4 ct4 : Value} {f4 : Addr}
    {od5 an5 : Option Addr} {sl5 : Array (Option Value)} {oc5 kV5 dc5 pm5 cd5 ct5 : Value} {f5 : Addr}
    {od6 an6 : Option Addr} {sl6 : Array (Option Value)} {oc6 kV6 dc6 pm6 cd6 ct6 : Value} {f6 : Addr}
    (a1 : PySem.W.nsIn K mainGlobals "_law_below" = some (some (.ref f1)))
    (l1 : K.lookup f1 = some ⟨oc1, od1, .func (PySem.W.fnOf "_law_below" "_law_below" (defArgs s_law_below) (defBody s_law_below) (defScope s_law_below) .none kV1 dc1 pm1 an1 cd1 ct1), sl1⟩)
    (c1 : PySem.W.codeIn K cd1 "_law_below" = true)
    (k1 : PySem.W.keepIn K (.ref f1) = true)
    (a2 : PySem.W.nsIn K mainGlobals "_law_pick" = some (some (.ref f2)))
    (l2 : K.lookup f2 = some ⟨oc2, od2, .func (PySem.W.fnOf "_law_pick" "_law_pick" (defArgs s_law_pick) (defBody s_law_pick) (defScope s_law_pick) .none kV2 dc2 pm2 an2 cd2 ct2), sl2⟩)
    (c2 : PySem.W.codeIn K cd2 "_law_pick" = true)
    (k2 : PySem.W.keepIn K (.ref f2) = true)
    (a3 : PySem.W.nsIn K mainGlobals "_law_random" = some (some (.ref f3)))
    (l3 : K.lookup f3 = some ⟨oc3, od3, .func (PySem.W.fnOf "_law_random" "_law_random" (defArgs s_law_random) (defBody s_law_random) (defScope s_law_random) .none kV3 dc3 pm3 an3 cd3 ct3), sl3⟩)
    (c3 : PySem.W.codeIn K cd3 "_law_random" = true)
    (k3 : PySem.W.keepIn K (.ref f3) = true)
    (qu_SweetError : PySem.W.nsIn K mainGlobals "SweetError" = some (some (.ref CX_SweetError)))
    (qx_SweetError : PySem.W.excIn K CX_SweetError [.type "ValueError", .type "Exception", .type "BaseException", .type "object"] "ValueError.__new__" = true)
    (qk_SweetError : PySem.W.keepIn K (.ref CX_SweetError) = true)
    (qb_SweetError : PySem.W.subIn K (.ref CX_SweetError) (.type "BaseException") = some true)
    (qt_SweetError : PySem.W.typeIn K (.ref CX_SweetError) = some (.type "type"))
    (qi_SweetError : PySem.W.isClsIn K CX_SweetError = true)
    (qs_SweetError : PySem.W.subIn K (.ref CX_SweetError) (.ref CX_SweetError) = some true)
    (qu_BadChild : PySem.W.nsIn K mainGlobals "BadChild" = some (some (.ref CX_BadChild)))
    (qx_BadChild : PySem.W.excIn K CX_BadChild [.type "ValueError", .type "Exception", .type "BaseException", .type "object"] "ValueError.__new__" = true)
    (qk_BadChild : PySem.W.keepIn K (.ref CX_BadChild) = true)
    (qb_BadChild : PySem.W.subIn K (.ref CX_BadChild) (.type "BaseException") = some true)
    (qt_BadChild : PySem.W.typeIn K (.ref CX_BadChild) = some (.type "type"))
    (qi_BadChild : PySem.W.isClsIn K CX_BadChild = true)
    (qs_BadChild : PySem.W.subIn K (.ref CX_BadChild) (.ref CX_BadChild) = some true)
    (qu_BadChildren : PySem.W.nsIn K mainGlobals "BadChildren" = some (some (.ref CX_BadChildren)))
    (qx_BadChildren : PySem.W.excIn K CX_BadChildren [.type "ValueError", .type "Exception", .type "BaseException", .type "object"] "ValueError.__new__" = true)
    (qk_BadChildren : PySem.W.keepIn K (.ref CX_BadChildren) = true)
    (qb_BadChildren : PySem.W.subIn K (.ref CX_BadChildren) (.type "BaseException") = some true)
    (qt_BadChildren : PySem.W.typeIn K (.ref CX_BadChildren) = some (.type "type"))
    (qi_BadChildren : PySem.W.isClsIn K CX_BadChildren = true)
    (qs_BadChildren : PySem.W.subIn K (.ref CX_BadChildren) (.ref CX_BadChildren) = some true)
    (qu_BadGift : PySem.W.nsIn K mainGlobals "BadGift" = some (some (.ref CX_BadGift)))
    (qx_BadGift : PySem.W.excIn K CX_BadGift [.type "ValueError", .type "Exception", .type "BaseException", .type "object"] "ValueError.__new__" = true)
    (qk_BadGift : PySem.W.keepIn K (.ref CX_BadGift) = true)
    (qb_BadGift : PySem.W.subIn K (.ref CX_BadGift) (.type "BaseException") = some true)
    (qt_BadGift : PySem.W.typeIn K (.ref CX_BadGift) = some (.type "type"))
    (qi_BadGift : PySem.W.isClsIn K CX_BadGift = true)
    (qs_BadGift : PySem.W.subIn K (.ref CX_BadGift) (.ref CX_BadGift) = some true)
    (qu_BadMost : PySem.W.nsIn K mainGlobals "BadMost" = some (some (.ref CX_BadMost)))
    (qx_BadMost : PySem.W.excIn K CX_BadMost [.type "ValueError", .type "Exception", .type "BaseException", .type "object"] "ValueError.__new__" = true)
    (qk_BadMost : PySem.W.keepIn K (.ref CX_BadMost) = true)
    (qb_BadMost : PySem.W.subIn K (.ref CX_BadMost) (.type "BaseException") = some true)
    (qt_BadMost : PySem.W.typeIn K (.ref CX_BadMost) = some (.type "type"))
    (qi_BadMost : PySem.W.isClsIn K CX_BadMost = true)
    (qs_BadMost : PySem.W.subIn K (.ref CX_BadMost) (.ref CX_BadMost) = some true)
    (qu_BadParts : PySem.W.nsIn K mainGlobals "BadParts" = some (some (.ref CX_BadParts)))
    (qx_BadParts : PySem.W.excIn K CX_BadParts [.type "ValueError", .type "Exception", .type "BaseException", .type "object"] "ValueError.__new__" = true)
    (qk_BadParts : PySem.W.keepIn K (.ref CX_BadParts) = true)
    (qb_BadParts : PySem.W.subIn K (.ref CX_BadParts) (.type "BaseException") = some true)
    (qt_BadParts : PySem.W.typeIn K (.ref CX_BadParts) = some (.type "type"))
    (qi_BadParts : PySem.W.isClsIn K CX_BadParts = true)
    (qs_BadParts : PySem.W.subIn K (.ref CX_BadParts) (.ref CX_BadParts) = some true)
    (qu_BadRounds : PySem.W.nsIn K mainGlobals "BadRounds" = some (some (.ref CX_BadRounds)))
    (qx_BadRounds : PySem.W.excIn K CX_BadRounds [.type "ValueError", .type "Exception", .type "BaseException", .type "object"] "ValueError.__new__" = true)
    (qk_BadRounds : PySem.W.keepIn K (.ref CX_BadRounds) = true)
    (qb_BadRounds : PySem.W.subIn K (.ref CX_BadRounds) (.type "BaseException") = some true)
    (qt_BadRounds : PySem.W.typeIn K (.ref CX_BadRounds) = some (.type "type"))
    (qi_BadRounds : PySem.W.isClsIn K CX_BadRounds = true)
    (qs_BadRounds : PySem.W.subIn K (.ref CX_BadRounds) (.ref CX_BadRounds) = some true)
    (qu_TooMany : PySem.W.nsIn K mainGlobals "TooMany" = some (some (.ref CX_TooMany)))
    (qx_TooMany : PySem.W.excIn K CX_TooMany [.type "ValueError", .type "Exception", .type "BaseException", .type "object"] "ValueError.__new__" = true)
    (qk_TooMany : PySem.W.keepIn K (.ref CX_TooMany) = true)
    (qb_TooMany : PySem.W.subIn K (.ref CX_TooMany) (.type "BaseException") = some true)
    (qt_TooMany : PySem.W.typeIn K (.ref CX_TooMany) = some (.type "type"))
    (qi_TooMany : PySem.W.isClsIn K CX_TooMany = true)
    (qs_TooMany : PySem.W.subIn K (.ref CX_TooMany) (.ref CX_TooMany) = some true)
    (ru_BadRows : PySem.W.nsIn K mainGlobals "BadRows" = some (some (.ref CX_BadRows)))
    (rl_BadRows : K.lookup CX_BadRows = some (excClassObj mX_BadRows qX_BadRows CX_BadRows NX_BadRows bX_BadRows [.ref SX_BadRows, .type "ValueError", .type "Exception", .type "BaseException", .type "object"] true nX_BadRows uX_BadRows aX_BadRows oX_BadRows dX_BadRows m0X_BadRows m1X_BadRows m2X_BadRows m3X_BadRows m5X_BadRows "ValueError.__new__"))
    (rs_BadRows : PySem.W.findIn K (.ref CX_BadRows) "__setattr__" = some (some (.builtin "object.__setattr__")))
    (rg_BadRows : PySem.W.findIn K (.ref CX_BadRows) "__getattribute__" = some (some (.builtin "BaseException.__getattribute__")))
    (ra_BadRows : PySem.W.findIn K (.ref CX_BadRows) "__getattr__" = some none)
    (rf_BadRows : PySem.W.findIn K (.ref CX_BadRows) "index" = some none)
    (ri_BadRows : PySem.W.findIn K (.ref CX_BadRows) "__init__" = some (some (.ref fX_BadRows)))
    (rt_BadRows : PySem.W.typeIn K (.ref fX_BadRows) = some (.type "function"))
    (rn_BadRows : K.lookup fX_BadRows = some ⟨vX_BadRows, eX_BadRows, .func (PySem.W.fnOf "__init__" "BadRows.__init__" (defArgs s_BadRows_init) (defBody s_BadRows_init) (defScope s_BadRows_init) .none kX_BadRows iX_BadRows jX_BadRows yX_BadRows tX_BadRows wX_BadRows), lX_BadRows⟩)
    (rc_BadRows : PySem.W.codeIn K tX_BadRows "BadRows.__init__" = true)
    (rw_BadRows : PySem.W.keepIn K (.ref fX_BadRows) = true)
    (rk_BadRows : PySem.W.keepIn K (.ref CX_BadRows) = true)
    (rb_BadRows : PySem.W.subIn K (.ref CX_BadRows) (.type "BaseException") = some true)
    (ry_BadRows : PySem.W.typeIn K (.ref CX_BadRows) = some (.type "type"))
    (rh_BadRows : PySem.W.hasDictIn K CX_BadRows = true)
    (rx_BadRows : PySem.W.isClsIn K CX_BadRows = true)
    (rz_BadRows : PySem.W.subIn K (.ref CX_BadRows) (.ref CX_BadRows) = some true)
    (ru_BadSeen : PySem.W.nsIn K mainGlobals "BadSeen" = some (some (.ref CX_BadSeen)))
    (rl_BadSeen : K.lookup CX_BadSeen = some (excClassObj mX_BadSeen qX_BadSeen CX_BadSeen NX_BadSeen bX_BadSeen [.ref SX_BadSeen, .type "ValueError", .type "Exception", .type "BaseException", .type "object"] true nX_BadSeen uX_BadSeen aX_BadSeen oX_BadSeen dX_BadSeen m0X_BadSeen m1X_BadSeen m2X_BadSeen m3X_BadSeen m5X_BadSeen "ValueError.__new__"))
    (rs_BadSeen : PySem.W.findIn K (.ref CX_BadSeen) "__setattr__" = some (some (.builtin "object.__setattr__")))
    (rg_BadSeen : PySem.W.findIn K (.ref CX_BadSeen) "__getattribute__" = some (some (.builtin "BaseException.__getattribute__")))
    (ra_BadSeen : PySem.W.findIn K (.ref CX_BadSeen) "__getattr__" = some none)
    (rf_BadSeen : PySem.W.findIn K (.ref CX_BadSeen) "index" = some none)
    (ri_BadSeen : PySem.W.findIn K (.ref CX_BadSeen) "__init__" = some (some (.ref fX_BadSeen)))
    (rt_BadSeen : PySem.W.typeIn K (.ref fX_BadSeen) = some (.type "function"))
    (rn_BadSeen : K.lookup fX_BadSeen = some ⟨vX_BadSeen, eX_BadSeen, .func (PySem.W.fnOf "__init__" "BadSeen.__init__" (defArgs s_BadSeen_init) (defBody s_BadSeen_init) (defScope s_BadSeen_init) .none kX_BadSeen iX_BadSeen jX_BadSeen yX_BadSeen tX_BadSeen wX_BadSeen), lX_BadSeen⟩)
    (rc_BadSeen : PySem.W.codeIn K tX_BadSeen "BadSeen.__init__" = true)
    (rw_BadSeen : PySem.W.keepIn K (.ref fX_BadSeen) = true)
    (rk_BadSeen : PySem.W.keepIn K (.ref CX_BadSeen) = true)
    (rb_BadSeen : PySem.W.subIn K (.ref CX_BadSeen) (.type "BaseException") = some true)
    (ry_BadSeen : PySem.W.typeIn K (.ref CX_BadSeen) = some (.type "type"))
    (rh_BadSeen : PySem.W.hasDictIn K CX_BadSeen = true)
    (rx_BadSeen : PySem.W.isClsIn K CX_BadSeen = true)
    (rz_BadSeen : PySem.W.subIn K (.ref CX_BadSeen) (.ref CX_BadSeen) = some true)
    (ru_BadSteps : PySem.W.nsIn K mainGlobals "BadSteps" = some (some (.ref CX_BadSteps)))
    (rl_BadSteps : K.lookup CX_BadSteps = some (excClassObj mX_BadSteps qX_BadSteps CX_BadSteps NX_BadSteps bX_BadSteps [.ref SX_BadSteps, .type "ValueError", .type "Exception", .type "BaseException", .type "object"] true nX_BadSteps uX_BadSteps aX_BadSteps oX_BadSteps dX_BadSteps m0X_BadSteps m1X_BadSteps m2X_BadSteps m3X_BadSteps m5X_BadSteps "ValueError.__new__"))
    (rs_BadSteps : PySem.W.findIn K (.ref CX_BadSteps) "__setattr__" = some (some (.builtin "object.__setattr__")))
    (rg_BadSteps : PySem.W.findIn K (.ref CX_BadSteps) "__getattribute__" = some (some (.builtin "BaseException.__getattribute__")))
    (ra_BadSteps : PySem.W.findIn K (.ref CX_BadSteps) "__getattr__" = some none)
    (rf_BadSteps : PySem.W.findIn K (.ref CX_BadSteps) "index" = some none)
    (ri_BadSteps : PySem.W.findIn K (.ref CX_BadSteps) "__init__" = some (some (.ref fX_BadSteps)))
    (rt_BadSteps : PySem.W.typeIn K (.ref fX_BadSteps) = some (.type "function"))
    (rn_BadSteps : K.lookup fX_BadSteps = some ⟨vX_BadSteps, eX_BadSteps, .func (PySem.W.fnOf "__init__" "BadSteps.__init__" (defArgs s_BadSteps_init) (defBody s_BadSteps_init) (defScope s_BadSteps_init) .none kX_BadSteps iX_BadSteps jX_BadSteps yX_BadSteps tX_BadSteps wX_BadSteps), lX_BadSteps⟩)
    (rc_BadSteps : PySem.W.codeIn K tX_BadSteps "BadSteps.__init__" = true)
    (rw_BadSteps : PySem.W.keepIn K (.ref fX_BadSteps) = true)
    (rk_BadSteps : PySem.W.keepIn K (.ref CX_BadSteps) = true)
    (rb_BadSteps : PySem.W.subIn K (.ref CX_BadSteps) (.type "BaseException") = some true)
    (ry_BadSteps : PySem.W.typeIn K (.ref CX_BadSteps) = some (.type "type"))
    (rh_BadSteps : PySem.W.hasDictIn K CX_BadSteps = true)
    (rx_BadSteps : PySem.W.isClsIn K CX_BadSteps = true)
    (rz_BadSteps : PySem.W.subIn K (.ref CX_BadSteps) (.ref CX_BadSteps) = some true)
    (ru_BadSweets : PySem.W.nsIn K mainGlobals "BadSweets" = some (some (.ref CX_BadSweets)))
    (rl_BadSweets : K.lookup CX_BadSweets = some (excClassObj mX_BadSweets qX_BadSweets CX_BadSweets NX_BadSweets bX_BadSweets [.ref SX_BadSweets, .type "ValueError", .type "Exception", .type "BaseException", .type "object"] true nX_BadSweets uX_BadSweets aX_BadSweets oX_BadSweets dX_BadSweets m0X_BadSweets m1X_BadSweets m2X_BadSweets m3X_BadSweets m5X_BadSweets "ValueError.__new__"))
    (rs_BadSweets : PySem.W.findIn K (.ref CX_BadSweets) "__setattr__" = some (some (.builtin "object.__setattr__")))
    (rg_BadSweets : PySem.W.findIn K (.ref CX_BadSweets) "__getattribute__" = some (some (.builtin "BaseException.__getattribute__")))
    (ra_BadSweets : PySem.W.findIn K (.ref CX_BadSweets) "__getattr__" = some none)
    (rf_BadSweets : PySem.W.findIn K (.ref CX_BadSweets) "index" = some none)
    (ri_BadSweets : PySem.W.findIn K (.ref CX_BadSweets) "__init__" = some (some (.ref fX_BadSweets)))
    (rt_BadSweets : PySem.W.typeIn K (.ref fX_BadSweets) = some (.type "function"))
    (rn_BadSweets : K.lookup fX_BadSweets = some ⟨vX_BadSweets, eX_BadSweets, .func (PySem.W.fnOf "__init__" "BadSweets.__init__" (defArgs s_BadSweets_init) (defBody s_BadSweets_init) (defScope s_BadSweets_init) .none kX_BadSweets iX_BadSweets jX_BadSweets yX_BadSweets tX_BadSweets wX_BadSweets), lX_BadSweets⟩)
    (rc_BadSweets : PySem.W.codeIn K tX_BadSweets "BadSweets.__init__" = true)
    (rw_BadSweets : PySem.W.keepIn K (.ref fX_BadSweets) = true)
    (rk_BadSweets : PySem.W.keepIn K (.ref CX_BadSweets) = true)
    (rb_BadSweets : PySem.W.subIn K (.ref CX_BadSweets) (.type "BaseException") = some true)
    (ry_BadSweets : PySem.W.typeIn K (.ref CX_BadSweets) = some (.type "type"))
    (rh_BadSweets : PySem.W.hasDictIn K CX_BadSweets = true)
    (rx_BadSweets : PySem.W.isClsIn K CX_BadSweets = true)
    (rz_BadSweets : PySem.W.subIn K (.ref CX_BadSweets) (.ref CX_BadSweets) = some true)
    (ru_BadText : PySem.W.nsIn K mainGlobals "BadText" = some (some (.ref CX_BadText)))
    (rl_BadText : K.lookup CX_BadText = some (excClassObj mX_BadText qX_BadText CX_BadText NX_BadText bX_BadText [.ref SX_BadText, .type "ValueError", .type "Exception", .type "BaseException", .type "object"] true nX_BadText uX_BadText aX_BadText oX_BadText dX_BadText m0X_BadText m1X_BadText m2X_BadText m3X_BadText m5X_BadText "ValueError.__new__"))
    (rs_BadText : PySem.W.findIn K (.ref CX_BadText) "__setattr__" = some (some (.builtin "object.__setattr__")))
    (rg_BadText : PySem.W.findIn K (.ref CX_BadText) "__getattribute__" = some (some (.builtin "BaseException.__getattribute__")))
    (ra_BadText : PySem.W.findIn K (.ref CX_BadText) "__getattr__" = some none)
    (rf_BadText : PySem.W.findIn K (.ref CX_BadText) "word" = some none)
    (ri_BadText : PySem.W.findIn K (.ref CX_BadText) "__init__" = some (some (.ref fX_BadText)))
    (rt_BadText : PySem.W.typeIn K (.ref fX_BadText) = some (.type "function"))
    (rn_BadText : K.lookup fX_BadText = some ⟨vX_BadText, eX_BadText, .func (PySem.W.fnOf "__init__" "BadText.__init__" (defArgs s_BadText_init) (defBody s_BadText_init) (defScope s_BadText_init) .none kX_BadText iX_BadText jX_BadText yX_BadText tX_BadText wX_BadText), lX_BadText⟩)
    (rc_BadText : PySem.W.codeIn K tX_BadText "BadText.__init__" = true)
    (rw_BadText : PySem.W.keepIn K (.ref fX_BadText) = true)
    (rk_BadText : PySem.W.keepIn K (.ref CX_BadText) = true)
    (rb_BadText : PySem.W.subIn K (.ref CX_BadText) (.type "BaseException") = some true)
    (ry_BadText : PySem.W.typeIn K (.ref CX_BadText) = some (.type "type"))
    (rh_BadText : PySem.W.hasDictIn K CX_BadText = true)
    (rx_BadText : PySem.W.isClsIn K CX_BadText = true)
    (rz_BadText : PySem.W.subIn K (.ref CX_BadText) (.ref CX_BadText) = some true)
    (eg_BadChild : PySem.W.findIn K (.ref CX_BadChild) "__getattribute__" = some (some (.builtin "BaseException.__getattribute__")))
    (ea_BadChild : PySem.W.findIn K (.ref CX_BadChild) "__getattr__" = some none)
    (ec_BadChild : PySem.W.findIn K (.ref CX_BadChild) "__class__" = some (some (.builtin "object.__class__")))
    (en_BadChild : PySem.W.specialIn K (.builtin "object.__class__") "__get__" = some (some (.builtin "getset_descriptor.__get__")))
    (et_BadChild : PySem.W.takesIn K (.builtin "object.__class__") = some true)
    (em_BadChild : PySem.W.mroIn K CX_BadChild (.type "object") = some true)
    (eg_BadChildren : PySem.W.findIn K (.ref CX_BadChildren) "__getattribute__" = some (some (.builtin "BaseException.__getattribute__")))
    (ea_BadChildren : PySem.W.findIn K (.ref CX_BadChildren) "__getattr__" = some none)
    (ec_BadChildren : PySem.W.findIn K (.ref CX_BadChildren) "__class__" = some (some (.builtin "object.__class__")))
    (en_BadChildren : PySem.W.specialIn K (.builtin "object.__class__") "__get__" = some (some (.builtin "getset_descriptor.__get__")))
    (et_BadChildren : PySem.W.takesIn K (.builtin "object.__class__") = some true)
    (em_BadChildren : PySem.W.mroIn K CX_BadChildren (.type "object") = some true)
    (eg_BadGift : PySem.W.findIn K (.ref CX_BadGift) "__getattribute__" = some (some (.builtin "BaseException.__getattribute__")))
    (ea_BadGift : PySem.W.findIn K (.ref CX_BadGift) "__getattr__" = some none)
    (ec_BadGift : PySem.W.findIn K (.ref CX_BadGift) "__class__" = some (some (.builtin "object.__class__")))
    (en_BadGift : PySem.W.specialIn K (.builtin "object.__class__") "__get__" = some (some (.builtin "getset_descriptor.__get__")))
    (et_BadGift : PySem.W.takesIn K (.builtin "object.__class__") = some true)
    (em_BadGift : PySem.W.mroIn K CX_BadGift (.type "object") = some true)
    (eg_BadMost : PySem.W.findIn K (.ref CX_BadMost) "__getattribute__" = some (some (.builtin "BaseException.__getattribute__")))
    (ea_BadMost : PySem.W.findIn K (.ref CX_BadMost) "__getattr__" = some none)
    (ec_BadMost : PySem.W.findIn K (.ref CX_BadMost) "__class__" = some (some (.builtin "object.__class__")))
    (en_BadMost : PySem.W.specialIn K (.builtin "object.__class__") "__get__" = some (some (.builtin "getset_descriptor.__get__")))
    (et_BadMost : PySem.W.takesIn K (.builtin "object.__class__") = some true)
    (em_BadMost : PySem.W.mroIn K CX_BadMost (.type "object") = some true)
    (eg_BadParts : PySem.W.findIn K (.ref CX_BadParts) "__getattribute__" = some (some (.builtin "BaseException.__getattribute__")))
    (ea_BadParts : PySem.W.findIn K (.ref CX_BadParts) "__getattr__" = some none)
    (ec_BadParts : PySem.W.findIn K (.ref CX_BadParts) "__class__" = some (some (.builtin "object.__class__")))
    (en_BadParts : PySem.W.specialIn K (.builtin "object.__class__") "__get__" = some (some (.builtin "getset_descriptor.__get__")))
    (et_BadParts : PySem.W.takesIn K (.builtin "object.__class__") = some true)
    (em_BadParts : PySem.W.mroIn K CX_BadParts (.type "object") = some true)
    (eg_BadRounds : PySem.W.findIn K (.ref CX_BadRounds) "__getattribute__" = some (some (.builtin "BaseException.__getattribute__")))
    (ea_BadRounds : PySem.W.findIn K (.ref CX_BadRounds) "__getattr__" = some none)
    (ec_BadRounds : PySem.W.findIn K (.ref CX_BadRounds) "__class__" = some (some (.builtin "object.__class__")))
    (en_BadRounds : PySem.W.specialIn K (.builtin "object.__class__") "__get__" = some (some (.builtin "getset_descriptor.__get__")))
    (et_BadRounds : PySem.W.takesIn K (.builtin "object.__class__") = some true)
    (em_BadRounds : PySem.W.mroIn K CX_BadRounds (.type "object") = some true)
    (eg_BadRows : PySem.W.findIn K (.ref CX_BadRows) "__getattribute__" = some (some (.builtin "BaseException.__getattribute__")))
    (ea_BadRows : PySem.W.findIn K (.ref CX_BadRows) "__getattr__" = some none)
    (ec_BadRows : PySem.W.findIn K (.ref CX_BadRows) "__class__" = some (some (.builtin "object.__class__")))
    (en_BadRows : PySem.W.specialIn K (.builtin "object.__class__") "__get__" = some (some (.builtin "getset_descriptor.__get__")))
    (et_BadRows : PySem.W.takesIn K (.builtin "object.__class__") = some true)
    (em_BadRows : PySem.W.mroIn K CX_BadRows (.type "object") = some true)
    (eg_BadSeen : PySem.W.findIn K (.ref CX_BadSeen) "__getattribute__" = some (some (.builtin "BaseException.__getattribute__")))
    (ea_BadSeen : PySem.W.findIn K (.ref CX_BadSeen) "__getattr__" = some none)
    (ec_BadSeen : PySem.W.findIn K (.ref CX_BadSeen) "__class__" = some (some (.builtin "object.__class__")))
    (en_BadSeen : PySem.W.specialIn K (.builtin "object.__class__") "__get__" = some (some (.builtin "getset_descriptor.__get__")))
    (et_BadSeen : PySem.W.takesIn K (.builtin "object.__class__") = some true)
    (em_BadSeen : PySem.W.mroIn K CX_BadSeen (.type "object") = some true)
    (eg_BadSteps : PySem.W.findIn K (.ref CX_BadSteps) "__getattribute__" = some (some (.builtin "BaseException.__getattribute__")))
    (ea_BadSteps : PySem.W.findIn K (.ref CX_BadSteps) "__getattr__" = some none)
    (ec_BadSteps : PySem.W.findIn K (.ref CX_BadSteps) "__class__" = some (some (.builtin "object.__class__")))
    (en_BadSteps : PySem.W.specialIn K (.builtin "object.__class__") "__get__" = some (some (.builtin "getset_descriptor.__get__")))
    (et_BadSteps : PySem.W.takesIn K (.builtin "object.__class__") = some true)
    (em_BadSteps : PySem.W.mroIn K CX_BadSteps (.type "object") = some true)
    (eg_BadSweets : PySem.W.findIn K (.ref CX_BadSweets) "__getattribute__" = some (some (.builtin "BaseException.__getattribute__")))
    (ea_BadSweets : PySem.W.findIn K (.ref CX_BadSweets) "__getattr__" = some none)
    (ec_BadSweets : PySem.W.findIn K (.ref CX_BadSweets) "__class__" = some (some (.builtin "object.__class__")))
    (en_BadSweets : PySem.W.specialIn K (.builtin "object.__class__") "__get__" = some (some (.builtin "getset_descriptor.__get__")))
    (et_BadSweets : PySem.W.takesIn K (.builtin "object.__class__") = some true)
    (em_BadSweets : PySem.W.mroIn K CX_BadSweets (.type "object") = some true)
    (eg_BadText : PySem.W.findIn K (.ref CX_BadText) "__getattribute__" = some (some (.builtin "BaseException.__getattribute__")))
    (ea_BadText : PySem.W.findIn K (.ref CX_BadText) "__getattr__" = some none)
    (ec_BadText : PySem.W.findIn K (.ref CX_BadText) "__class__" = some (some (.builtin "object.__class__")))
    (en_BadText : PySem.W.specialIn K (.builtin "object.__class__") "__get__" = some (some (.builtin "getset_descriptor.__get__")))
    (et_BadText : PySem.W.takesIn K (.builtin "object.__class__") = some true)
    (em_BadText : PySem.W.mroIn K CX_BadText (.type "object") = some true)
    (eg_TooMany : PySem.W.findIn K (.ref CX_TooMany) "__getattribute__" = some (some (.builtin "BaseException.__getattribute__")))
    (ea_TooMany : PySem.W.findIn K (.ref CX_TooMany) "__getattr__" = some none)
    (ec_TooMany : PySem.W.findIn K (.ref CX_TooMany) "__class__" = some (some (.builtin "object.__class__")))
    (en_TooMany : PySem.W.specialIn K (.builtin "object.__class__") "__get__" = some (some (.builtin "getset_descriptor.__get__")))
    (et_TooMany : PySem.W.takesIn K (.builtin "object.__class__") = some true)
    (em_TooMany : PySem.W.mroIn K CX_TooMany (.type "object") = some true)
    (kk_BadChild_BadChild : PySem.W.kitOne K (.ref CX_BadChild) (.ref CX_BadChild) = some true)
    (kk_BadChild_BadChildren : PySem.W.kitOne K (.ref CX_BadChild) (.ref CX_BadChildren) = some false)
    (kk_BadChild_BadGift : PySem.W.kitOne K (.ref CX_BadChild) (.ref CX_BadGift) = some false)
    (kk_BadChild_BadMost : PySem.W.kitOne K (.ref CX_BadChild) (.ref CX_BadMost) = some false)
    (kk_BadChild_BadParts : PySem.W.kitOne K (.ref CX_BadChild) (.ref CX_BadParts) = some false)
    (kk_BadChild_BadRounds : PySem.W.kitOne K (.ref CX_BadChild) (.ref CX_BadRounds) = some false)
    (kk_BadChild_BadRows : PySem.W.kitOne K (.ref CX_BadChild) (.ref CX_BadRows) = some false)
    (kk_BadChild_BadSeen : PySem.W.kitOne K (.ref CX_BadChild) (.ref CX_BadSeen) = some false)
    (kk_BadChild_BadSteps : PySem.W.kitOne K (.ref CX_BadChild) (.ref CX_BadSteps) = some false)
    (kk_BadChild_BadSweets : PySem.W.kitOne K (.ref CX_BadChild) (.ref CX_BadSweets) = some false)
    (kk_BadChild_BadText : PySem.W.kitOne K (.ref CX_BadChild) (.ref CX_BadText) = some false)
    (kk_BadChild_TooMany : PySem.W.kitOne K (.ref CX_BadChild) (.ref CX_TooMany) = some false)
    (kk_BadChild_SweetError : PySem.W.kitOne K (.ref CX_BadChild) (.ref CX_SweetError) = some true)
    (kv_BadChild : PySem.W.kitOne K (.ref CX_BadChild) (.type "ValueError") = some true)
    (kk_BadChildren_BadChild : PySem.W.kitOne K (.ref CX_BadChildren) (.ref CX_BadChild) = some false)
    (kk_BadChildren_BadChildren : PySem.W.kitOne K (.ref CX_BadChildren) (.ref CX_BadChildren) = some true)
    (kk_BadChildren_BadGift : PySem.W.kitOne K (.ref CX_BadChildren) (.ref CX_BadGift) = some false)
    (kk_BadChildren_BadMost : PySem.W.kitOne K (.ref CX_BadChildren) (.ref CX_BadMost) = some false)
    (kk_BadChildren_BadParts : PySem.W.kitOne K (.ref CX_BadChildren) (.ref CX_BadParts) = some false)
    (kk_BadChildren_BadRounds : PySem.W.kitOne K (.ref CX_BadChildren) (.ref CX_BadRounds) = some false)
    (kk_BadChildren_BadRows : PySem.W.kitOne K (.ref CX_BadChildren) (.ref CX_BadRows) = some false)
    (kk_BadChildren_BadSeen : PySem.W.kitOne K (.ref CX_BadChildren) (.ref CX_BadSeen) = some false)
    (kk_BadChildren_BadSteps : PySem.W.kitOne K (.ref CX_BadChildren) (.ref CX_BadSteps) = some false)
    (kk_BadChildren_BadSweets : PySem.W.kitOne K (.ref CX_BadChildren) (.ref CX_BadSweets) = some false)
    (kk_BadChildren_BadText : PySem.W.kitOne K (.ref CX_BadChildren) (.ref CX_BadText) = some false)
    (kk_BadChildren_TooMany : PySem.W.kitOne K (.ref CX_BadChildren) (.ref CX_TooMany) = some false)
    (kk_BadChildren_SweetError : PySem.W.kitOne K (.ref CX_BadChildren) (.ref CX_SweetError) = some true)
    (kv_BadChildren : PySem.W.kitOne K (.ref CX_BadChildren) (.type "ValueError") = some true)
    (kk_BadGift_BadChild : PySem.W.kitOne K (.ref CX_BadGift) (.ref CX_BadChild) = some false)
    (kk_BadGift_BadChildren : PySem.W.kitOne K (.ref CX_BadGift) (.ref CX_BadChildren) = some false)
    (kk_BadGift_BadGift : PySem.W.kitOne K (.ref CX_BadGift) (.ref CX_BadGift) = some true)
    (kk_BadGift_BadMost : PySem.W.kitOne K (.ref CX_BadGift) (.ref CX_BadMost) = some false)
    (kk_BadGift_BadParts : PySem.W.kitOne K (.ref CX_BadGift) (.ref CX_BadParts) = some false)
    (kk_BadGift_BadRounds : PySem.W.kitOne K (.ref CX_BadGift) (.ref CX_BadRounds) = some false)
    (kk_BadGift_BadRows : PySem.W.kitOne K (.ref CX_BadGift) (.ref CX_BadRows) = some false)
    (kk_BadGift_BadSeen : PySem.W.kitOne K (.ref CX_BadGift) (.ref CX_BadSeen) = some false)
    (kk_BadGift_BadSteps : PySem.W.kitOne K (.ref CX_BadGift) (.ref CX_BadSteps) = some false)
    (kk_BadGift_BadSweets : PySem.W.kitOne K (.ref CX_BadGift) (.ref CX_BadSweets) = some false)
    (kk_BadGift_BadText : PySem.W.kitOne K (.ref CX_BadGift) (.ref CX_BadText) = some false)
    (kk_BadGift_TooMany : PySem.W.kitOne K (.ref CX_BadGift) (.ref CX_TooMany) = some false)
    (kk_BadGift_SweetError : PySem.W.kitOne K (.ref CX_BadGift) (.ref CX_SweetError) = some true)
    (kv_BadGift : PySem.W.kitOne K (.ref CX_BadGift) (.type "ValueError") = some true)
    (kk_BadMost_BadChild : PySem.W.kitOne K (.ref CX_BadMost) (.ref CX_BadChild) = some false)
    (kk_BadMost_BadChildren : PySem.W.kitOne K (.ref CX_BadMost) (.ref CX_BadChildren) = some false)
    (kk_BadMost_BadGift : PySem.W.kitOne K (.ref CX_BadMost) (.ref CX_BadGift) = some false)
    (kk_BadMost_BadMost : PySem.W.kitOne K (.ref CX_BadMost) (.ref CX_BadMost) = some true)
    (kk_BadMost_BadParts : PySem.W.kitOne K (.ref CX_BadMost) (.ref CX_BadParts) = some false)
    (kk_BadMost_BadRounds : PySem.W.kitOne K (.ref CX_BadMost) (.ref CX_BadRounds) = some false)
    (kk_BadMost_BadRows : PySem.W.kitOne K (.ref CX_BadMost) (.ref CX_BadRows) = some false)
    (kk_BadMost_BadSeen : PySem.W.kitOne K (.ref CX_BadMost) (.ref CX_BadSeen) = some false)
    (kk_BadMost_BadSteps : PySem.W.kitOne K (.ref CX_BadMost) (.ref CX_BadSteps) = some false)
    (kk_BadMost_BadSweets : PySem.W.kitOne K (.ref CX_BadMost) (.ref CX_BadSweets) = some false)
    (kk_BadMost_BadText : PySem.W.kitOne K (.ref CX_BadMost) (.ref CX_BadText) = some false)
    (kk_BadMost_TooMany : PySem.W.kitOne K (.ref CX_BadMost) (.ref CX_TooMany) = some false)
    (kk_BadMost_SweetError : PySem.W.kitOne K (.ref CX_BadMost) (.ref CX_SweetError) = some true)
    (kv_BadMost : PySem.W.kitOne K (.ref CX_BadMost) (.type "ValueError") = some true)
    (kk_BadParts_BadChild : PySem.W.kitOne K (.ref CX_BadParts) (.ref CX_BadChild) = some false)
    (kk_BadParts_BadChildren : PySem.W.kitOne K (.ref CX_BadParts) (.ref CX_BadChildren) = some false)
    (kk_BadParts_BadGift : PySem.W.kitOne K (.ref CX_BadParts) (.ref CX_BadGift) = some false)
    (kk_BadParts_BadMost : PySem.W.kitOne K (.ref CX_BadParts) (.ref CX_BadMost) = some false)
    (kk_BadParts_BadParts : PySem.W.kitOne K (.ref CX_BadParts) (.ref CX_BadParts) = some true)
    (kk_BadParts_BadRounds : PySem.W.kitOne K (.ref CX_BadParts) (.ref CX_BadRounds) = some false)
    (kk_BadParts_BadRows : PySem.W.kitOne K (.ref CX_BadParts) (.ref CX_BadRows) = some false)
    (kk_BadParts_BadSeen : PySem.W.kitOne K (.ref CX_BadParts) (.ref CX_BadSeen) = some false)
    (kk_BadParts_BadSteps : PySem.W.kitOne K (.ref CX_BadParts) (.ref CX_BadSteps) = some false)
    (kk_BadParts_BadSweets : PySem.W.kitOne K (.ref CX_BadParts) (.ref CX_BadSweets) = some false)
    (kk_BadParts_BadText : PySem.W.kitOne K (.ref CX_BadParts) (.ref CX_BadText) = some false)
    (kk_BadParts_TooMany : PySem.W.kitOne K (.ref CX_BadParts) (.ref CX_TooMany) = some false)
    (kk_BadParts_SweetError : PySem.W.kitOne K (.ref CX_BadParts) (.ref CX_SweetError) = some true)
    (kv_BadParts : PySem.W.kitOne K (.ref CX_BadParts) (.type "ValueError") = some true)
    (kk_BadRounds_BadChild : PySem.W.kitOne K (.ref CX_BadRounds) (.ref CX_BadChild) = some false)
    (kk_BadRounds_BadChildren : PySem.W.kitOne K (.ref CX_BadRounds) (.ref CX_BadChildren) = some false)
    (kk_BadRounds_BadGift : PySem.W.kitOne K (.ref CX_BadRounds) (.ref CX_BadGift) = some false)
    (kk_BadRounds_BadMost : PySem.W.kitOne K (.ref CX_BadRounds) (.ref CX_BadMost) = some false)
    (kk_BadRounds_BadParts : PySem.W.kitOne K (.ref CX_BadRounds) (.ref CX_BadParts) = some false)
    (kk_BadRounds_BadRounds : PySem.W.kitOne K (.ref CX_BadRounds) (.ref CX_BadRounds) = some true)
    (kk_BadRounds_BadRows : PySem.W.kitOne K (.ref CX_BadRounds) (.ref CX_BadRows) = some false)
    (kk_BadRounds_BadSeen : PySem.W.kitOne K (.ref CX_BadRounds) (.ref CX_BadSeen) = some false)
    (kk_BadRounds_BadSteps : PySem.W.kitOne K (.ref CX_BadRounds) (.ref CX_BadSteps) = some false)
    (kk_BadRounds_BadSweets : PySem.W.kitOne K (.ref CX_BadRounds) (.ref CX_BadSweets) = some false)
    (kk_BadRounds_BadText : PySem.W.kitOne K (.ref CX_BadRounds) (.ref CX_BadText) = some false)
    (kk_BadRounds_TooMany : PySem.W.kitOne K (.ref CX_BadRounds) (.ref CX_TooMany) = some false)
    (kk_BadRounds_SweetError : PySem.W.kitOne K (.ref CX_BadRounds) (.ref CX_SweetError) = some true)
    (kv_BadRounds : PySem.W.kitOne K (.ref CX_BadRounds) (.type "ValueError") = some true)
    (kk_BadRows_BadChild : PySem.W.kitOne K (.ref CX_BadRows) (.ref CX_BadChild) = some false)
    (kk_BadRows_BadChildren : PySem.W.kitOne K (.ref CX_BadRows) (.ref CX_BadChildren) = some false)
    (kk_BadRows_BadGift : PySem.W.kitOne K (.ref CX_BadRows) (.ref CX_BadGift) = some false)
    (kk_BadRows_BadMost : PySem.W.kitOne K (.ref CX_BadRows) (.ref CX_BadMost) = some false)
    (kk_BadRows_BadParts : PySem.W.kitOne K (.ref CX_BadRows) (.ref CX_BadParts) = some false)
    (kk_BadRows_BadRounds : PySem.W.kitOne K (.ref CX_BadRows) (.ref CX_BadRounds) = some false)
    (kk_BadRows_BadRows : PySem.W.kitOne K (.ref CX_BadRows) (.ref CX_BadRows) = some true)
    (kk_BadRows_BadSeen : PySem.W.kitOne K (.ref CX_BadRows) (.ref CX_BadSeen) = some false)
    (kk_BadRows_BadSteps : PySem.W.kitOne K (.ref CX_BadRows) (.ref CX_BadSteps) = some false)
    (kk_BadRows_BadSweets : PySem.W.kitOne K (.ref CX_BadRows) (.ref CX_BadSweets) = some false)
    (kk_BadRows_BadText : PySem.W.kitOne K (.ref CX_BadRows) (.ref CX_BadText) = some false)
    (kk_BadRows_TooMany : PySem.W.kitOne K (.ref CX_BadRows) (.ref CX_TooMany) = some false)
    (kk_BadRows_SweetError : PySem.W.kitOne K (.ref CX_BadRows) (.ref CX_SweetError) = some true)
    (kv_BadRows : PySem.W.kitOne K (.ref CX_BadRows) (.type "ValueError") = some true)
    (kk_BadSeen_BadChild : PySem.W.kitOne K (.ref CX_BadSeen) (.ref CX_BadChild) = some false)
    (kk_BadSeen_BadChildren : PySem.W.kitOne K (.ref CX_BadSeen) (.ref CX_BadChildren) = some false)
    (kk_BadSeen_BadGift : PySem.W.kitOne K (.ref CX_BadSeen) (.ref CX_BadGift) = some false)
    (kk_BadSeen_BadMost : PySem.W.kitOne K (.ref CX_BadSeen) (.ref CX_BadMost) = some false)
    (kk_BadSeen_BadParts : PySem.W.kitOne K (.ref CX_BadSeen) (.ref CX_BadParts) = some false)
    (kk_BadSeen_BadRounds : PySem.W.kitOne K (.ref CX_BadSeen) (.ref CX_BadRounds) = some false)
    (kk_BadSeen_BadRows : PySem.W.kitOne K (.ref CX_BadSeen) (.ref CX_BadRows) = some false)
    (kk_BadSeen_BadSeen : PySem.W.kitOne K (.ref CX_BadSeen) (.ref CX_BadSeen) = some true)
    (kk_BadSeen_BadSteps : PySem.W.kitOne K (.ref CX_BadSeen) (.ref CX_BadSteps) = some false)
    (kk_BadSeen_BadSweets : PySem.W.kitOne K (.ref CX_BadSeen) (.ref CX_BadSweets) = some false)
    (kk_BadSeen_BadText : PySem.W.kitOne K (.ref CX_BadSeen) (.ref CX_BadText) = some false)
    (kk_BadSeen_TooMany : PySem.W.kitOne K (.ref CX_BadSeen) (.ref CX_TooMany) = some false)
    (kk_BadSeen_SweetError : PySem.W.kitOne K (.ref CX_BadSeen) (.ref CX_SweetError) = some true)
    (kv_BadSeen : PySem.W.kitOne K (.ref CX_BadSeen) (.type "ValueError") = some true)
    (kk_BadSteps_BadChild : PySem.W.kitOne K (.ref CX_BadSteps) (.ref CX_BadChild) = some false)
    (kk_BadSteps_BadChildren : PySem.W.kitOne K (.ref CX_BadSteps) (.ref CX_BadChildren) = some false)
    (kk_BadSteps_BadGift : PySem.W.kitOne K (.ref CX_BadSteps) (.ref CX_BadGift) = some false)
    (kk_BadSteps_BadMost : PySem.W.kitOne K (.ref CX_BadSteps) (.ref CX_BadMost) = some false)
    (kk_BadSteps_BadParts : PySem.W.kitOne K (.ref CX_BadSteps) (.ref CX_BadParts) = some false)
    (kk_BadSteps_BadRounds : PySem.W.kitOne K (.ref CX_BadSteps) (.ref CX_BadRounds) = some false)
    (kk_BadSteps_BadRows : PySem.W.kitOne K (.ref CX_BadSteps) (.ref CX_BadRows) = some false)
    (kk_BadSteps_BadSeen : PySem.W.kitOne K (.ref CX_BadSteps) (.ref CX_BadSeen) = some false)
    (kk_BadSteps_BadSteps : PySem.W.kitOne K (.ref CX_BadSteps) (.ref CX_BadSteps) = some true)
    (kk_BadSteps_BadSweets : PySem.W.kitOne K (.ref CX_BadSteps) (.ref CX_BadSweets) = some false)
    (kk_BadSteps_BadText : PySem.W.kitOne K (.ref CX_BadSteps) (.ref CX_BadText) = some false)
    (kk_BadSteps_TooMany : PySem.W.kitOne K (.ref CX_BadSteps) (.ref CX_TooMany) = some false)
    (kk_BadSteps_SweetError : PySem.W.kitOne K (.ref CX_BadSteps) (.ref CX_SweetError) = some true)
    (kv_BadSteps : PySem.W.kitOne K (.ref CX_BadSteps) (.type "ValueError") = some true)
    (kk_BadSweets_BadChild : PySem.W.kitOne K (.ref CX_BadSweets) (.ref CX_BadChild) = some false)
    (kk_BadSweets_BadChildren : PySem.W.kitOne K (.ref CX_BadSweets) (.ref CX_BadChildren) = some false)
    (kk_BadSweets_BadGift : PySem.W.kitOne K (.ref CX_BadSweets) (.ref CX_BadGift) = some false)
    (kk_BadSweets_BadMost : PySem.W.kitOne K (.ref CX_BadSweets) (.ref CX_BadMost) = some false)
    (kk_BadSweets_BadParts : PySem.W.kitOne K (.ref CX_BadSweets) (.ref CX_BadParts) = some false)
    (kk_BadSweets_BadRounds : PySem.W.kitOne K (.ref CX_BadSweets) (.ref CX_BadRounds) = some false)
    (kk_BadSweets_BadRows : PySem.W.kitOne K (.ref CX_BadSweets) (.ref CX_BadRows) = some false)
    (kk_BadSweets_BadSeen : PySem.W.kitOne K (.ref CX_BadSweets) (.ref CX_BadSeen) = some false)
    (kk_BadSweets_BadSteps : PySem.W.kitOne K (.ref CX_BadSweets) (.ref CX_BadSteps) = some false)
    (kk_BadSweets_BadSweets : PySem.W.kitOne K (.ref CX_BadSweets) (.ref CX_BadSweets) = some true)
    (kk_BadSweets_BadText : PySem.W.kitOne K (.ref CX_BadSweets) (.ref CX_BadText) = some false)
    (kk_BadSweets_TooMany : PySem.W.kitOne K (.ref CX_BadSweets) (.ref CX_TooMany) = some false)
    (kk_BadSweets_SweetError : PySem.W.kitOne K (.ref CX_BadSweets) (.ref CX_SweetError) = some true)
    (kv_BadSweets : PySem.W.kitOne K (.ref CX_BadSweets) (.type "ValueError") = some true)
    (kk_BadText_BadChild : PySem.W.kitOne K (.ref CX_BadText) (.ref CX_BadChild) = some false)
    (kk_BadText_BadChildren : PySem.W.kitOne K (.ref CX_BadText) (.ref CX_BadChildren) = some false)
    (kk_BadText_BadGift : PySem.W.kitOne K (.ref CX_BadText) (.ref CX_BadGift) = some false)
    (kk_BadText_BadMost : PySem.W.kitOne K (.ref CX_BadText) (.ref CX_BadMost) = some false)
    (kk_BadText_BadParts : PySem.W.kitOne K (.ref CX_BadText) (.ref CX_BadParts) = some false)
    (kk_BadText_BadRounds : PySem.W.kitOne K (.ref CX_BadText) (.ref CX_BadRounds) = some false)
    (kk_BadText_BadRows : PySem.W.kitOne K (.ref CX_BadText) (.ref CX_BadRows) = some false)
    (kk_BadText_BadSeen : PySem.W.kitOne K (.ref CX_BadText) (.ref CX_BadSeen) = some false)
    (kk_BadText_BadSteps : PySem.W.kitOne K (.ref CX_BadText) (.ref CX_BadSteps) = some false)
    (kk_BadText_BadSweets : PySem.W.kitOne K (.ref CX_BadText) (.ref CX_BadSweets) = some false)
    (kk_BadText_BadText : PySem.W.kitOne K (.ref CX_BadText) (.ref CX_BadText) = some true)
    (kk_BadText_TooMany : PySem.W.kitOne K (.ref CX_BadText) (.ref CX_TooMany) = some false)
    (kk_BadText_SweetError : PySem.W.kitOne K (.ref CX_BadText) (.ref CX_SweetError) = some true)
    (kv_BadText : PySem.W.kitOne K (.ref CX_BadText) (.type "ValueError") = some true)
    (kk_TooMany_BadChild : PySem.W.kitOne K (.ref CX_TooMany) (.ref CX_BadChild) = some false)
    (kk_TooMany_BadChildren : PySem.W.kitOne K (.ref CX_TooMany) (.ref CX_BadChildren) = some false)
    (kk_TooMany_BadGift : PySem.W.kitOne K (.ref CX_TooMany) (.ref CX_BadGift) = some false)
    (kk_TooMany_BadMost : PySem.W.kitOne K (.ref CX_TooMany) (.ref CX_BadMost) = some false)
    (kk_TooMany_BadParts : PySem.W.kitOne K (.ref CX_TooMany) (.ref CX_BadParts) = some false)
    (kk_TooMany_BadRounds : PySem.W.kitOne K (.ref CX_TooMany) (.ref CX_BadRounds) = some false)
    (kk_TooMany_BadRows : PySem.W.kitOne K (.ref CX_TooMany) (.ref CX_BadRows) = some false)
    (kk_TooMany_BadSeen : PySem.W.kitOne K (.ref CX_TooMany) (.ref CX_BadSeen) = some false)
    (kk_TooMany_BadSteps : PySem.W.kitOne K (.ref CX_TooMany) (.ref CX_BadSteps) = some false)
    (kk_TooMany_BadSweets : PySem.W.kitOne K (.ref CX_TooMany) (.ref CX_BadSweets) = some false)
    (kk_TooMany_BadText : PySem.W.kitOne K (.ref CX_TooMany) (.ref CX_BadText) = some false)
    (kk_TooMany_TooMany : PySem.W.kitOne K (.ref CX_TooMany) (.ref CX_TooMany) = some true)
    (kk_TooMany_SweetError : PySem.W.kitOne K (.ref CX_TooMany) (.ref CX_SweetError) = some true)
    (kv_TooMany : PySem.W.kitOne K (.ref CX_TooMany) (.type "ValueError") = some true)
    (a4 : PySem.W.nsIn K mainGlobals "_law_classes" = some (some (.ref f4)))
    (l4 : K.lookup f4 = some ⟨oc4, od4, .func (PySem.W.fnOf "_law_classes" "_law_classes" (defArgs s_law_classes) (defBody s_law_classes) (defScope s_law_classes) .none kV4 dc4 pm4 an4 cd4 ct4), sl4⟩)
    (c4 : PySem.W.codeIn K cd4 "_law_classes" = true)
    (k4 : PySem.W.keepIn K (.ref f4) = true)
    (a5 : PySem.W.nsIn K mainGlobals "_law_one" = some (some (.ref f5)))
    (l5 : K.lookup f5 = some ⟨oc5, od5, .func (PySem.W.fnOf "_law_one" "_law_one" (defArgs s_law_one) (defBody s_law_one) (defScope s_law_one) .none kV5 dc5 pm5 an5 cd5 ct5), sl5⟩)
    (c5 : PySem.W.codeIn K cd5 "_law_one" = true)
    (k5 : PySem.W.keepIn K (.ref f5) = true)
    (a6 : PySem.W.nsIn K mainGlobals "law" = some (some (.ref f6)))
    (l6 : K.lookup f6 = some ⟨oc6, od6, .func (PySem.W.fnOf "law" "law" (defArgs s_law) (defBody s_law) (defScope s_law) .none kV6 dc6 pm6 an6 cd6 ct6), sl6⟩)
    (c6 : PySem.W.codeIn K cd6 "law" = true)
    (k6 : PySem.W.keepIn K (.ref f6) = true)
    (z_ValueError : PySem.W.nsIn K mainGlobals "ValueError" = some none)
    (z_abs : PySem.W.nsIn K mainGlobals "abs" = some none)
    (z_bool : PySem.W.nsIn K mainGlobals "bool" = some none)
    (z_dict : PySem.W.nsIn K mainGlobals "dict" = some none)
    (z_int : PySem.W.nsIn K mainGlobals "int" = some none)
    (z_isinstance : PySem.W.nsIn K mainGlobals "isinstance" = some none)
    (z_len : PySem.W.nsIn K mainGlobals "len" = some none)
    (z_list : PySem.W.nsIn K mainGlobals "list" = some none)
    (z_range : PySem.W.nsIn K mainGlobals "range" = some none)
    (z_str : PySem.W.nsIn K mainGlobals "str" = some none)
    (z_tuple : PySem.W.nsIn K mainGlobals "tuple" = some none)
    : ∃ fd : FuncData, (∀ (s : Shared) (v : Value), BindsTo s fd ⟨[v], []⟩ [("_law_script", v)]) ∧ ∀ base : Heap, K.In base → base.Ns mainGlobals mg → FnOk l.prog w K mg base CX0 4 fa fd ["_law_script"] (spLaw K) := by
  have e := hfa.symm.trans (PySem.W.mg_of X G a6)
  cases e
  have T : Txt K mg := ⟨PySem.W.mg_none_of X G z_ValueError, PySem.W.mg_none_of X G z_abs, PySem.W.mg_none_of X G z_bool, PySem.W.mg_none_of X G z_dict, PySem.W.mg_none_of X G z_int, PySem.W.mg_none_of X G z_isinstance, PySem.W.mg_none_of X G z_len, PySem.W.mg_none_of X G z_list, PySem.W.mg_none_of X G z_range, PySem.W.mg_none_of X G z_str, PySem.W.mg_none_of X G z_tuple⟩
  have F1 := fun_mk (st := s_law_below) l1 c1 k1
  have b1 := F1.binds (ps := ["_law_d", "_law_size"]) fun _ _ _ _ _ _ us hl => match us, hl with | [_, _], _ => rfl
  have F2 := fun_mk (st := s_law_pick) l2 c2 k2
  have b2 := F2.binds (ps := ["_law_d", "_law_items"]) fun _ _ _ _ _ _ us hl => match us, hl with | [_, _], _ => rfl
  have F3 := fun_mk (st := s_law_random) l3 c3 k3
  have b3 := F3.binds (ps := ["_law_script", "_law_salt"]) fun _ _ _ _ _ _ us hl => match us, hl with | [_, _], _ => rfl
  have EX_SweetError : ExC K mg "SweetError" CX_SweetError := ⟨qx_SweetError, PySem.W.mg_of X G qu_SweetError, qk_SweetError, qb_SweetError, qt_SweetError, exm_self qb_SweetError qi_SweetError qt_SweetError qs_SweetError⟩
  have EX_BadChild : ExC K mg "BadChild" CX_BadChild := ⟨qx_BadChild, PySem.W.mg_of X G qu_BadChild, qk_BadChild, qb_BadChild, qt_BadChild, exm_self qb_BadChild qi_BadChild qt_BadChild qs_BadChild⟩
  have EX_BadChildren : ExC K mg "BadChildren" CX_BadChildren := ⟨qx_BadChildren, PySem.W.mg_of X G qu_BadChildren, qk_BadChildren, qb_BadChildren, qt_BadChildren, exm_self qb_BadChildren qi_BadChildren qt_BadChildren qs_BadChildren⟩
  have EX_BadGift : ExC K mg "BadGift" CX_BadGift := ⟨qx_BadGift, PySem.W.mg_of X G qu_BadGift, qk_BadGift, qb_BadGift, qt_BadGift, exm_self qb_BadGift qi_BadGift qt_BadGift qs_BadGift⟩
  have EX_BadMost : ExC K mg "BadMost" CX_BadMost := ⟨qx_BadMost, PySem.W.mg_of X G qu_BadMost, qk_BadMost, qb_BadMost, qt_BadMost, exm_self qb_BadMost qi_BadMost qt_BadMost qs_BadMost⟩
  have EX_BadParts : ExC K mg "BadParts" CX_BadParts := ⟨qx_BadParts, PySem.W.mg_of X G qu_BadParts, qk_BadParts, qb_BadParts, qt_BadParts, exm_self qb_BadParts qi_BadParts qt_BadParts qs_BadParts⟩
  have EX_BadRounds : ExC K mg "BadRounds" CX_BadRounds := ⟨qx_BadRounds, PySem.W.mg_of X G qu_BadRounds, qk_BadRounds, qb_BadRounds, qt_BadRounds, exm_self qb_BadRounds qi_BadRounds qt_BadRounds qs_BadRounds⟩
  have EX_TooMany : ExC K mg "TooMany" CX_TooMany := ⟨qx_TooMany, PySem.W.mg_of X G qu_TooMany, qk_TooMany, qb_TooMany, qt_TooMany, exm_self qb_TooMany qi_TooMany qt_TooMany qs_TooMany⟩
  have FX_BadRows := fun_mk (st := s_BadRows_init) rn_BadRows rc_BadRows rw_BadRows
  have BX_BadRows := FX_BadRows.binds (ps := ["self", "index"]) fun _ _ _ _ _ _ us hl => match us, hl with | [_, _], _ => rfl
  have OX_BadRows : OexC K CX_BadRows := ⟨⟨_, _, _, _, _, _, _, _, _, _, _, _, _, _, _, rl_BadRows, rfl⟩, rs_BadRows, rb_BadRows, ry_BadRows, rk_BadRows⟩
  have FX_BadSeen := fun_mk (st := s_BadSeen_init) rn_BadSeen rc_BadSeen rw_BadSeen
  have BX_BadSeen := FX_BadSeen.binds (ps := ["self", "index"]) fun _ _ _ _ _ _ us hl => match us, hl with | [_, _], _ => rfl
  have OX_BadSeen : OexC K CX_BadSeen := ⟨⟨_, _, _, _, _, _, _, _, _, _, _, _, _, _, _, rl_BadSeen, rfl⟩, rs_BadSeen, rb_BadSeen, ry_BadSeen, rk_BadSeen⟩
  have FX_BadSteps := fun_mk (st := s_BadSteps_init) rn_BadSteps rc_BadSteps rw_BadSteps
  have BX_BadSteps := FX_BadSteps.binds (ps := ["self", "index"]) fun _ _ _ _ _ _ us hl => match us, hl with | [_, _], _ => rfl
  have OX_BadSteps : OexC K CX_BadSteps := ⟨⟨_, _, _, _, _, _, _, _, _, _, _, _, _, _, _, rl_BadSteps, rfl⟩, rs_BadSteps, rb_BadSteps, ry_BadSteps, rk_BadSteps⟩
  have FX_BadSweets := fun_mk (st := s_BadSweets_init) rn_BadSweets rc_BadSweets rw_BadSweets
  have BX_BadSweets := FX_BadSweets.binds (ps := ["self", "index"]) fun _ _ _ _ _ _ us hl => match us, hl with | [_, _], _ => rfl
  have OX_BadSweets : OexC K CX_BadSweets := ⟨⟨_, _, _, _, _, _, _, _, _, _, _, _, _, _, _, rl_BadSweets, rfl⟩, rs_BadSweets, rb_BadSweets, ry_BadSweets, rk_BadSweets⟩
  have FX_BadText := fun_mk (st := s_BadText_init) rn_BadText rc_BadText rw_BadText
  have BX_BadText := FX_BadText.binds (ps := ["self", "word"]) fun _ _ _ _ _ _ us hl => match us, hl with | [_, _], _ => rfl
  have OX_BadText : OexC K CX_BadText := ⟨⟨_, _, _, _, _, _, _, _, _, _, _, _, _, _, _, rl_BadText, rfl⟩, rs_BadText, rb_BadText, ry_BadText, rk_BadText⟩
  have ER_BadChild : SwW.ErC K CX_BadChild := ⟨qi_BadChild, eg_BadChild, ea_BadChild, qb_BadChild, ec_BadChild, en_BadChild, et_BadChild, em_BadChild⟩
  have ER_BadChildren : SwW.ErC K CX_BadChildren := ⟨qi_BadChildren, eg_BadChildren, ea_BadChildren, qb_BadChildren, ec_BadChildren, en_BadChildren, et_BadChildren, em_BadChildren⟩
  have ER_BadGift : SwW.ErC K CX_BadGift := ⟨qi_BadGift, eg_BadGift, ea_BadGift, qb_BadGift, ec_BadGift, en_BadGift, et_BadGift, em_BadGift⟩
  have ER_BadMost : SwW.ErC K CX_BadMost := ⟨qi_BadMost, eg_BadMost, ea_BadMost, qb_BadMost, ec_BadMost, en_BadMost, et_BadMost, em_BadMost⟩
  have ER_BadParts : SwW.ErC K CX_BadParts := ⟨qi_BadParts, eg_BadParts, ea_BadParts, qb_BadParts, ec_BadParts, en_BadParts, et_BadParts, em_BadParts⟩
  have ER_BadRounds : SwW.ErC K CX_BadRounds := ⟨qi_BadRounds, eg_BadRounds, ea_BadRounds, qb_BadRounds, ec_BadRounds, en_BadRounds, et_BadRounds, em_BadRounds⟩
  have ER_BadRows : SwW.ErC K CX_BadRows := ⟨rx_BadRows, eg_BadRows, ea_BadRows, rb_BadRows, ec_BadRows, en_BadRows, et_BadRows, em_BadRows⟩
  have ER_BadSeen : SwW.ErC K CX_BadSeen := ⟨rx_BadSeen, eg_BadSeen, ea_BadSeen, rb_BadSeen, ec_BadSeen, en_BadSeen, et_BadSeen, em_BadSeen⟩
  have ER_BadSteps : SwW.ErC K CX_BadSteps := ⟨rx_BadSteps, eg_BadSteps, ea_BadSteps, rb_BadSteps, ec_BadSteps, en_BadSteps, et_BadSteps, em_BadSteps⟩
  have ER_BadSweets : SwW.ErC K CX_BadSweets := ⟨rx_BadSweets, eg_BadSweets, ea_BadSweets, rb_BadSweets, ec_BadSweets, en_BadSweets, et_BadSweets, em_BadSweets⟩
  have ER_BadText : SwW.ErC K CX_BadText := ⟨rx_BadText, eg_BadText, ea_BadText, rb_BadText, ec_BadText, en_BadText, et_BadText, em_BadText⟩
  have ER_TooMany : SwW.ErC K CX_TooMany := ⟨qi_TooMany, eg_TooMany, ea_TooMany, qb_TooMany, ec_TooMany, en_TooMany, et_TooMany, em_TooMany⟩
  have KR_BadChild : KitRow K [CX_BadChild, CX_BadChildren, CX_BadGift, CX_BadMost, CX_BadParts, CX_BadRounds, CX_BadRows, CX_BadSeen, CX_BadSteps, CX_BadSweets, CX_BadText, CX_TooMany] CX_SweetError CX_BadChild := ⟨ER_BadChild, ⟨[true, false, false, false, false, false, false, false, false, false, false, false], ⟨kk_BadChild_BadChild, kk_BadChild_BadChildren, kk_BadChild_BadGift, kk_BadChild_BadMost, kk_BadChild_BadParts, kk_BadChild_BadRounds, kk_BadChild_BadRows, kk_BadChild_BadSeen, kk_BadChild_BadSteps, kk_BadChild_BadSweets, kk_BadChild_BadText, kk_BadChild_TooMany, trivial⟩, rfl⟩, kk_BadChild_SweetError, kv_BadChild⟩
  have KR_BadChildren : KitRow K [CX_BadChild, CX_BadChildren, CX_BadGift, CX_BadMost, CX_BadParts, CX_BadRounds, CX_BadRows, CX_BadSeen, CX_BadSteps, CX_BadSweets, CX_BadText, CX_TooMany] CX_SweetError CX_BadChildren := ⟨ER_BadChildren, ⟨[false, true, false, false, false, false, false, false, false, false, false, false], ⟨kk_BadChildren_BadChild, kk_BadChildren_BadChildren, kk_BadChildren_BadGift, kk_BadChildren_BadMost, kk_BadChildren_BadParts, kk_BadChildren_BadRounds, kk_BadChildren_BadRows, kk_BadChildren_BadSeen, kk_BadChildren_BadSteps, kk_BadChildren_BadSweets, kk_BadChildren_BadText, kk_BadChildren_TooMany, trivial⟩, rfl⟩, kk_BadChildren_SweetError, kv_BadChildren⟩
  have KR_BadGift : KitRow K [CX_BadChild, CX_BadChildren, CX_BadGift, CX_BadMost, CX_BadParts, CX_BadRounds, CX_BadRows, CX_BadSeen, CX_BadSteps, CX_BadSweets, CX_BadText, CX_TooMany] CX_SweetError CX_BadGift := ⟨ER_BadGift, ⟨[false, false, true, false, false, false, false, false, false, false, false, false], ⟨kk_BadGift_BadChild, kk_BadGift_BadChildren, kk_BadGift_BadGift, kk_BadGift_BadMost, kk_BadGift_BadParts, kk_BadGift_BadRounds, kk_BadGift_BadRows, kk_BadGift_BadSeen, kk_BadGift_BadSteps, kk_BadGift_BadSweets, kk_BadGift_BadText, kk_BadGift_TooMany, trivial⟩, rfl⟩, kk_BadGift_SweetError, kv_BadGift⟩
  have KR_BadMost : KitRow K [CX_BadChild, CX_BadChildren, CX_BadGift, CX_BadMost, CX_BadParts, CX_BadRounds, CX_BadRows, CX_BadSeen, CX_BadSteps, CX_BadSweets, CX_BadText, CX_TooMany] CX_SweetError CX_BadMost := ⟨ER_BadMost, ⟨[false, false, false, true, false, false, false, false, false, false, false, false], ⟨kk_BadMost_BadChild, kk_BadMost_BadChildren, kk_BadMost_BadGift, kk_BadMost_BadMost, kk_BadMost_BadParts, kk_BadMost_BadRounds, kk_BadMost_BadRows, kk_BadMost_BadSeen, kk_BadMost_BadSteps, kk_BadMost_BadSweets, kk_BadMost_BadText, kk_BadMost_TooMany, trivial⟩, rfl⟩, kk_BadMost_SweetError, kv_BadMost⟩
  have KR_BadParts : KitRow K [CX_BadChild, CX_BadChildren, CX_BadGift, CX_BadMost, CX_BadParts, CX_BadRounds, CX_BadRows, CX_BadSeen, CX_BadSteps, CX_BadSweets, CX_BadText, CX_TooMany] CX_SweetError CX_BadParts := ⟨ER_BadParts, ⟨[false, false, false, false, true, false, false, false, false, false, false, false], ⟨kk_BadParts_BadChild, kk_BadParts_BadChildren, kk_BadParts_BadGift, kk_BadParts_BadMost, kk_BadParts_BadParts, kk_BadParts_BadRounds, kk_BadParts_BadRows, kk_BadParts_BadSeen, kk_BadParts_BadSteps, kk_BadParts_BadSweets, kk_BadParts_BadText, kk_BadParts_TooMany, trivial⟩, rfl⟩, kk_BadParts_SweetError, kv_BadParts⟩
  have KR_BadRounds : KitRow K [CX_BadChild, CX_BadChildren, CX_BadGift, CX_BadMost, CX_BadParts, CX_BadRounds, CX_BadRows, CX_BadSeen, CX_BadSteps, CX_BadSweets, CX_BadText, CX_TooMany] CX_SweetError CX_BadRounds := ⟨ER_BadRounds, ⟨[false, false, false, false, false, true, false, false, false, false, false, false], ⟨kk_BadRounds_BadChild, kk_BadRounds_BadChildren, kk_BadRounds_BadGift, kk_BadRounds_BadMost, kk_BadRounds_BadParts, kk_BadRounds_BadRounds, kk_BadRounds_BadRows, kk_BadRounds_BadSeen, kk_BadRounds_BadSteps, kk_BadRounds_BadSweets, kk_BadRounds_BadText, kk_BadRounds_TooMany, trivial⟩, rfl⟩, kk_BadRounds_SweetError, kv_BadRounds⟩
  have KR_BadRows : KitRow K [CX_BadChild, CX_BadChildren, CX_BadGift, CX_BadMost, CX_BadParts, CX_BadRounds, CX_BadRows, CX_BadSeen, CX_BadSteps, CX_BadSweets, CX_BadText, CX_TooMany] CX_SweetError CX_BadRows := ⟨ER_BadRows, ⟨[false, false, false, false, false, false, true, false, false, false, false, false], ⟨kk_BadRows_BadChild, kk_BadRows_BadChildren, kk_BadRows_BadGift, kk_BadRows_BadMost, kk_BadRows_BadParts, kk_BadRows_BadRounds, kk_BadRows_BadRows, kk_BadRows_BadSeen, kk_BadRows_BadSteps, kk_BadRows_BadSweets, kk_BadRows_BadText, kk_BadRows_TooMany, trivial⟩, rfl⟩, kk_BadRows_SweetError, kv_BadRows⟩
  have KR_BadSeen : KitRow K [CX_BadChild, CX_BadChildren, CX_BadGift, CX_BadMost, CX_BadParts, CX_BadRounds, CX_BadRows, CX_BadSeen, CX_BadSteps, CX_BadSweets, CX_BadText, CX_TooMany] CX_SweetError CX_BadSeen := ⟨ER_BadSeen, ⟨[false, false, false, false, false, false, false, true, false, false, false, false], ⟨kk_BadSeen_BadChild, kk_BadSeen_BadChildren, kk_BadSeen_BadGift, kk_BadSeen_BadMost, kk_BadSeen_BadParts, kk_BadSeen_BadRounds, kk_BadSeen_BadRows, kk_BadSeen_BadSeen, kk_BadSeen_BadSteps, kk_BadSeen_BadSweets, kk_BadSeen_BadText, kk_BadSeen_TooMany, trivial⟩, rfl⟩, kk_BadSeen_SweetError, kv_BadSeen⟩
  have KR_BadSteps : KitRow K [CX_BadChild, CX_BadChildren, CX_BadGift, CX_BadMost, CX_BadParts, CX_BadRounds, CX_BadRows, CX_BadSeen, CX_BadSteps, CX_BadSweets, CX_BadText, CX_TooMany] CX_SweetError CX_BadSteps := ⟨ER_BadSteps, ⟨[false, false, false, false, false, false, false, false, true, false, false, false], ⟨kk_BadSteps_BadChild, kk_BadSteps_BadChildren, kk_BadSteps_BadGift, kk_BadSteps_BadMost, kk_BadSteps_BadParts, kk_BadSteps_BadRounds, kk_BadSteps_BadRows, kk_BadSteps_BadSeen, kk_BadSteps_BadSteps, kk_BadSteps_BadSweets, kk_BadSteps_BadText, kk_BadSteps_TooMany, trivial⟩, rfl⟩, kk_BadSteps_SweetError, kv_BadSteps⟩
  have KR_BadSweets : KitRow K [CX_BadChild, CX_BadChildren, CX_BadGift, CX_BadMost, CX_BadParts, CX_BadRounds, CX_BadRows, CX_BadSeen, CX_BadSteps, CX_BadSweets, CX_BadText, CX_TooMany] CX_SweetError CX_BadSweets := ⟨ER_BadSweets, ⟨[false, false, false, false, false, false, false, false, false, true, false, false], ⟨kk_BadSweets_BadChild, kk_BadSweets_BadChildren, kk_BadSweets_BadGift, kk_BadSweets_BadMost, kk_BadSweets_BadParts, kk_BadSweets_BadRounds, kk_BadSweets_BadRows, kk_BadSweets_BadSeen, kk_BadSweets_BadSteps, kk_BadSweets_BadSweets, kk_BadSweets_BadText, kk_BadSweets_TooMany, trivial⟩, rfl⟩, kk_BadSweets_SweetError, kv_BadSweets⟩
  have KR_BadText : KitRow K [CX_BadChild, CX_BadChildren, CX_BadGift, CX_BadMost, CX_BadParts, CX_BadRounds, CX_BadRows, CX_BadSeen, CX_BadSteps, CX_BadSweets, CX_BadText, CX_TooMany] CX_SweetError CX_BadText := ⟨ER_BadText, ⟨[false, false, false, false, false, false, false, false, false, false, true, false], ⟨kk_BadText_BadChild, kk_BadText_BadChildren, kk_BadText_BadGift, kk_BadText_BadMost, kk_BadText_BadParts, kk_BadText_BadRounds, kk_BadText_BadRows, kk_BadText_BadSeen, kk_BadText_BadSteps, kk_BadText_BadSweets, kk_BadText_BadText, kk_BadText_TooMany, trivial⟩, rfl⟩, kk_BadText_SweetError, kv_BadText⟩
  have KR_TooMany : KitRow K [CX_BadChild, CX_BadChildren, CX_BadGift, CX_BadMost, CX_BadParts, CX_BadRounds, CX_BadRows, CX_BadSeen, CX_BadSteps, CX_BadSweets, CX_BadText, CX_TooMany] CX_SweetError CX_TooMany := ⟨ER_TooMany, ⟨[false, false, false, false, false, false, false, false, false, false, false, true], ⟨kk_TooMany_BadChild, kk_TooMany_BadChildren, kk_TooMany_BadGift, kk_TooMany_BadMost, kk_TooMany_BadParts, kk_TooMany_BadRounds, kk_TooMany_BadRows, kk_TooMany_BadSeen, kk_TooMany_BadSteps, kk_TooMany_BadSweets, kk_TooMany_BadText, kk_TooMany_TooMany, trivial⟩, rfl⟩, kk_TooMany_SweetError, kv_TooMany⟩
  have F4 := fun_mk (st := s_law_classes) l4 c4 k4
  have b4 := F4.binds (ps := ["_law_error"]) fun _ _ _ _ _ _ us hl => match us, hl with | [_], _ => rfl
  have F5 := fun_mk (st := s_law_one) l5 c5 k5
  have b5 := F5.binds (ps := ["_law_d"]) fun _ _ _ _ _ _ us hl => match us, hl with | [_], _ => rfl
  have F6 := fun_mk (st := s_law) l6 c6 k6
  have b6 := F6.binds (ps := ["_law_script"]) fun _ _ _ _ _ _ us hl => match us, hl with | [_], _ => rfl
  refine ⟨PySem.W.fnOf "law" "law" (defArgs s_law) (defBody s_law) (defScope s_law) .none kV6 dc6 pm6 an6 cd6 ct6, fun s v => .of_eq rfl, fun base _ _ => ?_⟩
  have c_law_below : Cal l.prog w K mg base 1 "_law_below" (spBelow) [] := ⟨f1, _, ["_law_d", "_law_size"], [], ok_law_below F1 T, PySem.W.mg_of X G a1, k1, b1, .nil⟩
  have c_law_pick : Cal l.prog w K mg base 2 "_law_pick" (spPick) [] := ⟨f2, _, ["_law_d", "_law_items"], [], ok_law_pick F2 T c_law_below, PySem.W.mg_of X G a2, k2, b2, .nil⟩
  have c_law_random : Cal l.prog w K mg base 1 "_law_random" (spRandom K) [] := ⟨f3, _, ["_law_script", "_law_salt"], [], ok_law_random F3 T, PySem.W.mg_of X G a3, k3, b3, .nil⟩
  have EX_BadRows : SwV.ExF l.prog w K mg base "BadRows" CX_BadRows "index" := ⟨OX_BadRows, ⟨rg_BadRows, ra_BadRows, rb_BadRows, rh_BadRows⟩, rf_BadRows, PySem.W.mg_of X G ru_BadRows, exm_self rb_BadRows rx_BadRows ry_BadRows rz_BadRows, fX_BadRows, _, ["self", "index"], ri_BadRows, rt_BadRows, ok_BadRows_init FX_BadRows OX_BadRows rf_BadRows, BX_BadRows⟩
  have EX_BadSeen : SwV.ExF l.prog w K mg base "BadSeen" CX_BadSeen "index" := ⟨OX_BadSeen, ⟨rg_BadSeen, ra_BadSeen, rb_BadSeen, rh_BadSeen⟩, rf_BadSeen, PySem.W.mg_of X G ru_BadSeen, exm_self rb_BadSeen rx_BadSeen ry_BadSeen rz_BadSeen, fX_BadSeen, _, ["self", "index"], ri_BadSeen, rt_BadSeen, ok_BadSeen_init FX_BadSeen OX_BadSeen rf_BadSeen, BX_BadSeen⟩
  have EX_BadSteps : SwV.ExF l.prog w K mg base "BadSteps" CX_BadSteps "index" := ⟨OX_BadSteps, ⟨rg_BadSteps, ra_BadSteps, rb_BadSteps, rh_BadSteps⟩, rf_BadSteps, PySem.W.mg_of X G ru_BadSteps, exm_self rb_BadSteps rx_BadSteps ry_BadSteps rz_BadSteps, fX_BadSteps, _, ["self", "index"], ri_BadSteps, rt_BadSteps, ok_BadSteps_init FX_BadSteps OX_BadSteps rf_BadSteps, BX_BadSteps⟩
  have EX_BadSweets : SwV.ExF l.prog w K mg base "BadSweets" CX_BadSweets "index" := ⟨OX_BadSweets, ⟨rg_BadSweets, ra_BadSweets, rb_BadSweets, rh_BadSweets⟩, rf_BadSweets, PySem.W.mg_of X G ru_BadSweets, exm_self rb_BadSweets rx_BadSweets ry_BadSweets rz_BadSweets, fX_BadSweets, _, ["self", "index"], ri_BadSweets, rt_BadSweets, ok_BadSweets_init FX_BadSweets OX_BadSweets rf_BadSweets, BX_BadSweets⟩
  have EX_BadText : SwV.ExF l.prog w K mg base "BadText" CX_BadText "word" := ⟨OX_BadText, ⟨rg_BadText, ra_BadText, rb_BadText, rh_BadText⟩, rf_BadText, PySem.W.mg_of X G ru_BadText, exm_self rb_BadText rx_BadText ry_BadText rz_BadText, fX_BadText, _, ["self", "word"], ri_BadText, rt_BadText, ok_BadText_init FX_BadText OX_BadText rf_BadText, BX_BadText⟩
  have c_law_classes : Cal l.prog w K mg base 1 "_law_classes" (spClasses K [CX_BadChild, CX_BadChildren, CX_BadGift, CX_BadMost, CX_BadParts, CX_BadRounds, CX_BadRows, CX_BadSeen, CX_BadSteps, CX_BadSweets, CX_BadText, CX_TooMany] CX_SweetError) [] := ⟨f4, _, ["_law_error"], [], ok_law_classes F4 T EX_BadChild EX_BadChildren EX_BadGift EX_BadMost EX_BadParts EX_BadRounds EX_BadRows EX_BadSeen EX_BadSteps EX_BadSweets EX_BadText EX_TooMany, PySem.W.mg_of X G a4, k4, b4, .nil⟩
  have c_law_one : Cal l.prog w K mg base 3 "_law_one" (spOne K [CX_BadRows, CX_BadSeen, CX_BadSteps, CX_BadSweets, CX_BadText]) [] := ⟨f5, _, ["_law_d"], [], ok_law_one F5 T c_law_below c_law_pick EX_BadRows EX_BadSeen EX_BadSteps EX_BadSweets EX_BadText, PySem.W.mg_of X G a5, k5, b5, .nil⟩
  exact ok_law F6 T c_law_random c_law_classes c_law_one EX_SweetError EX_BadChild EX_BadChildren EX_BadGift EX_BadMost EX_BadParts EX_BadRounds EX_TooMany KR_BadChild KR_BadChildren KR_BadGift KR_BadMost KR_BadParts KR_BadRounds KR_BadRows KR_BadSeen KR_BadSteps KR_BadSweets KR_BadText KR_TooMany
theorem walk {l : PySem.W.OpenLaw} {q : Program} {loose : List Str} {XP : (Str → Option Value) → Heap → Prop} {YP : World → Heap → Prop} {d : DefRec} {K : Params → PySem.W.Frag} (hn : l.most = some 63) (hdf : d.params.defaults = [])
    (hY : ∀ (w : World) (h : Heap), YP w h → (K w.params).In h)
    (F : ∀ (w : World) (mg : Str → Option Value) (fa : Addr) (h : Heap), (K w.params).In h → h.Ns mainGlobals mg → mg d.name = some (.ref fa) →
      ∃ fd : FuncData, (∀ (s : Shared) (u : Value), BindsTo s fd ⟨[u], []⟩ [("_law_script", u)]) ∧ ∀ base : Heap, (K w.params).In base → base.Ns mainGlobals mg → FnOk l.prog w (K w.params) mg base CX0 4 fa fd ["_law_script"] (spLaw (K w.params))) :
    PySem.W.WalkO q loose XP YP l.row.toRowW d [] (fun f vs => PySem.call f vs) :=
  L2.walk_of (n := 63) (k := 4) (x := "_law_script") (CX := fun _ => CX0) (sp := fun w => spLaw (K w.params)) hn (by decide) hdf ⟨rfl, by decide, by decide⟩ hY F (fun _ _ a ns hl _ hS => ⟨a, ns, rfl, hS, hl, fun _ => rfl⟩) fun _ _ _ _ _ z => z
end Sw
open PySem PySem.W PyProof.Rows
set_option maxRecDepth 100000 in
set_option maxHeartbeats 0 in
theorem PySem.Challenge.cw_sweetsring_k19_errors_apart_holds : PySem.Challenge.rw_sweetsring_k19_errors_apart.Holds := by
  w_on; o_law; k_head; (case hw => w_witness2)
  k_fill
  refine Sw.walk (l := PySem.Challenge.rw_sweetsring_k19_errors_apart) rfl rfl (fun w h Y => PySem.W.kIn_of Y) ?F
  case F =>
    intro w mg fa h KX G hmg
    refine' Sw.all_mk KX G hmg ?a1 ?l1 ?c1 ?k1 ?a2 ?l2 ?c2 ?k2 ?a3 ?l3 ?c3 ?k3 ?qu_SweetError ?qx_SweetError ?qk_SweetError ?qb_SweetError ?qt_SweetError ?qi_SweetError ?qs_SweetError ?qu_BadChild ?qx_BadChild ?qk_BadChild ?qb_BadChild ?qt_BadChild ?qi_BadChild ?qs_BadChild ?qu_BadChildren ?qx_BadChildren ?qk_BadChildren ?qb_BadChildren ?qt_BadChildren ?qi_BadChildren ?qs_BadChildren ?qu_BadGift ?qx_BadGift ?qk_BadGift ?qb_BadGift ?qt_BadGift ?qi_BadGift ?qs_BadGift ?qu_BadMost ?qx_BadMost ?qk_BadMost ?qb_BadMost ?qt_BadMost ?qi_BadMost ?qs_BadMost ?qu_BadParts ?qx_BadParts ?qk_BadParts ?qb_BadParts ?qt_BadParts ?qi_BadParts ?qs_BadParts ?qu_BadRounds ?qx_BadRounds ?qk_BadRounds ?qb_BadRounds ?qt_BadRounds ?qi_BadRounds ?qs_BadRounds ?qu_TooMany ?qx_TooMany ?qk_TooMany ?qb_TooMany ?qt_TooMany ?qi_TooMany ?qs_TooMany ?ru_BadRows ?rl_BadRows ?rs_BadRows ?rg_BadRows ?ra_BadRows ?rf_BadRows ?ri_BadRows ?rt_BadRows ?rn_BadRows ?rc_BadRows ?rw_BadRows ?rk_BadRows ?rb_BadRows ?ry_BadRows ?rh_BadRows ?rx_BadRows ?rz_BadRows ?ru_BadSeen ?rl_BadSeen ?rs_BadSeen ?rg_BadSeen ?ra_BadSeen ?rf_BadSeen ?ri_BadSeen ?rt_BadSeen ?rn_BadSeen ?rc_BadSeen ?rw_BadSeen ?rk_BadSeen ?rb_BadSeen ?ry_BadSeen ?rh_BadSeen ?rx_BadSeen ?rz_BadSeen ?ru_BadSteps ?rl_BadSteps ?rs_BadSteps ?rg_BadSteps ?ra_BadSteps ?rf_BadSteps ?ri_BadSteps ?rt_BadSteps ?rn_BadSteps ?rc_BadSteps ?rw_BadSteps ?rk_BadSteps ?rb_BadSteps ?ry_BadSteps ?rh_BadSteps ?rx_BadSteps ?rz_BadSteps ?ru_BadSweets ?rl_BadSweets ?rs_BadSweets ?rg_BadSweets ?ra_BadSweets ?rf_BadSweets ?ri_BadSweets ?rt_BadSweets ?rn_BadSweets ?rc_BadSweets ?rw_BadSweets ?rk_BadSweets ?rb_BadSweets ?ry_BadSweets ?rh_BadSweets ?rx_BadSweets ?rz_BadSweets ?ru_BadText ?rl_BadText ?rs_BadText ?rg_BadText ?ra_BadText ?rf_BadText ?ri_BadText ?rt_BadText ?rn_BadText ?rc_BadText ?rw_BadText ?rk_BadText ?rb_BadText ?ry_BadText ?rh_BadText ?rx_BadText ?rz_BadText ?eg_BadChild ?ea_BadChild ?ec_BadChild ?en_BadChild ?et_BadChild ?em_BadChild ?eg_BadChildren ?ea_BadChildren ?ec_BadChildren ?en_BadChildren ?et_BadChildren ?em_BadChildren ?eg_BadGift ?ea_BadGift ?ec_BadGift ?en_BadGift ?et_BadGift ?em_BadGift ?eg_BadMost ?ea_BadMost ?ec_BadMost ?en_BadMost ?et_BadMost ?em_BadMost ?eg_BadParts ?ea_BadParts ?ec_BadParts ?en_BadParts ?et_BadParts ?em_BadParts ?eg_BadRounds ?ea_BadRounds ?ec_BadRounds ?en_BadRounds ?et_BadRounds ?em_BadRounds ?eg_BadRows ?ea_BadRows ?ec_BadRows ?en_BadRows ?et_BadRows ?em_BadRows ?eg_BadSeen ?ea_BadSeen ?ec_BadSeen ?en_BadSeen ?et_BadSeen ?em_BadSeen ?eg_BadSteps ?ea_BadSteps ?ec_BadSteps ?en_BadSteps ?et_BadSteps ?em_BadSteps ?eg_BadSweets ?ea_BadSweets ?ec_BadSweets ?en_BadSweets ?et_BadSweets ?em_BadSweets ?eg_BadText ?ea_BadText ?ec_BadText ?en_BadText ?et_BadText ?em_BadText ?eg_TooMany ?ea_TooMany ?ec_TooMany ?en_TooMany ?et_TooMany ?em_TooMany ?kk_BadChild_BadChild ?kk_BadChild_BadChildren ?kk_BadChild_BadGift ?kk_BadChild_BadMost ?kk_BadChild_BadParts ?kk_BadChild_BadRounds ?kk_BadChild_BadRows ?kk_BadChild_BadSeen ?kk_BadChild_BadSteps ?kk_BadChild_BadSweets ?kk_BadChild_BadText ?kk_BadChild_TooMany ?kk_BadChild_SweetError ?kv_BadChild ?kk_BadChildren_BadChild ?kk_BadChildren_BadChildren ?kk_BadChildren_BadGift ?kk_BadChildren_BadMost ?kk_BadChildren_BadParts ?kk_BadChildren_BadRounds ?kk_BadChildren_BadRows ?kk_BadChildren_BadSeen ?kk_BadChildren_BadSteps ?kk_BadChildren_BadSweets ?kk_BadChildren_BadText ?kk_BadChildren_TooMany ?kk_BadChildren_SweetError ?kv_BadChildren ?kk_BadGift_BadChild ?kk_BadGift_BadChildren ?kk_BadGift_BadGift ?kk_BadGift_BadMost ?kk_BadGift_BadParts ?kk_BadGift_BadRounds ?kk_BadGift_BadRows ?kk_BadGift_BadSeen ?kk_BadGift_BadSteps ?kk_BadGift_BadSweets ?kk_BadGift_BadText ?kk_BadGift_TooMany ?kk_BadGift_SweetError ?kv_BadGift ?kk_BadMost_BadChild ?kk_BadMost_BadChildren ?kk_BadMost_BadGift ?kk_BadMost_BadMost ?kk_BadMost_BadParts ?kk_BadMost_BadRounds ?kk_BadMost_BadRows ?kk_BadMost_BadSeen ?kk_BadMost_BadSteps ?kk_BadMost_BadSweets ?kk_BadMost_BadText ?kk_BadMost_TooMany ?kk_BadMost_SweetError ?kv_BadMost ?kk_BadParts_BadChild ?kk_BadParts_BadChildren ?kk_BadParts_BadGift ?kk_BadParts_BadMost ?kk_BadParts_BadParts ?kk_BadParts_BadRounds ?kk_BadParts_BadRows ?kk_BadParts_BadSeen ?kk_BadParts_BadSteps ?kk_BadParts_BadSweets ?kk_BadParts_BadText ?kk_BadParts_TooMany ?kk_BadParts_SweetError ?kv_BadParts ?kk_BadRounds_BadChild ?kk_BadRounds_BadChildren ?kk_BadRounds_BadGift ?kk_BadRounds_BadMost ?kk_BadRounds_BadParts ?kk_BadRounds_BadRounds ?kk_BadRounds_BadRows ?kk_BadRounds_BadSeen ?kk_BadRounds_BadSteps ?kk_BadRounds_BadSweets ?kk_BadRounds_BadText ?kk_BadRounds_TooMany ?kk_BadRounds_SweetError ?kv_BadRounds ?kk_BadRows_BadChild ?kk_BadRows_BadChildren ?kk_BadRows_BadGift ?kk_BadRows_BadMost ?kk_BadRows_BadParts ?kk_BadRows_BadRounds ?kk_BadRows_BadRows ?kk_BadRows_BadSeen ?kk_BadRows_BadSteps ?kk_BadRows_BadSweets ?kk_BadRows_BadText ?kk_BadRows_TooMany ?kk_BadRows_SweetError ?kv_BadRows ?kk_BadSeen_BadChild ?kk_BadSeen_BadChildren ?kk_BadSeen_BadGift ?kk_BadSeen_BadMost ?kk_BadSeen_BadParts ?kk_BadSeen_BadRounds ?kk_BadSeen_BadRows ?kk_BadSeen_BadSeen ?kk_BadSeen_BadSteps ?kk_BadSeen_BadSweets ?kk_BadSeen_BadText ?kk_BadSeen_TooMany ?kk_BadSeen_SweetError ?kv_BadSeen ?kk_BadSteps_BadChild ?kk_BadSteps_BadChildren ?kk_BadSteps_BadGift ?kk_BadSteps_BadMost ?kk_BadSteps_BadParts ?kk_BadSteps_BadRounds ?kk_BadSteps_BadRows ?kk_BadSteps_BadSeen ?kk_BadSteps_BadSteps ?kk_BadSteps_BadSweets ?kk_BadSteps_BadText ?kk_BadSteps_TooMany ?kk_BadSteps_SweetError ?kv_BadSteps ?kk_BadSweets_BadChild ?kk_BadSweets_BadChildren ?kk_BadSweets_BadGift ?kk_BadSweets_BadMost ?kk_BadSweets_BadParts ?kk_BadSweets_BadRounds ?kk_BadSweets_BadRows ?kk_BadSweets_BadSeen ?kk_BadSweets_BadSteps ?kk_BadSweets_BadSweets ?kk_BadSweets_BadText ?kk_BadSweets_TooMany ?kk_BadSweets_SweetError ?kv_BadSweets ?kk_BadText_BadChild ?kk_BadText_BadChildren ?kk_BadText_BadGift ?kk_BadText_BadMost ?kk_BadText_BadParts ?kk_BadText_BadRounds ?kk_BadText_BadRows ?kk_BadText_BadSeen ?kk_BadText_BadSteps ?kk_BadText_BadSweets ?kk_BadText_BadText ?kk_BadText_TooMany ?kk_BadText_SweetError ?kv_BadText ?kk_TooMany_BadChild ?kk_TooMany_BadChildren ?kk_TooMany_BadGift ?kk_TooMany_BadMost ?kk_TooMany_BadParts ?kk_TooMany_BadRounds ?kk_TooMany_BadRows ?kk_TooMany_BadSeen ?kk_TooMany_BadSteps ?kk_TooMany_BadSweets ?kk_TooMany_BadText ?kk_TooMany_TooMany ?kk_TooMany_SweetError ?kv_TooMany ?a4 ?l4 ?c4 ?k4 ?a5 ?l5 ?c5 ?k5 ?a6 ?l6 ?c6 ?k6 ?z_ValueError ?z_abs ?z_bool ?z_dict ?z_int ?z_isinstance ?z_len ?z_list ?z_range ?z_str ?z_tuple
    (case a1 => k_is)
    (case l1 => k_is)
    (case c1 => k_is)
    (case k1 => k_is)
    (case a2 => k_is)
    (case l2 => k_is)
    (case c2 => k_is)
    (case k2 => k_is)
    (case a3 => k_is)
    (case l3 => k_is)
    (case c3 => k_is)
    (case k3 => k_is)
    (case qu_SweetError => k_is)
    (case qx_SweetError => k_exc)
    (case qk_SweetError => k_is)
    (case qb_SweetError => k_is)
    (case qt_SweetError => k_is)
    (case qi_SweetError => k_is)
    (case qs_SweetError => first | rfl | k_is)
    (case qu_BadChild => k_is)
    (case qx_BadChild => k_exc)
    (case qk_BadChild => k_is)
    (case qb_BadChild => k_is)
    (case qt_BadChild => k_is)
    (case qi_BadChild => k_is)
    (case qs_BadChild => first | rfl | k_is)
    (case qu_BadChildren => k_is)
    (case qx_BadChildren => k_exc)
    (case qk_BadChildren => k_is)
    (case qb_BadChildren => k_is)
    (case qt_BadChildren => k_is)
    (case qi_BadChildren => k_is)
    (case qs_BadChildren => first | rfl | k_is)
    (case qu_BadGift => k_is)
    (case qx_BadGift => k_exc)
    (case qk_BadGift => k_is)
    (case qb_BadGift => k_is)
    (case qt_BadGift => k_is)
    (case qi_BadGift => k_is)
    (case qs_BadGift => first | rfl | k_is)
    (case qu_BadMost => k_is)
    (case qx_BadMost => k_exc)
    (case qk_BadMost => k_is)
    (case qb_BadMost => k_is)
    (case qt_BadMost => k_is)
    (case qi_BadMost => k_is)
    (case qs_BadMost => first | rfl | k_is)
    (case qu_BadParts => k_is)
    (case qx_BadParts => k_exc)
    (case qk_BadParts => k_is)
    (case qb_BadParts => k_is)
    (case qt_BadParts => k_is)
    (case qi_BadParts => k_is)
    (case qs_BadParts => first | rfl | k_is)
    (case qu_BadRounds => k_is)
    (case qx_BadRounds => k_exc)
    (case qk_BadRounds => k_is)
    (case qb_BadRounds => k_is)
    (case qt_BadRounds => k_is)
    (case qi_BadRounds => k_is)
    (case qs_BadRounds => first | rfl | k_is)
    (case qu_TooMany => k_is)
    (case qx_TooMany => k_exc)
    (case qk_TooMany => k_is)
    (case qb_TooMany => k_is)
    (case qt_TooMany => k_is)
    (case qi_TooMany => k_is)
    (case qs_TooMany => first | rfl | k_is)
    (case ru_BadRows => k_is)
    (case rl_BadRows => k_is)
    (case rs_BadRows => k_is)
    (case rg_BadRows => k_is)
    (case ra_BadRows => k_is)
    (case rf_BadRows => k_is)
    (case ri_BadRows => k_is)
    (case rt_BadRows => k_is)
    (case rn_BadRows => k_is)
    (case rc_BadRows => k_is)
    (case rw_BadRows => k_is)
    (case rk_BadRows => k_is)
    (case rb_BadRows => k_is)
    (case ry_BadRows => k_is)
    (case rh_BadRows => k_is)
    (case rx_BadRows => k_is)
    (case rz_BadRows => first | rfl | k_is)
    (case ru_BadSeen => k_is)
    (case rl_BadSeen => k_is)
    (case rs_BadSeen => k_is)
    (case rg_BadSeen => k_is)
    (case ra_BadSeen => k_is)
    (case rf_BadSeen => k_is)
    (case ri_BadSeen => k_is)
    (case rt_BadSeen => k_is)
    (case rn_BadSeen => k_is)
    (case rc_BadSeen => k_is)
    (case rw_BadSeen => k_is)
    (case rk_BadSeen => k_is)
    (case rb_BadSeen => k_is)
    (case ry_BadSeen => k_is)
    (case rh_BadSeen => k_is)
    (case rx_BadSeen => k_is)
    (case rz_BadSeen => first | rfl | k_is)
    (case ru_BadSteps => k_is)
    (case rl_BadSteps => k_is)
    (case rs_BadSteps => k_is)
    (case rg_BadSteps => k_is)
    (case ra_BadSteps => k_is)
    (case rf_BadSteps => k_is)
    (case ri_BadSteps => k_is)
    (case rt_BadSteps => k_is)
    (case rn_BadSteps => k_is)
    (case rc_BadSteps => k_is)
    (case rw_BadSteps => k_is)
    (case rk_BadSteps => k_is)
    (case rb_BadSteps => k_is)
    (case ry_BadSteps => k_is)
    (case rh_BadSteps => k_is)
    (case rx_BadSteps => k_is)
    (case rz_BadSteps => first | rfl | k_is)
    (case ru_BadSweets => k_is)
    (case rl_BadSweets => k_is)
    (case rs_BadSweets => k_is)
    (case rg_BadSweets => k_is)
    (case ra_BadSweets => k_is)
    (case rf_BadSweets => k_is)
    (case ri_BadSweets => k_is)
    (case rt_BadSweets => k_is)
    (case rn_BadSweets => k_is)
    (case rc_BadSweets => k_is)
    (case rw_BadSweets => k_is)
    (case rk_BadSweets => k_is)
    (case rb_BadSweets => k_is)
    (case ry_BadSweets => k_is)
    (case rh_BadSweets => k_is)
    (case rx_BadSweets => k_is)
    (case rz_BadSweets => first | rfl | k_is)
    (case ru_BadText => k_is)
    (case rl_BadText => k_is)
    (case rs_BadText => k_is)
    (case rg_BadText => k_is)
    (case ra_BadText => k_is)
    (case rf_BadText => k_is)
    (case ri_BadText => k_is)
    (case rt_BadText => k_is)
    (case rn_BadText => k_is)
    (case rc_BadText => k_is)
    (case rw_BadText => k_is)
    (case rk_BadText => k_is)
    (case rb_BadText => k_is)
    (case ry_BadText => k_is)
    (case rh_BadText => k_is)
    (case rx_BadText => k_is)
    (case rz_BadText => first | rfl | k_is)
    (case eg_BadChild => k_is)
    (case ea_BadChild => k_is)
    (case ec_BadChild => k_is)
    (case en_BadChild => k_is)
    (case et_BadChild => k_is)
    (case em_BadChild => k_is)
    (case eg_BadChildren => k_is)
    (case ea_BadChildren => k_is)
    (case ec_BadChildren => k_is)
    (case en_BadChildren => k_is)
    (case et_BadChildren => k_is)
    (case em_BadChildren => k_is)
    (case eg_BadGift => k_is)
    (case ea_BadGift => k_is)
    (case ec_BadGift => k_is)
    (case en_BadGift => k_is)
    (case et_BadGift => k_is)
    (case em_BadGift => k_is)
    (case eg_BadMost => k_is)
    (case ea_BadMost => k_is)
    (case ec_BadMost => k_is)
    (case en_BadMost => k_is)
    (case et_BadMost => k_is)
    (case em_BadMost => k_is)
    (case eg_BadParts => k_is)
    (case ea_BadParts => k_is)
    (case ec_BadParts => k_is)
    (case en_BadParts => k_is)
    (case et_BadParts => k_is)
    (case em_BadParts => k_is)
    (case eg_BadRounds => k_is)
    (case ea_BadRounds => k_is)
    (case ec_BadRounds => k_is)
    (case en_BadRounds => k_is)
    (case et_BadRounds => k_is)
    (case em_BadRounds => k_is)
    (case eg_BadRows => k_is)
    (case ea_BadRows => k_is)
    (case ec_BadRows => k_is)
    (case en_BadRows => k_is)
    (case et_BadRows => k_is)
    (case em_BadRows => k_is)
    (case eg_BadSeen => k_is)
    (case ea_BadSeen => k_is)
    (case ec_BadSeen => k_is)
    (case en_BadSeen => k_is)
    (case et_BadSeen => k_is)
    (case em_BadSeen => k_is)
    (case eg_BadSteps => k_is)
    (case ea_BadSteps => k_is)
    (case ec_BadSteps => k_is)
    (case en_BadSteps => k_is)
    (case et_BadSteps => k_is)
    (case em_BadSteps => k_is)
    (case eg_BadSweets => k_is)
    (case ea_BadSweets => k_is)
    (case ec_BadSweets => k_is)
    (case en_BadSweets => k_is)
    (case et_BadSweets => k_is)
    (case em_BadSweets => k_is)
    (case eg_BadText => k_is)
    (case ea_BadText => k_is)
    (case ec_BadText => k_is)
    (case en_BadText => k_is)
    (case et_BadText => k_is)
    (case em_BadText => k_is)
    (case eg_TooMany => k_is)
    (case ea_TooMany => k_is)
    (case ec_TooMany => k_is)
    (case en_TooMany => k_is)
    (case et_TooMany => k_is)
    (case em_TooMany => k_is)
    (case kk_BadChild_BadChild => first | rfl | k_is)
    (case kk_BadChild_BadChildren => first | rfl | k_is)
    (case kk_BadChild_BadGift => first | rfl | k_is)
    (case kk_BadChild_BadMost => first | rfl | k_is)
    (case kk_BadChild_BadParts => first | rfl | k_is)
    (case kk_BadChild_BadRounds => first | rfl | k_is)
    (case kk_BadChild_BadRows => first | rfl | k_is)
    (case kk_BadChild_BadSeen => first | rfl | k_is)
    (case kk_BadChild_BadSteps => first | rfl | k_is)
    (case kk_BadChild_BadSweets => first | rfl | k_is)
    (case kk_BadChild_BadText => first | rfl | k_is)
    (case kk_BadChild_TooMany => first | rfl | k_is)
    (case kk_BadChild_SweetError => first | rfl | k_is)
    (case kv_BadChild => first | rfl | k_is)
    (case kk_BadChildren_BadChild => first | rfl | k_is)
    (case kk_BadChildren_BadChildren => first | rfl | k_is)
    (case kk_BadChildren_BadGift => first | rfl | k_is)
    (case kk_BadChildren_BadMost => first | rfl | k_is)
    (case kk_BadChildren_BadParts => first | rfl | k_is)
    (case kk_BadChildren_BadRounds => first | rfl | k_is)
    (case kk_BadChildren_BadRows => first | rfl | k_is)
    (case kk_BadChildren_BadSeen => first | rfl | k_is)
    (case kk_BadChildren_BadSteps => first | rfl | k_is)
    (case kk_BadChildren_BadSweets => first | rfl | k_is)
    (case kk_BadChildren_BadText => first | rfl | k_is)
    (case kk_BadChildren_TooMany => first | rfl | k_is)
    (case kk_BadChildren_SweetError => first | rfl | k_is)
    (case kv_BadChildren => first | rfl | k_is)
    (case kk_BadGift_BadChild => first | rfl | k_is)
    (case kk_BadGift_BadChildren => first | rfl | k_is)
    (case kk_BadGift_BadGift => first | rfl | k_is)
    (case kk_BadGift_BadMost => first | rfl | k_is)
    (case kk_BadGift_BadParts => first | rfl | k_is)
    (case kk_BadGift_BadRounds => first | rfl | k_is)
    (case kk_BadGift_BadRows => first | rfl | k_is)
    (case kk_BadGift_BadSeen => first | rfl | k_is)
    (case kk_BadGift_BadSteps => first | rfl | k_is)
    (case kk_BadGift_BadSweets => first | rfl | k_is)
    (case kk_BadGift_BadText => first | rfl | k_is)
    (case kk_BadGift_TooMany => first | rfl | k_is)
    (case kk_BadGift_SweetError => first | rfl | k_is)
    (case kv_BadGift => first | rfl | k_is)
    (case kk_BadMost_BadChild => first | rfl | k_is)
    (case kk_BadMost_BadChildren => first | rfl | k_is)
    (case kk_BadMost_BadGift => first | rfl | k_is)
    (case kk_BadMost_BadMost => first | rfl | k_is)
    (case kk_BadMost_BadParts => first | rfl | k_is)
    (case kk_BadMost_BadRounds => first | rfl | k_is)
    (case kk_BadMost_BadRows => first | rfl | k_is)
    (case kk_BadMost_BadSeen => first | rfl | k_is)
    (case kk_BadMost_BadSteps => first | rfl | k_is)
    (case kk_BadMost_BadSweets => first | rfl | k_is)
    (case kk_BadMost_BadText => first | rfl | k_is)
    (case kk_BadMost_TooMany => first | rfl | k_is)
    (case kk_BadMost_SweetError => first | rfl | k_is)
    (case kv_BadMost => first | rfl | k_is)
    (case kk_BadParts_BadChild => first | rfl | k_is)
    (case kk_BadParts_BadChildren => first | rfl | k_is)
    (case kk_BadParts_BadGift => first | rfl | k_is)
    (case kk_BadParts_BadMost => first | rfl | k_is)
    (case kk_BadParts_BadParts => first | rfl | k_is)
    (case kk_BadParts_BadRounds => first | rfl | k_is)
    (case kk_BadParts_BadRows => first | rfl | k_is)
    (case kk_BadParts_BadSeen => first | rfl | k_is)
    (case kk_BadParts_BadSteps => first | rfl | k_is)
    (case kk_BadParts_BadSweets => first | rfl | k_is)
    (case kk_BadParts_BadText => first | rfl | k_is)
    (case kk_BadParts_TooMany => first | rfl | k_is)
    (case kk_BadParts_SweetError => first | rfl | k_is)
    (case kv_BadParts => first | rfl | k_is)
    (case kk_BadRounds_BadChild => first | rfl | k_is)
    (case kk_BadRounds_BadChildren => first | rfl | k_is)
    (case kk_BadRounds_BadGift => first | rfl | k_is)
    (case kk_BadRounds_BadMost => first | rfl | k_is)
    (case kk_BadRounds_BadParts => first | rfl | k_is)
    (case kk_BadRounds_BadRounds => first | rfl | k_is)
    (case kk_BadRounds_BadRows => first | rfl | k_is)
    (case kk_BadRounds_BadSeen => first | rfl | k_is)
    (case kk_BadRounds_BadSteps => first | rfl | k_is)
    (case kk_BadRounds_BadSweets => first | rfl | k_is)
    (case kk_BadRounds_BadText => first | rfl | k_is)
    (case kk_BadRounds_TooMany => first | rfl | k_is)
    (case kk_BadRounds_SweetError => first | rfl | k_is)
    (case kv_BadRounds => first | rfl | k_is)
    (case kk_BadRows_BadChild => first | rfl | k_is)
    (case kk_BadRows_BadChildren => first | rfl | k_is)
    (case kk_BadRows_BadGift => first | rfl | k_is)
    (case kk_BadRows_BadMost => first | rfl | k_is)
    (case kk_BadRows_BadParts => first | rfl | k_is)
    (case kk_BadRows_BadRounds => first | rfl | k_is)
    (case kk_BadRows_BadRows => first | rfl | k_is)
    (case kk_BadRows_BadSeen => first | rfl | k_is)
    (case kk_BadRows_BadSteps => first | rfl | k_is)
    (case kk_BadRows_BadSweets => first | rfl | k_is)
    (case kk_BadRows_BadText => first | rfl | k_is)
    (case kk_BadRows_TooMany => first | rfl | k_is)
    (case kk_BadRows_SweetError => first | rfl | k_is)
    (case kv_BadRows => first | rfl | k_is)
    (case kk_BadSeen_BadChild => first | rfl | k_is)
    (case kk_BadSeen_BadChildren => first | rfl | k_is)
    (case kk_BadSeen_BadGift => first | rfl | k_is)
    (case kk_BadSeen_BadMost => first | rfl | k_is)
    (case kk_BadSeen_BadParts => first | rfl | k_is)
    (case kk_BadSeen_BadRounds => first | rfl | k_is)
    (case kk_BadSeen_BadRows => first | rfl | k_is)
    (case kk_BadSeen_BadSeen => first | rfl | k_is)
    (case kk_BadSeen_BadSteps => first | rfl | k_is)
    (case kk_BadSeen_BadSweets => first | rfl | k_is)
    (case kk_BadSeen_BadText => first | rfl | k_is)
    (case kk_BadSeen_TooMany => first | rfl | k_is)
    (case kk_BadSeen_SweetError => first | rfl | k_is)
    (case kv_BadSeen => first | rfl | k_is)
    (case kk_BadSteps_BadChild => first | rfl | k_is)
    (case kk_BadSteps_BadChildren => first | rfl | k_is)
    (case kk_BadSteps_BadGift => first | rfl | k_is)
    (case kk_BadSteps_BadMost => first | rfl | k_is)
    (case kk_BadSteps_BadParts => first | rfl | k_is)
    (case kk_BadSteps_BadRounds => first | rfl | k_is)
    (case kk_BadSteps_BadRows => first | rfl | k_is)
    (case kk_BadSteps_BadSeen => first | rfl | k_is)
    (case kk_BadSteps_BadSteps => first | rfl | k_is)
    (case kk_BadSteps_BadSweets => first | rfl | k_is)
    (case kk_BadSteps_BadText => first | rfl | k_is)
    (case kk_BadSteps_TooMany => first | rfl | k_is)
    (case kk_BadSteps_SweetError => first | rfl | k_is)
    (case kv_BadSteps => first | rfl | k_is)
    (case kk_BadSweets_BadChild => first | rfl | k_is)
    (case kk_BadSweets_BadChildren => first | rfl | k_is)
    (case kk_BadSweets_BadGift => first | rfl | k_is)
    (case kk_BadSweets_BadMost => first | rfl | k_is)
    (case kk_BadSweets_BadParts => first | rfl | k_is)
    (case kk_BadSweets_BadRounds => first | rfl | k_is)
    (case kk_BadSweets_BadRows => first | rfl | k_is)
    (case kk_BadSweets_BadSeen => first | rfl | k_is)
    (case kk_BadSweets_BadSteps => first | rfl | k_is)
    (case kk_BadSweets_BadSweets => first | rfl | k_is)
    (case kk_BadSweets_BadText => first | rfl | k_is)
    (case kk_BadSweets_TooMany => first | rfl | k_is)
    (case kk_BadSweets_SweetError => first | rfl | k_is)
    (case kv_BadSweets => first | rfl | k_is)
    (case kk_BadText_BadChild => first | rfl | k_is)
    (case kk_BadText_BadChildren => first | rfl | k_is)
    (case kk_BadText_BadGift => first | rfl | k_is)
    (case kk_BadText_BadMost => first | rfl | k_is)
    (case kk_BadText_BadParts => first | rfl | k_is)
    (case kk_BadText_BadRounds => first | rfl | k_is)
    (case kk_BadText_BadRows => first | rfl | k_is)
    (case kk_BadText_BadSeen => first | rfl | k_is)
    (case kk_BadText_BadSteps => first | rfl | k_is)
    (case kk_BadText_BadSweets => first | rfl | k_is)
    (case kk_BadText_BadText => first | rfl | k_is)
    (case kk_BadText_TooMany => first | rfl | k_is)
    (case kk_BadText_SweetError => first | rfl | k_is)
    (case kv_BadText => first | rfl | k_is)
    (case kk_TooMany_BadChild => first | rfl | k_is)
    (case kk_TooMany_BadChildren => first | rfl | k_is)
    (case kk_TooMany_BadGift => first | rfl | k_is)
    (case kk_TooMany_BadMost => first | rfl | k_is)
    (case kk_TooMany_BadParts => first | rfl | k_is)
    (case kk_TooMany_BadRounds => first | rfl | k_is)
    (case kk_TooMany_BadRows => first | rfl | k_is)
    (case kk_TooMany_BadSeen => first | rfl | k_is)
    (case kk_TooMany_BadSteps => first | rfl | k_is)
    (case kk_TooMany_BadSweets => first | rfl | k_is)
    (case kk_TooMany_BadText => first | rfl | k_is)
    (case kk_TooMany_TooMany => first | rfl | k_is)
    (case kk_TooMany_SweetError => first | rfl | k_is)
    (case kv_TooMany => first | rfl | k_is)
    (case a4 => k_is)
    (case l4 => k_is)
    (case c4 => k_is)
    (case k4 => k_is)
    (case a5 => k_is)
    (case l5 => k_is)
    (case c5 => k_is)
    (case k5 => k_is)
    (case a6 => k_is)
    (case l6 => k_is)
    (case c6 => k_is)
    (case k6 => k_is)
    (case z_ValueError => k_is)
    (case z_abs => k_is)
    (case z_bool => k_is)
    (case z_dict => k_is)
    (case z_int => k_is)
    (case z_isinstance => k_is)
    (case z_len => k_is)
    (case z_list => k_is)
    (case z_range => k_is)
    (case z_str => k_is)
    (case z_tuple => k_is)
