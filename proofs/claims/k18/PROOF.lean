import PyProof.Rows.All
import Wide.All
import OpenK.AllK
import Wide.FinOn
import HandS.Codes
import HandS.Conv
import HandS.Defaults
import HandS.Exc
import HandS.ExcField
import HandS.ExcInit
import HandS.ExcOwn
import HandS.ForMost
import HandS.Gcd
import HandS.IsInst
import HandS.Iter
import HandS.Property
import HandS.SortInts
import HandS.Text
import HandS.TryMany
import HandS.TryOnly
import HandS.TupAny
import HandS.Walk
import HandS.Wide
import HandS.WordsExc
import HandS.Zip
import KE.GoesEnum
import KE.GoesMore
import KE.KTupSum
import PyProof.ListStr
import PySem.Challenge.RW_sweetsring_k18_whole_texts_refused
set_option Elab.async false
set_option linter.all false
set_option maxRecDepth 100000
set_option maxHeartbeats 4000000
set_option maxRecDepth 100000
/-! Sw: what stands still (S) beside what there is (H); frames of defs; the drawn numbers' list. -/
namespace Sw
open PySem PySem.Spec PyProof.Rows L2
/-- from (S, H) to (S', H'): S grows, H keeps what it has but at M's places; what of H was not in S doesn't come into S -/
structure Fr (M : Addr → Prop) (S H S' H' : Hp) : Prop where
  a : Same S S'
  b : Same S' H'
  c : ∀ p o, ¬ M p → H p = some o → H' p = some o
  d : ∀ p, H p ≠ none → S p = none → S' p = none
  e : ∀ p, H p ≠ none → H' p ≠ none
abbrev M0 : Addr → Prop := fun _ => False
abbrev M1 (d : Addr) : Addr → Prop := fun p => p = d
theorem nn {H : Hp} {p : Addr} {o : HO} (h : H p = some o) : H p ≠ none := fun z => by rw [h] at z; cases z
theorem ex_of {H : Hp} {p : Addr} (h : H p ≠ none) : ∃ o, H p = some o := by
  cases e : H p with
  | none => exact absurd e h
  | some o => exact ⟨o, rfl⟩
theorem same_none {S H : Hp} (s : Same S H) {p : Addr} (h : H p = none) : S p = none := s.free h
theorem same_updR {S H : Hp} (s : Same S H) {q : Addr} {o : HO} (h : S q = none) : Same S (upd H q o) := fun b x e => by
  rw [upd_ne (ne_of_none e h)]
  exact s b x e
theorem same_updB {S H : Hp} (s : Same S H) {q : Addr} {o : HO} : Same (upd S q o) (upd H q o) := fun b x e => by
  by_cases hb : b = q
  · subst hb
    rw [upd_same] at e ⊢
    exact e
  · rw [upd_ne hb] at e ⊢
    exact s b x e
theorem same_new {S : Hp} {q : Addr} {o : HO} (h : S q = none) : Same S (upd S q o) := fun b x e => by
  rw [upd_ne (ne_of_none e h)]
  exact e
section
variable {M N : Addr → Prop} {S H S1 H1 S2 H2 : Hp} {q p : Addr} {o : HO}
theorem Fr.refl (s : Same S H) : Fr M S H S H := ⟨Same.refl S, s, fun _ _ _ e => e, fun _ _ e => e, fun _ e => e⟩
theorem Fr.trans (f : Fr M S H S1 H1) (g : Fr M S1 H1 S2 H2) : Fr M S H S2 H2 :=
  ⟨f.a.trans g.a, g.b, fun p o m e => g.c p o m (f.c p o m e), fun p h s => g.d p (f.e p h) (f.d p h s), fun p h => g.e p (f.e p h)⟩
theorem Fr.weak (f : Fr M S H S1 H1) (h : ∀ p, M p → N p) : Fr N S H S1 H1 := ⟨f.a, f.b, fun p o m e => f.c p o (fun z => m (h p z)) e, f.d, f.e⟩
theorem Fr.of0 (f : Fr M0 S H S1 H1) : Fr M S H S1 H1 := f.weak fun _ z => z.elim
theorem Fr.imm (f : Fr M S H S1 H1) (n : H1 q = none) : Fr M S H (upd S1 q o) (upd H1 q o) := by
  have hq : ∀ p, H p ≠ none → p ≠ q := fun p h z => f.e p h (by rw [z]; exact n)
  refine ⟨f.a.trans (same_new (f.b.free n)), same_updB f.b, fun p u m e => ?_, fun p h s => ?_, fun p h => ?_⟩
  · rw [upd_ne (hq p (nn e))]
    exact f.c p u m e
  · rw [upd_ne (hq p h)]
    exact f.d p h s
  · rw [upd_ne (hq p h)]
    exact f.e p h
/-- a new thing that may change -/
theorem Fr.new (f : Fr M S H S1 H1) (n : H1 q = none) : Fr M S H S1 (upd H1 q o) := by
  have hq : ∀ p, H p ≠ none → p ≠ q := fun p h z => f.e p h (by rw [z]; exact n)
  refine ⟨f.a, same_updR f.b (f.b.free n), fun p u m e => ?_, f.d, fun p h => ?_⟩
  · rw [upd_ne (hq p (nn e))]
    exact f.c p u m e
  · rw [upd_ne (hq p h)]
    exact f.e p h
/-- it changes -/
theorem Fr.mut (f : Fr M S H S1 H1) (s : S1 q = none) (h : M q ∨ H q = none) : Fr M S H S1 (upd H1 q o) := by
  refine ⟨f.a, same_updR f.b s, fun p u m e => ?_, f.d, fun p hp => ?_⟩
  · have hq : p ≠ q := fun z => by
      subst z
      rcases h with h | h
      · exact m h
      · rw [h] at e; cases e
    rw [upd_ne hq]
    exact f.c p u m e
  · by_cases hq : p = q
    · subst hq
      rw [upd_same]
      exact fun z => by cases z
    · rw [upd_ne hq]
      exact f.e p hp
/-- it changes no more -/
theorem Fr.seal (f : Fr M S H S1 H1) (hq : H1 q = some o) (s : S1 q = none) (n : H q = none) : Fr M S H (upd S1 q o) H1 := by
  refine ⟨f.a.trans (same_new s), fun b x e => ?_, f.c, fun p h z => ?_, f.e⟩
  · by_cases hb : b = q
    · subst hb
      rw [upd_same] at e
      cases e
      exact hq
    · rw [upd_ne hb] at e
      exact f.b b x e
  · have : p ≠ q := fun y => by subst y; exact h n
    rw [upd_ne this]
    exact f.d p h z
end
/-! ### what is read stays -/
theorem Same.seqT {K : PySem.W.Frag} {H H' : Hp} {a : Addr} {xs : List V} (e : Same H H') (h : SqT K H a xs) : SqT K H' a xs := by
  rcases h with (h | ⟨o, h⟩) | h
  · exact .inl (.inl (e _ _ h))
  · exact .inl (.inr ⟨o, e _ _ h⟩)
  · exact .inr h
mutual
theorem dp_mono {K : PySem.W.Frag} {H H' : Hp} (s : Same H H') : ∀ {v : V} {d : PyData}, Dp K H v d → Dp K H' v d
  | _, _, .non => .non
  | _, _, .bl b => .bl b
  | _, _, .int i => .int i
  | _, _, .str x => .str x
  | _, _, .lst h a => .lst (s.seq h) (dpAll_mono s a)
  | _, _, .tup h a => .tup (Same.seqT s h) (dpAll_mono s a)
theorem dpAll_mono {K : PySem.W.Frag} {H H' : Hp} (s : Same H H') : ∀ {vs : List V} {ds : List PyData}, DpAll K H vs ds → DpAll K H' vs ds
  | _, _, .nil => .nil
  | _, _, .cons a b => .cons (dp_mono s a) (dpAll_mono s b)
end
theorem dpAll_ints {K : PySem.W.Frag} {H : Hp} : ∀ ns : List Int, DpAll K H (ns.map V.int) (ns.map PyData.int)
  | [] => .nil
  | n :: r => .cons (.int n) (dpAll_ints r)
theorem dpAll_len {K : PySem.W.Frag} {H : Hp} : ∀ {vs : List V} {ds : List PyData}, DpAll K H vs ds → vs.length = ds.length
  | _, _, .nil => rfl
  | _, _, .cons _ b => by rw [List.length_cons, List.length_cons, dpAll_len b]
theorem dpAll_at {K : PySem.W.Frag} {H : Hp} : ∀ {vs : List V} {ds : List PyData} {i : Nat} {d : PyData}, DpAll K H vs ds → ds[i]? = some d → ∃ v, vs[i]? = some v ∧ Dp K H v d
  | _, _, _, _, .nil, h => by simp at h
  | _, _, 0, _, .cons a _, h => by
    have e := Option.some.inj h
    subst e
    exact ⟨_, rfl, a⟩
  | _, _, i + 1, _, .cons _ b, h => dpAll_at (i := i) b h
theorem dpAll_app {K : PySem.W.Frag} {H : Hp} : ∀ {vs ws : List V} {ds es : List PyData}, DpAll K H vs ds → DpAll K H ws es → DpAll K H (vs ++ ws) (ds ++ es)
  | _, _, _, _, .nil, h => h
  | _, _, _, _, .cons a b, h => .cons a (dpAll_app b h)
theorem dp_tupI {K : PySem.W.Frag} {H : Hp} {a : Addr} {ns : List Int} (h : SqT K H a (ns.map V.int)) : Dp K H (.ref a) (.tuple (ns.map .int)) := .tup h (dpAll_ints ns)
theorem dp_lstI {K : PySem.W.Frag} {H : Hp} {a : Addr} {ns : List Int} (h : SqL K H a (ns.map V.int)) : Dp K H (.ref a) (.list (ns.map .int)) := .lst h (dpAll_ints ns)
/-! ### numbers -/
theorem pow200 : (2 : Int) ^ 200 = 1606938044258990275541962092341162602522202993782792835301376 := by decide +kernel
theorem divW {i j : Int} (h : 0 < j) (hb : j < 2 ^ 200) : CDivW i j := wide_div h (b := 200) (by
  have e : ((2 ^ 200 : Nat) : Int) = (2 : Int) ^ 200 := by decide +kernel
  omega) (by decide) (by decide)
theorem sz100 {n : Nat} (h : n ≤ 100000) : n ≤ sizeLine := Nat.le_trans h (by decide)
theorem szl100 {n : Nat} (h : n < 100000) : n < sizeLine := Nat.lt_of_lt_of_le h (by decide)
/-! ### properties, as one thing -/
structure Prp (P : Program) (w : World) (K : PySem.W.Frag) (mg : Str → Option Value) (base : Heap) (k : Nat) (C : Addr) (f fl : Str) : Prop where
  ex : ∃ (p g : Addr) (fd : FuncData), Cls K C ∧ PropOf K C f p g ∧ FnOk P w K mg base CX0 k g fd ["self"] (getSp C fl) ∧ Binds K fd ["self"] []
theorem pe_pr {X : Cx} {k j : Nat} {C : Addr} {f fl : Str} {e : Expr} {ta : TE} {pos : Pos} (c : Prp X.prog X.w X.K X.mg X.base k C f fl) (hr : Room j X.A) (hk : k + 1 ≤ j) (he : PE X e ta) (hab : attributeBase e f X.env (eval e X.env) = eval e X.env := by rfl) :
    PE X (.Attribute e f pos) (tProp C (getSp C fl) [] E0 ta) := by
  obtain ⟨p, g, fd, c, hp, F, b⟩ := c.ex
  exact pe_prop he c hp F (hr.mono hk) b .nil pass0 hab
/-! ### the list that numbers are drawn from -/
def DS (d : Addr) (H : Hp) : Prop := ∃ (a b : Int) (r : List Int), H d = some (.lst ((a :: b :: r).map V.int)) ∧ 0 ≤ a ∧ 0 ≤ b ∧ (∀ x ∈ r, 0 ≤ x) ∧ r.length ≤ 63
theorem DS.nn {d : Addr} {H : Hp} (h : DS d H) : H d ≠ none := let ⟨_, _, _, e, _⟩ := h; Sw.nn e
theorem DS.keep {M : Addr → Prop} {d : Addr} {S H S' H' : Hp} (h : DS d H) (f : Fr M S H S' H') (hm : ¬ M d) : DS d H' := let ⟨a, b, r, e, z⟩ := h; ⟨a, b, r, f.c d _ hm e, z⟩
theorem DS.new {d l : Addr} {H : Hp} {o : HO} (h : DS d H) (n : H l = none) : DS d (upd H l o) := by
  obtain ⟨a, b, r, e, z⟩ := h
  exact ⟨a, b, r, by rw [upd_ne (ne_of_none e n)]; exact e, z⟩
theorem DS.upd {d l : Addr} {H : Hp} {o : HO} (h : DS d H) (n : d ≠ l) : DS d (upd H l o) := by
  obtain ⟨a, b, r, e, z⟩ := h
  exact ⟨a, b, r, by rw [upd_ne n]; exact e, z⟩
theorem Fr.back {M : Addr → Prop} {S H S1 H1 : Hp} {q : Addr} (f : Fr M S H S1 H1) (n : H1 q = none) : H q = none := by
  cases e : H q with
  | none => rfl
  | some o => exact absurd n (f.e q (by rw [e]; exact fun z => by cases z))
theorem Fr.backS {M : Addr → Prop} {S H S1 H1 : Hp} {q : Addr} (f : Fr M S H S1 H1) (n : H1 q = none) : S1 q = none := f.b.free n
theorem DS.ne {d l : Addr} {H : Hp} (h : DS d H) (n : H l = none) : l ≠ d := fun z => by subst z; exact h.nn n
end Sw
set_option maxRecDepth 100000
/-! Two rules that the layer lacks: enumerate(x) of a tuple, tuple(range(a, b, c)). -/
namespace SwX
open PySem PySem.Spec PyProof.Rows L2
open AutoSeq1 (wpAny_loadPart')
/-! ### enumerate(v), v anything that begins -/
abbrev enO (h : Heap) : Obj := { cls := .type "enumerate", data := .fields #[.none, .bool false, .ref h.objs.size, rawInt 0, .none, .none] }
theorem meets_enum1 {v : Value} {o : Obj} {G : Heap → Prop} (B : Begins v o G) :
    Meets (Builtin.«enumerate.__new__» ⟨[.type "enumerate", v], []⟩) (fun _ R s => G s.heap ∧
      R (.ok (.ret (.ref (s.heap.push o).objs.size))) { s with heap := (s.heap.push o).push (enO s.heap) }) := by
  refine .of_wp fun prog w A R s hh => ?_
  obtain ⟨hp, g, d, tk, os⟩ := s
  obtain ⟨hG, hR⟩ := hh
  have es := sub_enumerate
  have itr : ∀ {A₁ : Around} {E₁ : Value → Shared → Prop} {Q₁ : Value → Shared → Prop}, Q₁ (.ref hp.objs.size) ⟨hp.push o, g, d, tk, os⟩ → wpAny (model prog w) A₁ (pyIter v) Q₁ E₁ ⟨hp, g, d, tk, os⟩ :=
    fun q => B.iter prog w _ _ ⟨hp, g, d, tk, os⟩ _ hG q
  wp_walk using itr
  refine wpAny_stack_any fun st => wpAny_pure ?_
  split
  · rename_i c _ _ _ _ _
    cases (c == Value.type "enumerate") <;> (wp_walk using itr; exact ⟨_, rfl, hR⟩)
  · wp_walk using itr
    exact ⟨_, rfl, hR⟩
section
variable {prog : Program} {w : World} {A : Around} {E : Value → Shared → Prop} {s : Shared}
theorem call_enum1 {v : Value} {o : Obj} {G : Heap → Prop} {Q : Value → Shared → Prop} (B : Begins v o G) (hG : G s.heap)
    (hq : ∀ h', IsEnum h' (s.heap.objs.size + 1) s.heap.objs.size 0 .none → h'.get? s.heap.objs.size = some o →
      (∀ b u, s.heap.get? b = some u → h'.get? b = some u) → Q (.ref (s.heap.objs.size + 1)) { s with heap := h' }) :
    wpAny (model prog w) A (call (.type "enumerate") [v]) Q E s := by
  refine callType_new F.called_enumerate (by decide) (F.typeCall_enumerate_1 _) (F.newCall_enumerate_1 _) (fun obj => F.args_object_init_2 obj _) F.entry_enumerate_new (meets_enum1 B) ⟨hG, ?_⟩
  have sz : (s.heap.push o).objs.size = s.heap.objs.size + 1 := Heap.size_push ..
  show _ ∧ _
  rw [sz]
  have isE : IsEnum ((s.heap.push o).push (enO s.heap)) (s.heap.objs.size + 1) s.heap.objs.size 0 .none := by
    have q := Heap.get?_push_size (s.heap.push o) (o := enO s.heap) rfl
    rw [sz] at q
    exact q
  exact ⟨⟨_, isE, rfl⟩, hq _ isE (Heap.get?_push_of_some _ (Heap.get?_push_size _ B.free)) fun b u z => Heap.get?_push_of_some _ (Heap.get?_push_of_some _ z)⟩
end
/-- the tuple at a as it stands, each item in a new pair with its place -/
def Itu (K : PySem.W.Frag) (a : Addr) : It :=
  ⟨fun i H => ∃ (xs : List V) (x : V), SqT K H a xs ∧ xs[i]? = some x, fun i H v H' => ∃ T x, v = .ref T ∧ H T = none ∧ H' = upd H T (.tup [.int (i : Nat), x]) ∧ ∀ xs, SqT K H a xs → xs[i]? = some x, fun i H => ∃ xs : List V, SqT K H a xs ∧ xs.length ≤ i⟩
theorem turn_enumT {P : Program} {w : World} {K : PySem.W.Frag} {elts : List Expr} {kk : Nat} {tpos : Pos} (a e it : Addr) :
    Turn P w K (.Tuple elts kk tpos) (Itu K a) [e, it] e (fun i h => (∃ old, IsEnum h e it ((i : Nat) : Int) old) ∧ h.IsTupleIter it a i ∧ e ≠ it) where
  mem := List.mem_cons_self
  obj := fun i h st b hb => by
    obtain ⟨⟨old, he⟩, ⟨o, ho, hc, hd⟩, _⟩ := st
    rcases (show b = e ∨ b = it by simpa using hb) with rfl | rfl
    · exact ⟨_, he, fun v q => nomatch q⟩
    · exact ⟨o, ho, fun v q => by rw [hd] at q; cases q⟩
  keep := fun i h h' st k => ⟨st.1.imp fun old he => k e (by simp) _ he, st.2.1.at fun o q => k it (by simp) o q, st.2.2⟩
  item := by
    intro X hP hw hK hc i pins s σ H E I hf st hg
    subst hP hw hK
    obtain ⟨⟨old, he⟩, hit, hne⟩ := st
    obtain ⟨xs, x, hq, hx⟩ := hg
    obtain ⟨its, rv, p, hz⟩ := I.tuple hq
    obtain ⟨u, hu, ru⟩ := rv.get hx
    have pt : s.heap.IsTuple a its.toArray := p
    have hil : it < s.heap.objs.size := by obtain ⟨_, q, _⟩ := hit; exact Heap.lt_size q
    have hel : e < s.heap.objs.size := Heap.lt_size he
    have hai : a ≠ it := fun z => by
      obtain ⟨o1, q1, c1, _⟩ := hit
      obtain ⟨o2, q2, c2, _⟩ := pt
      rw [z, q1] at q2
      cases q2
      rw [c1] at c2
      exact absurd c2 (by decide)
    have hea : e ≠ a := fun z => by
      obtain ⟨o2, q2, c2, _⟩ := pt
      have q1 : s.heap.get? e = _ := he
      rw [z, q2] at q1
      cases q1
      have c3 : Value.type "enumerate" = Value.type "tuple" := c2
      exact absurd (Value.type.inj c3) (by decide)
    have D := Draws.tuple (prog := X.prog) (w := X.w) (A := X.A.in1) (I.ok.hd hc) it a hai its.toArray
    have hlt : i < its.toArray.size := by
      have := (List.getElem?_eq_some_iff.mp hu).1
      simpa using this
    refine wpAny_pyNext_enum_itemD D he ⟨hit, pt⟩ hlt hne (by simp [hne, hea]) fun x' h' tk hP ho st' hT hsz hk => ?_
    have ex : x' = u := by
      have e1 : its.toArray[i]? = some u := by simpa using hu
      have hP' : its.toArray[i]? = some x' := hP
      rw [e1] at hP'
      exact (Option.some.inj hP').symm
    subst ex
    refine ⟨_, rfl, wpAny_letOwnedTupleGo_enum (s := { s with heap := h', toks := tk + 1 }) ho fun h'' he' sb => ?_⟩
    have hT2 : h''.get? s.heap.objs.size = some { cls := .type "tuple", data := .seq #[.int i tk, x'] } := (sb.2 _ (Nat.ne_of_gt hel)).trans hT
    have new : ObjOk X.prog X.w (upd H s.heap.objs.size (.tup [.int (i : Nat), x])) h'' s.heap.objs.size (.tup [.int (i : Nat), x]) :=
      ⟨by show 2 ≤ sizeLine; decide, [.int i tk, x'], .cons ⟨_, rfl⟩ (.cons ru .nil), ⟨_, hT2, rfl, _, rfl⟩⟩
    have I1 : Inv X pins σ (upd H s.heap.objs.size (.tup [.int (i : Nat), x])) { s with heap := h'', toks := tk + 1 } :=
      I.turnedNew (ch := [e, it]) (fun b ob hb q => (sb.2 b (fun z => hb (by simp [z]))).trans (hk b ob (fun z => hb (by simp [z])) (fun z => hb (by simp [z])) q)) hf (Nat.le_refl _) new
    refine ⟨.ref s.heap.objs.size, _, I1, rfl, ⟨_, x, rfl, I.hok.fresh (Nat.le_refl _), rfl, fun ys hy => by rw [I.tuple_inj hy hq]; exact hx⟩, ⟨⟨x', ?_⟩, st'.1.at fun o q => (sb.2 it (Ne.symm hne)).trans q, hne⟩, fun b hb => ?_⟩
    · have e1 : ((i + 1 : Nat) : Int) = (i : Int) + 1 := by omega
      rw [e1]
      exact he'
    · have hb' : b < s.heap.objs.size := by
        rcases (show b = e ∨ b = it by simpa using hb) with z | z
        · rw [z]; exact hel
        · rw [z]; exact hil
      rw [upd_ne (Nat.ne_of_lt hb')]
      exact (hf b hb).1
  done := by
    intro X hP hw hK hc i pins s σ H E I hf st hg
    subst hP hw hK
    obtain ⟨⟨old, he⟩, hit, hne⟩ := st
    obtain ⟨xs, hq, hx⟩ := hg
    obtain ⟨its, rv, p, hz⟩ := I.tuple hq
    have pt : s.heap.IsTuple a its.toArray := p
    obtain ⟨f0, f1, f2, f3, f4, f5⟩ := hf it (by simp)
    have hl := rv.length
    have hno : its.toArray[i]? = none := by simp; omega
    unfold pyNext
    have hT : s.TypeIs (.ref e) "enumerate" := ⟨_, he, rfl⟩
    refine wpAny_bind (wpAny_attempt (wpAny_callSpecial?_slot (name := Str.ofString "__next__") hT F.slot_enumerate_next (wpAny_call_entry F.slot_enumerate_next hT F.entry_enumerate_next ?_ (F.args_enumerate_next_1 _))))
    show wpAny _ _ (field (.ref e) 2 >>= _) _ _ _
    refine wpAny_bind (wpAny_field he rfl (x := .ref it) rfl ?_)
    refine wpAny_bind (wpAny_nextOf_tuple_end (A := X.A.in1) (I.ok.hd hc) hit pt hno fun h' x eb hx' => ?_)
    obtain ⟨o, ho, hcl⟩ := hx'
    refine wpAny_bind (wpAny_isInstance (T := "StopIteration") (b := true) ⟨o, ho, hcl⟩ isSubtype_stop ?_)
    exact wpAny_pure ⟨rfl, I.turned (t' := s.toks) (fun b o hb q => eb b o hb q) f0 f1 f3 f4 f5⟩
  self := fun A i s Q E st h => let ⟨⟨_, he⟩, _⟩ := st; wpAny_pyIter_enum he h
def iEnumT (K : PySem.W.Frag) (ta : TA) : TI := fun σ H R => ta σ H fun vs H1 => ∃ a xs, vs = [.ref a] ∧ SqT K H1 a xs ∧ R (Itu K a) H1
theorem pi_enumT {X : Cx} {e : Expr} {ta : TA} {p pos tpos : Pos} {elts : List Expr} {kk : Nat} (hg : Gl X "enumerate") (hm : X.mg "enumerate" = none) (ha : PA X [e] ta) (hs : starEach [e] X.env = [(false, eval e X.env)] := by rfl) :
    PI X (.Tuple elts kk tpos) (.Call (.Name "enumerate" p) [e] [] pos) (iEnumT X.K ta) := by
  refine ⟨fun pins s σ H R I h => ?_⟩
  refine Call_ (ld_blt I hg hm boot_enumerate (PyProof.Rows.callWith_type1 (thn (ha.run pos pins s σ H _ I h) fun us s1 ⟨vs, H1, I1, r1, q1⟩ => ?_) hs rfl))
  obtain ⟨a, xs, rfl, hq, q⟩ := q1
  cases r1 with
  | cons r rr =>
    cases rr
    cases r
    obtain ⟨its, rv, pl, hz⟩ := I1.tuple hq
    have pt : s1.heap.IsTuple a its.toArray := pl
    refine call_enum1 (begins_tuple a its.toArray) pt fun h' he hit hk => wpAny_pyIter_enum he ?_
    have I2 : Inv X pins σ H1 { s1 with heap := h' } := I1.kept (t' := s1.toks) hk
    refine ⟨s1.heap.objs.size + 1, [s1.heap.objs.size + 1, s1.heap.objs.size], _, _, H1, rfl, I2, turn_enumT a (s1.heap.objs.size + 1) s1.heap.objs.size, ⟨⟨.none, he⟩, ⟨_, hit, rfl, rfl⟩, Nat.succ_ne_self _⟩, fun b hb => ?_, q⟩
    have hle : s1.heap.objs.size ≤ b := by
      rcases (show b = s1.heap.objs.size + 1 ∨ b = s1.heap.objs.size by simpa using hb) with z | z
      · rw [z]; exact Nat.le_succ _
      · rw [z]; exact Nat.le_refl _
    exact I1.fpOk hle (I1.hok.fresh hle)
/-- for i, x in enumerate(t): Pv (the turn) (slots) (heap); in a turn the pair stands at T, new -/
theorem for_enumT {K : PySem.W.Frag} {a : Addr} {xs : List V} {g : TG} {tb : TS} {D : Ends} {σ : L2.St} {H : Hp} (Pv : Nat → L2.St → Hp → Prop) (h0 : Pv 0 σ H) (hl : ∀ i σ H, i ≤ xs.length → Pv i σ H → SqT K H a xs)
    (hs : ∀ i x T σ H, xs[i]? = some x → Pv i σ H → H T = none → g (.ref T) σ (upd H T (.tup [.int (i : Nat), x])) fun σ2 H2 => tb { D with nx := Pv (i + 1), ct := Pv (i + 1), bk := D.nx } σ2 H2) (hd : ∀ σ H, Pv xs.length σ H → D.nx σ H) :
    ∃ W : Nat → Nat → L2.St → Hp → Prop, (∃ m, W 0 m σ H) ∧ ∀ i m σ H, W i m σ H →
      ((Itu K a).stop i H ∧ D.nx σ H) ∨ ((Itu K a).go i H ∧ ∃ N : L2.St → Hp → Prop, (∀ σ' H', N σ' H' → ∃ m', m' < m ∧ W (i + 1) m' σ' H') ∧ ∀ x H', (Itu K a).yld i H x H' → g x σ H' fun σ2 H2 => tb { D with nx := N, ct := N, bk := D.nx } σ2 H2) := by
  refine ⟨fun i m σ H => m = xs.length - i ∧ i ≤ xs.length ∧ Pv i σ H, ⟨_, rfl, Nat.zero_le _, h0⟩, ?_⟩
  rintro i m σ H ⟨rfl, hi, p⟩
  have q := hl i σ H hi p
  by_cases hlt : i < xs.length
  · refine .inr ⟨⟨xs, xs[i], q, List.getElem?_eq_getElem hlt⟩, Pv (i + 1), fun σ' H' p' => ⟨xs.length - (i + 1), by omega, rfl, hlt, p'⟩, fun x H' y => ?_⟩
    obtain ⟨T, x, rfl, nT, rfl, f⟩ := y
    exact hs i x T σ H (f xs q) p nT
  · have e : i = xs.length := by omega
    subst e
    exact .inl ⟨⟨xs, q, Nat.le_refl _⟩, hd σ H p⟩
/-- for i, x in enumerate(list) -/
theorem for_enumL {K : PySem.W.Frag} {a : Addr} {xs : List V} {g : TG} {tb : TS} {D : Ends} {σ : L2.St} {H : Hp} (Pv : Nat → L2.St → Hp → Prop) (h0 : Pv 0 σ H) (hl : ∀ i σ H, i ≤ xs.length → Pv i σ H → SqL K H a xs)
    (hs : ∀ i x T σ H, xs[i]? = some x → Pv i σ H → H T = none → g (.ref T) σ (upd H T (.tup [.int (i : Nat), x])) fun σ2 H2 => tb { D with nx := Pv (i + 1), ct := Pv (i + 1), bk := D.nx } σ2 H2) (hd : ∀ σ H, Pv xs.length σ H → D.nx σ H) :
    ∃ W : Nat → Nat → L2.St → Hp → Prop, (∃ m, W 0 m σ H) ∧ ∀ i m σ H, W i m σ H →
      ((Ite K a).stop i H ∧ D.nx σ H) ∨ ((Ite K a).go i H ∧ ∃ N : L2.St → Hp → Prop, (∀ σ' H', N σ' H' → ∃ m', m' < m ∧ W (i + 1) m' σ' H') ∧ ∀ x H', (Ite K a).yld i H x H' → g x σ H' fun σ2 H2 => tb { D with nx := N, ct := N, bk := D.nx } σ2 H2) := by
  refine ⟨fun i m σ H => m = xs.length - i ∧ i ≤ xs.length ∧ Pv i σ H, ⟨_, rfl, Nat.zero_le _, h0⟩, ?_⟩
  rintro i m σ H ⟨rfl, hi, p⟩
  have q := hl i σ H hi p
  by_cases hlt : i < xs.length
  · refine .inr ⟨⟨xs, xs[i], q, List.getElem?_eq_getElem hlt⟩, Pv (i + 1), fun σ' H' p' => ⟨xs.length - (i + 1), by omega, rfl, hlt, p'⟩, fun x H' y => ?_⟩
    obtain ⟨T, x, rfl, nT, rfl, f⟩ := y
    exact hs i x T σ H (f xs q) p nT
  · have e : i = xs.length := by omega
    subst e
    exact .inl ⟨⟨xs, q, Nat.le_refl _⟩, hd σ H p⟩
/-! ### tuple(range(a, b, c)) -/
def rgC (a c : Int) (n : Nat) : List V := (List.range n).map fun i => V.int (a + (i : Nat) * c)
theorem rgC_len (a c : Int) (n : Nat) : (rgC a c n).length = n := by unfold rgC; rw [List.length_map, List.length_range]
def tTupR3 (ta tb tc : TE) : TE := fun σ H Q => ta σ H fun x H1 => tb σ H1 fun y H2 => tc σ H2 fun z H3 => ∃ (i j c : Int) (n : Nat), x = .int i ∧ y = .int j ∧ z = .int c ∧ RgC i j c n ∧ n ≤ 2 ^ 24 ∧ ∀ q, H3 q = none → Q (.ref q) (upd H3 q (.tup (rgC i c n)))
theorem pe_tupR3 {X : Cx} {a b c : Expr} {ta tb tc : TE} {p1 p2 q1 q2 : Pos} (hc : X.calm = true) (hg : Gl X "tuple") (hm : X.mg "tuple" = none) (hg2 : Gl X "range") (hm2 : X.mg "range" = none) (ha : PE X a ta) (hb : PE X b tb) (hcc : PE X c tc)
    (hs : starEach [a, b, c] X.env = (false, eval a X.env) :: starEach [b, c] X.env := by rfl) (hs2 : starEach [b, c] X.env = (false, eval b X.env) :: starEach [c] X.env := by rfl) (hs3 : starEach [c] X.env = (false, eval c X.env) :: starEach [] X.env := by rfl)
    (hpl : (backTo q2 (starEach [b, c] X.env)).any (·.1) = false := by rfl)
    (na : starEach [Expr.Call (.Name "range" p2) [a, b, c] [] q2] X.env = (false, eval (Expr.Call (.Name "range" p2) [a, b, c] [] q2) X.env) :: starEach [] X.env := by rfl) :
    PE X (.Call (.Name "tuple" p1) [.Call (.Name "range" p2) [a, b, c] [] q2] [] q1) (tTupR3 ta tb tc) := by
  have hA : PA X [a, b, c] (tCons ta (tCons tb (tCons tc tNil))) := pa_cons ha (pa_cons hb (pa_cons hcc pa_nil hs3) hs2) hs
  have rg : ∀ (pins : List (Addr × Obj)) (s : Shared) (σ : L2.St) (H : Hp) (Q : VK), Inv X pins σ H s → tTupR3 ta tb tc σ H Q →
      wpAny (model X.prog X.w) X.A (eval (.Call (.Name "range" p2) [a, b, c] [] q2) X.env) (fun x s' => ∃ r i j k n t u v H', x = .ref r ∧ IsRange s'.heap r i j k t u v ∧ Inv X pins σ H' s' ∧ RgC i j k n ∧ n ≤ 2 ^ 24 ∧ ∀ q, H' q = none → Q (.ref q) (upd H' q (.tup (rgC i k n)))) X.xe s := by
    intro pins s σ H Q I h
    refine Call_ (ld_blt I hg2 hm2 boot_range (PyProof.Rows.callWith_type1 (thn (hA.run q2 pins s σ H (fun vs H' => ∃ (i j k : Int) (n : Nat), vs = [.int i, .int j, .int k] ∧ RgC i j k n ∧ n ≤ 2 ^ 24 ∧ ∀ q, H' q = none → Q (.ref q) (upd H' q (.tup (rgC i k n)))) I ?_) fun us s1 ⟨vs, H1, I1, r1, z1⟩ => ?_) hs hpl))
    · have mono : ∀ {t : TE}, True := fun {_} => trivial
      revert h
      unfold tTupR3 tCons tNil
      intro h
      have e : (fun x H1 => tb σ H1 fun y H2 => tc σ H2 fun z H3 => ∃ (i j c : Int) (n : Nat), x = .int i ∧ y = .int j ∧ z = .int c ∧ RgC i j c n ∧ n ≤ 2 ^ 24 ∧ ∀ q, H3 q = none → Q (.ref q) (upd H3 q (.tup (rgC i c n)))) =
          (fun x H1 => tb σ H1 fun y H2 => tc σ H2 fun z H3 => ∃ (i j k : Int) (n : Nat), [x, y, z] = [V.int i, .int j, .int k] ∧ RgC i j k n ∧ n ≤ 2 ^ 24 ∧ ∀ q, H3 q = none → Q (.ref q) (upd H3 q (.tup (rgC i k n)))) := by
        funext x H1
        congr 1
        funext y H2
        congr 1
        funext z H3
        apply propext
        constructor
        · rintro ⟨i, j, c, n, rfl, rfl, rfl, r⟩
          exact ⟨i, j, c, n, rfl, r⟩
        · rintro ⟨i, j, c, n, e, r⟩
          cases e
          exact ⟨i, j, c, n, rfl, rfl, rfl, r⟩
      rw [e] at h
      exact h
    · obtain ⟨i, j, k, n, rfl, ⟨c0, c1, c2, c3⟩, hn, q⟩ := z1
      cases r1 with
      | cons ra rr =>
        cases rr with
        | cons rb rr =>
          cases rr with
          | cons rc rr =>
            cases rr
            obtain ⟨t, rfl⟩ := ra
            obtain ⟨t', rfl⟩ := rb
            obtain ⟨t'', rfl⟩ := rc
            exact call_range_3 c0 ⟨_, i, j, k, n, _, _, _, H1, rfl, IsRange.new _ _ _ _ _ _ _, I1.kept fun b u e => Heap.get?_push_of_some _ e, ⟨c0, c1, c2, c3⟩, hn, q⟩ (.inl (PyProof.noPylong_small c1))
  refine ⟨fun pins s σ H Q I h => ?_⟩
  refine Call_ (ld_blt I hg hm boot_tuple (PyProof.Rows.callWith_type1 (args_cons (thn (rg pins s σ H _ I h) fun x s1 ⟨r, i, j, k, n, t, u, v, H1, ex, hr, I1, ok, hn, q⟩ => args_nil ?_) na) na))
  subst ex
  obtain ⟨c0, c1, c2, c3⟩ := ok
  refine call_tuple_range (n := n) (I1.ok.hd hc) hr c2 c3 hn fun h' tk acc hk hi => ?_
  have I2 : Inv X pins σ H1 { s1 with heap := h', toks := tk } := I1.kept hk
  have hv : Vals (rgC i k n) acc.toList := by
    have e : acc.toList.length = n := by rw [Array.length_toList]; exact hi.1
    unfold rgC
    rw [← e]
    refine vals_of_get acc.toList _ fun m u hm => ?_
    exact hi.2 m u (by rw [← hm, Array.getElem?_toList])
  refine ⟨.ref h'.objs.size, upd H1 h'.objs.size (.tup (rgC i k n)), I2.laid (t' := tk) (fun c o e => Heap.get?_push_of_some _ e) (Nat.le_refl _) (show ObjOk X.prog X.w _ _ _ (.tup (rgC i k n)) from ⟨?_, acc.toList, hv, ?_⟩), rfl, q _ (I2.hok.fresh (Nat.le_refl _))⟩
  · rw [rgC_len, sizeLine_eq]; omega
  · rw [Array.toArray_toList]; exact IsTup.new _ _
/-! ### len(set(xs)), xs any ints -/
def dist (ns : List Int) : List Int := PyProof.Rows.firstMet (fun i => ns.getD i 0) ns.length
def tLenSetG (K : PySem.W.Frag) (ta : TE) : TE := fun σ H Q => ta σ H fun x H1 => ∃ (l : Addr) (ns : List Int), x = .ref l ∧ SqL K H1 l (ns.map V.int) ∧ ns.length ≤ 4000 ∧ Q (.int ((dist ns).length : Nat)) H1
theorem met_succ (f : Nat → Int) (i : Nat) : PyProof.Rows.firstMet f (i + 1) = if (PyProof.Rows.firstMet f i).any (· == f i) then PyProof.Rows.firstMet f i else PyProof.Rows.firstMet f i ++ [f i] := by
  rw [PyProof.Rows.firstMet_succ]
  rfl
theorem met_le (f : Nat → Int) : ∀ i, (PyProof.Rows.firstMet f i).length ≤ i
  | 0 => Nat.le_refl _
  | i + 1 => by
    have := met_le f i
    rw [met_succ]
    split
    · omega
    · rw [List.length_append, List.length_singleton]; omega
theorem pe_lenSetG {X : Cx} {a : Expr} {ta : TE} {p p2 q pos : Pos} (hg : Gl X "len") (hm : X.mg "len" = none) (hg2 : Gl X "set") (hm2 : X.mg "set" = none) (ha : PE X a ta) (hc : X.calm = true := by rfl)
    (na : starEach [a] X.env = (false, eval a X.env) :: starEach [] X.env := by rfl) : PE X (.Call (.Name "len" p) [.Call (.Name "set" p2) [a] [] q] [] pos) (tLenSetG X.K ta) := by
  refine ⟨fun pins s σ H Q I h => Call_ (ld_blt I hg hm boot_len (PyProof.Rows.callWith_builtin1 (PyProof.Rows.args_cons ?_ rfl) rfl rfl))⟩
  refine Call_ (ld_blt I hg2 hm2 boot_set (PyProof.Rows.callWith_type1 (PyProof.Rows.args_cons (thn (ha.run pins s σ H _ I h) fun v s1 ⟨x, H1, I1, r1, q1⟩ => PyProof.Rows.args_nil ?_) na) na rfl))
  obtain ⟨l, ns, rfl, hq, hl, q1⟩ := q1
  cases r1
  obtain ⟨its, r, pl, hz⟩ := I1.list hq
  have sz : its.toArray.size = ns.length := by rw [List.size_toArray, ← r.length, List.length_map]
  refine call_set_list (I1.ok.hd hc) pl.isList (by simpa using RZ.intsAre_vals r) (by rw [sz]; unfold scanBound; omega) fun h' tk hS hk => PyProof.Rows.args_nil ?_
  rw [sz] at hS
  obtain ⟨o, es, ep, t, ho, hex, hd, _, _, _, hf, hn⟩ := hS
  have hle := met_le (fun i => ns.getD i 0) ns.length
  have I2 : Inv X pins σ H1 { s1 with heap := h', toks := tk } := I1.kept fun b o e => hk b o (Heap.lt_size e) e
  exact call_len_set ho hex hd hf (by rw [hn]; omega) ⟨.int ((dist ns).length : Nat), H1, I2.tok _, ⟨_, by rw [hn]; rfl⟩, q1⟩
theorem met_has (f : Nat → Int) : ∀ i j, j < i → f j ∈ PyProof.Rows.firstMet f i
  | 0, j, h => absurd h (Nat.not_lt_zero j)
  | i + 1, j, h => by
    rw [met_succ]
    by_cases hj : j = i
    · subst hj
      split
      · rename_i hb
        obtain ⟨y, hy, e⟩ := List.any_eq_true.mp hb
        rw [← eq_of_beq e]
        exact hy
      · exact List.mem_append_right _ List.mem_cons_self
    · have := met_has f i j (by omega)
      split
      · exact this
      · exact List.mem_append_left _ this
theorem met_one (f : Nat → Int) (v : Int) : ∀ i, (∀ j, j < i + 1 → f j = v) → PyProof.Rows.firstMet f (i + 1) = [v]
  | 0, h => by
    rw [met_succ]
    show (if ([] : List Int).any (· == f 0) then [] else [] ++ [f 0]) = [v]
    rw [h 0 (by omega)]
    rfl
  | i + 1, h => by
    rw [met_succ, met_one f v i fun j hj => h j (by omega), h (i + 1) (by omega)]
    simp
/-- one just if all are alike -/
theorem dist_one {ns : List Int} (h : ns ≠ []) : (dist ns).length = 1 ↔ ∀ x ∈ ns, ∀ y ∈ ns, x = y := by
  have at_ : ∀ {j : Nat} (hj : j < ns.length), ns.getD j 0 = ns[j] := fun {j} hj => by rw [List.getD_eq_getElem?_getD, List.getElem?_eq_getElem hj]; rfl
  have hpos : 0 < ns.length := List.length_pos_iff.mpr h
  constructor
  · intro e x hx y hy
    obtain ⟨i, hi, rfl⟩ := List.getElem_of_mem hx
    obtain ⟨j, hj, rfl⟩ := List.getElem_of_mem hy
    have m1 := met_has (fun i => ns.getD i 0) ns.length i hi
    have m2 := met_has (fun i => ns.getD i 0) ns.length j hj
    obtain ⟨v, hv⟩ := List.length_eq_one_iff.mp e
    unfold dist at hv
    rw [hv] at m1 m2
    have e1 := List.mem_singleton.mp m1
    have e2 := List.mem_singleton.mp m2
    rw [at_ hi] at e1
    rw [at_ hj] at e2
    rw [e1, e2]
  · intro ha
    obtain ⟨m, hm⟩ : ∃ m, ns.length = m + 1 := ⟨ns.length - 1, by omega⟩
    have : PyProof.Rows.firstMet (fun i => ns.getD i 0) (m + 1) = [ns[0]] := met_one _ _ m fun j hj => by
      show ns.getD j 0 = _
      rw [at_ (by omega)]
      exact ha _ (List.getElem_mem _) _ (List.getElem_mem _)
    unfold dist
    rw [hm, this]
    rfl
theorem dist_pos {ns : List Int} (h : ns ≠ []) : 1 ≤ (dist ns).length := by
  have hpos : 0 < ns.length := List.length_pos_iff.mpr h
  exact List.length_pos_of_mem (met_has (fun i => ns.getD i 0) ns.length 0 hpos)
/-! ### sum(t) of a tuple of ints -/
def rSumT (K : PySem.W.Frag) : List V → Hp → VK → Prop := fun vs H Q => ∃ (a : Addr) (ns : List Int), vs = [V.ref a] ∧ SqT K H a (ns.map V.int) ∧ Q (.int ns.sum) H
theorem cr_sumT {X : Cx} (hc : X.calm = true) : CallR X (.builtin "sum") (rSumT X.K) := by
  intro pins s σ H vs us Q I r h
  obtain ⟨a, ns, rfl, hs, q⟩ := h
  obtain ⟨its, rv, hl, _⟩ := I.tuple hs
  rw [Vals.ref1 r]
  have hi : PyProof.Rows.IntsAre its ns := rv.ints
  obtain ⟨xs, e⟩ := hi.allInts.items
  have hn : numsOf (intItems xs).toList = ns := by rw [← e]; exact hi.numsOf
  rw [nums_intItems] at hn
  have ht : s.heap.IsTuple a its.toArray := hl
  rw [e] at ht
  refine PySem.W.ktm_sumG (I.ok.hd hc) ht fun h' tk t' hk => ?_
  refine ⟨.int _, H, I.kept hk, ⟨_, rfl⟩, ?_⟩
  rw [preSum_eq, List.take_of_length_le (by simp), hn]
  exact q
/-! ### raise X(), X an own class without __init__ -/
theorem pmk_own0 {X : Cx} {C : Addr} {bmB : List Value} {B newId initId : String} {x : Str} {p pos : Pos} (F : ExcBaseFacts B newId initId bmB) (q : PySem.W.excIn X.K C bmB newId = true) (gC : X.mg x = some (.ref C)) (kC : PySem.W.keepIn X.K (.ref C) = true) (r : Raises X (.ref C)) (hg : Gl X x)
    (hdb : (x == ("__debug__" : Str)) = false := by decide) : PMk X (.Call (.Name x p) [] [] pos) (fun _ H Q => Q (.ref C) none H) := by
  intro pins s σ H Q I h
  refine wpAny_Call_Name_kw (ld_glob I hg gC ?_ hdb)
  refine PySem.W.callWith_K0 I.kIn kC ?_
  show wpAny _ _ (call (.ref C) []) _ _ _
  obtain ⟨bm, N, nm, qn, bs, hdct, sn, sub, ab, col, dd, k0, k1, k2, k3, k5, mN, hC, hN, hni, T⟩ := exc_obj I.kIn q
  exact wpAny_call_exc_subT F T hC hN hni (fun h' e hm => mk_of I hm r h (I.hok.gone hm.new)) (Nat.zero_le _)
end SwX
set_option maxRecDepth 100000
/-! Sw: plain data, == of it -/
namespace Sw
open PySem L2 PySem.SeqAt
abbrev dT (ns : List Int) : PyData := .tuple (ns.map .int)
abbrev dL (ns : List Int) : PyData := .list (ns.map .int)
theorem ints_can : ∀ ns : List Int, PyData.canLayAll0 (ns.map .int) = true
  | [] => by simp [PyData.canLayAll0]
  | n :: r => by simp [PyData.canLayAll0, PyData.canLay0, ints_can r]
theorem ints_depth : ∀ ns : List Int, PyData.depthAll (ns.map .int) = 0
  | [] => by simp [PyData.depthAll]
  | n :: r => by simp [PyData.depthAll, PyData.depth, ints_depth r]
theorem dT_depth (ns : List Int) : (dT ns).depth ≤ 1 := by simp [PyData.depth, ints_depth]
theorem dL_depth (ns : List Int) : (dL ns).depth ≤ 1 := by simp [PyData.depth, ints_depth]
theorem dT_shaped (ns : List Int) : shaped (dT ns) = true := by
  have h := dT_depth ns
  simp only [shaped, PyData.canLay0, ints_can, Bool.true_and, decide_eq_true_eq]
  omega
theorem dL_shaped (ns : List Int) : shaped (dL ns) = true := by
  have h := dL_depth ns
  simp only [shaped, PyData.canLay0, ints_can, Bool.true_and, decide_eq_true_eq]
  omega
theorem ints_eqv : ∀ a b : List Int, PyData.eqvAll (a.map .int) (b.map .int) = decide (a = b)
  | [], [] => by simp [PyData.eqvAll]
  | [], _ :: _ => by simp [PyData.eqvAll]
  | _ :: _, [] => by simp [PyData.eqvAll]
  | x :: xs, y :: ys => by
    simp only [List.map_cons, PyData.eqvAll, PyData.eqv, ints_eqv xs ys, List.cons.injEq]
    by_cases h : x = y
    · subst h; simp
    · have : (x == y) = false := by simpa using h
      simp [this, h]
theorem dT_eqv (a b : List Int) : PyData.eqv (dT a) (dT b) = decide (a = b) := by rw [PyData.eqv]; exact ints_eqv a b
theorem dL_eqv (a b : List Int) : PyData.eqv (dL a) (dL b) = decide (a = b) := by rw [PyData.eqv]; exact ints_eqv a b
/-- data without dicts, texts or floats, at most k deep -/
def fine : Nat → PyData → Prop
  | 0, d => d = .none ∨ (∃ b, d = .bool b) ∨ (∃ i, d = .int i)
  | k + 1, d => d = .none ∨ (∃ b, d = .bool b) ∨ (∃ i, d = .int i) ∨ (∃ ds, (d = .list ds ∨ d = .tuple ds) ∧ ds.length ≤ 100000 ∧ ∀ e ∈ ds, fine k e)
theorem fine_int {k : Nat} (i : Int) : fine k (.int i) := by
  cases k with
  | zero => exact .inr (.inr ⟨i, rfl⟩)
  | succ k => exact .inr (.inr (.inl ⟨i, rfl⟩))
theorem fine_bool {k : Nat} (b : Bool) : fine k (.bool b) := by
  cases k with
  | zero => exact .inr (.inl ⟨b, rfl⟩)
  | succ k => exact .inr (.inl ⟨b, rfl⟩)
theorem fine_none {k : Nat} : fine k .none := by cases k <;> exact .inl rfl
theorem fine_tup {k : Nat} {ds : List PyData} (h : ds.length ≤ 100000) (a : ∀ e ∈ ds, fine k e) : fine (k + 1) (.tuple ds) := .inr (.inr (.inr ⟨ds, .inr rfl, h, a⟩))
theorem fine_lst {k : Nat} {ds : List PyData} (h : ds.length ≤ 100000) (a : ∀ e ∈ ds, fine k e) : fine (k + 1) (.list ds) := .inr (.inr (.inr ⟨ds, .inl rfl, h, a⟩))
theorem fine_dT {k : Nat} {ns : List Int} (h : ns.length ≤ 100000) : fine (k + 1) (dT ns) := fine_tup (by rw [List.length_map]; exact h) fun e he => by
  obtain ⟨i, _, rfl⟩ := List.mem_map.mp he
  exact fine_int i
theorem fine_dL {k : Nat} {ns : List Int} (h : ns.length ≤ 100000) : fine (k + 1) (dL ns) := fine_lst (by rw [List.length_map]; exact h) fun e he => by
  obtain ⟨i, _, rfl⟩ := List.mem_map.mp he
  exact fine_int i
end Sw
set_option maxRecDepth 100000
/-! Rings: the mathematics. A set that is closed under the steps holds all that leave the same rest. -/
namespace Sw
open PySem L2
/-- the divisor -/
def gdv (n : Nat) (ss : List Nat) : Nat := ss.foldl Nat.gcd n
/-- the ring of r -/
def ringL (n g r : Nat) : List Nat := (List.range (n / g)).map fun i => r + i * g
theorem gdv_dvd_n : ∀ (ss : List Nat) (n : Nat), gdv n ss ∣ n
  | [], n => Nat.dvd_refl n
  | s :: r, n => Nat.dvd_trans (gdv_dvd_n r (Nat.gcd n s)) (Nat.gcd_dvd_left n s)
theorem gdv_dvd_s : ∀ (ss : List Nat) (n s : Nat), s ∈ ss → gdv n ss ∣ s
  | [], _, _, h => absurd h (by simp)
  | a :: r, n, s, h => by
    rcases List.mem_cons.mp h with h | h
    · subst h
      exact Nat.dvd_trans (gdv_dvd_n r (Nat.gcd n s)) (Nat.gcd_dvd_right n s)
    · exact gdv_dvd_s r (Nat.gcd n a) s h
theorem gdv_pos {n : Nat} {ss : List Nat} (h : 0 < n) : 0 < gdv n ss := Nat.pos_of_dvd_of_pos (gdv_dvd_n ss n) h
/-- t leads from members to members -/
def Leads (n : Nat) (C : Nat → Prop) (t : Nat) : Prop := ∀ x, C x → C ((x + t) % n)
theorem Leads.add {n : Nat} {C : Nat → Prop} {s t : Nat} (a : Leads n C s) (b : Leads n C t) : Leads n C (s + t) := fun x h => by
  have q := b _ (a x h)
  rw [Nat.mod_add_mod, Nat.add_assoc] at q
  exact q
theorem Leads.zero {n : Nat} {C : Nat → Prop} (hm : ∀ x, C x → x < n) : Leads n C 0 := fun x h => by
  rw [Nat.add_zero, Nat.mod_eq_of_lt (hm x h)]
  exact h
theorem Leads.mul {n : Nat} {C : Nat → Prop} (hm : ∀ x, C x → x < n) {s : Nat} (a : Leads n C s) : ∀ k, Leads n C (k * s)
  | 0 => by rw [Nat.zero_mul]; exact Leads.zero hm
  | k + 1 => by rw [Nat.succ_mul]; exact (Leads.mul hm a k).add a
theorem Leads.cong {n : Nat} {C : Nat → Prop} {s t : Nat} (a : Leads n C s) (e : s % n = t % n) : Leads n C t := fun x h => by
  have q := a x h
  rw [Nat.add_mod, e, ← Nat.add_mod] at q
  exact q
theorem Leads.n {n : Nat} {C : Nat → Prop} (hm : ∀ x, C x → x < n) : Leads n C n := (Leads.zero hm).cong (by rw [Nat.mod_self, Nat.zero_mod])
/-- s less a multiple of t -/
theorem Leads.modd {n : Nat} {C : Nat → Prop} (hm : ∀ x, C x → x < n) (h0 : 0 < n) {s t : Nat} (a : Leads n C s) (b : Leads n C t) : Leads n C (s % t) := by
  -- s % t ≡ s + (n - 1) * (s / t) * t
  have h1 : Leads n C (s + ((n - 1) * (s / t)) * t) := a.add (b.mul hm _)
  refine h1.cong ?_
  have e : s + (n - 1) * (s / t) * t = s % t + n * ((s / t) * t) := by
    have e1 : s % t + t * (s / t) = s := Nat.mod_add_div s t
    have e2 : (n - 1) * (s / t) * t + (s / t) * t = n * ((s / t) * t) := by
      rw [Nat.mul_assoc, ← Nat.succ_mul]
      congr 1
      omega
    have e3 : t * (s / t) = (s / t) * t := Nat.mul_comm _ _
    omega
  rw [e, Nat.add_mul_mod_self_left]
theorem Leads.gcd {n : Nat} {C : Nat → Prop} (hm : ∀ x, C x → x < n) (h0 : 0 < n) : ∀ (s t : Nat), Leads n C s → Leads n C t → Leads n C (Nat.gcd s t) := by
  intro s t
  induction s, t using Nat.gcd.induction with
  | H0 t =>
    intro _ b
    rw [Nat.gcd_zero_left]
    exact b
  | H1 s t hs ih =>
    intro a b
    rw [Nat.gcd_rec]
    exact ih (b.modd hm h0 a) a
theorem Leads.gdv {n : Nat} {C : Nat → Prop} (hm : ∀ x, C x → x < n) (h0 : 0 < n) : ∀ (ss : List Nat) (m : Nat), Leads n C m → (∀ s ∈ ss, Leads n C s) → Leads n C (gdv m ss)
  | [], m, a, _ => a
  | s :: r, m, a, h => Leads.gdv hm h0 r (Nat.gcd m s) (Leads.gcd hm h0 m s a (h s List.mem_cons_self)) fun t ht => h t (List.mem_cons_of_mem _ ht)
/-- a closed set with x has all of x's rest -/
theorem closed_all {n : Nat} {ss : List Nat} {C : Nat → Prop} (hm : ∀ x, C x → x < n) (h0 : 0 < n) (hc : ∀ s ∈ ss, Leads n C s) {x y : Nat} (hx : C x) (hy : y < n) (e : y % gdv n ss = x % gdv n ss) : C y := by
  have hg := Leads.gdv hm h0 ss n (Leads.n hm) hc
  have gp := gdv_pos (ss := ss) h0
  have hxn := hm x hx
  obtain ⟨m, hmn⟩ := gdv_dvd_n ss n
  have e1 : (y + n) % gdv n ss = x % gdv n ss := by
    rw [← e]
    conv => lhs; rw [hmn]
    rw [← hmn, show y + n = y + gdv n ss * m by rw [← hmn], Nat.add_mul_mod_self_left]
  obtain ⟨q, hq⟩ := Nat.dvd_of_mod_eq_zero (Nat.sub_mod_eq_zero_of_mod_eq e1)
  have h := hg.mul hm q x hx
  have e2 : x + q * gdv n ss = y + n := by rw [Nat.mul_comm]; omega
  rw [e2, Nat.add_mod_right, Nat.mod_eq_of_lt hy] at h
  exact h
theorem ringL_mem {n g r x : Nat} (hg : 0 < g) (hr : r < g) (hd : g ∣ n) : x ∈ ringL n g r ↔ x < n ∧ x % g = r := by
  obtain ⟨m, rfl⟩ := hd
  unfold ringL
  rw [Nat.mul_div_cancel_left m hg, List.mem_map]
  constructor
  · rintro ⟨i, hi, rfl⟩
    have hi := List.mem_range.mp hi
    have : (i + 1) * g ≤ m * g := Nat.mul_le_mul_right g hi
    rw [Nat.succ_mul] at this
    refine ⟨by rw [Nat.mul_comm g m]; omega, ?_⟩
    rw [Nat.add_mul_mod_self_right, Nat.mod_eq_of_lt hr]
  · rintro ⟨h1, h2⟩
    refine ⟨x / g, List.mem_range.mpr (Nat.div_lt_of_lt_mul h1), ?_⟩
    rw [← h2, Nat.mul_comm]
    exact Nat.mod_add_div x g
theorem ringL_asc {n g r : Nat} (hg : 0 < g) : (ringL n g r).Pairwise (· < ·) := by
  unfold ringL
  rw [List.pairwise_map]
  refine List.Pairwise.imp ?_ List.pairwise_lt_range
  intro a b h
  have := Nat.mul_lt_mul_of_pos_right h hg
  omega
/-- two ascending lists with the same members are one -/
theorem asc_ext : ∀ {l m : List Nat}, l.Pairwise (· < ·) → m.Pairwise (· < ·) → (∀ x, x ∈ l ↔ x ∈ m) → l = m
  | [], [], _, _, _ => rfl
  | [], b :: m, _, _, h => absurd ((h b).mpr List.mem_cons_self) (by simp)
  | a :: l, [], _, _, h => absurd ((h a).mp List.mem_cons_self) (by simp)
  | a :: l, b :: m, hl, hm, h => by
    have hl' := List.pairwise_cons.mp hl
    have hm' := List.pairwise_cons.mp hm
    have hab : a = b := by
      rcases List.mem_cons.mp ((h a).mp List.mem_cons_self) with e | e
      · exact e
      · rcases List.mem_cons.mp ((h b).mpr List.mem_cons_self) with e' | e'
        · exact e'.symm
        · have h1 := hm'.1 a e
          have h2 := hl'.1 b e'
          omega
    subst hab
    have := asc_ext hl'.2 hm'.2 fun x => by
      constructor
      · intro hx
        rcases List.mem_cons.mp ((h x).mp (List.mem_cons_of_mem _ hx)) with e | e
        · subst e
          have := hl'.1 x hx
          omega
        · exact e
      · intro hx
        rcases List.mem_cons.mp ((h x).mpr (List.mem_cons_of_mem _ hx)) with e | e
        · subst e
          have := hm'.1 x hx
          omega
        · exact e
    rw [this]

theorem rg_all : ∀ n : Fin 13, ∀ g : Fin 13, ∀ r : Fin 13, 0 < g.1 → r.1 < g.1 → n.1 % g.1 = 0 → Builtin.Range.small (r.1 : Int) (n.1 : Int) (g.1 : Int) = true ∧ Builtin.Range.rangeSize (r.1 : Int) (n.1 : Int) (g.1 : Int) = ((n.1 / g.1 : Nat) : Int) := by decide +kernel
theorem rg_ok {n g r : Nat} (hn : n ≤ 12) (hn0 : 0 < n) (hg : 0 < g) (hr : r < g) (hd : g ∣ n) : RgC (r : Int) (n : Int) (g : Int) (n / g) := by
  have hgn : g ≤ n := Nat.le_of_dvd hn0 hd
  have h := rg_all ⟨n, by omega⟩ ⟨g, by omega⟩ ⟨r, by omega⟩ hg hr (Nat.mod_eq_zero_of_dvd hd)
  exact ⟨by omega, by omega, h.1, h.2⟩
theorem gdv_take (n : Nat) {ss : List Nat} {i s : Nat} (h : ss[i]? = some s) : gdv n (ss.take (i + 1)) = Nat.gcd (gdv n (ss.take i)) s := by
  unfold gdv
  rw [List.take_add_one, h, List.foldl_append]
  rfl
def dN (l : List Nat) : PyData := .tuple (l.map fun (k : Nat) => PyData.int (k : Int))
/-- the rings of a game, as data -/
def ringsL (n : Nat) (ss : List Nat) : List (List Nat) := (List.range (gdv n ss)).map (ringL n (gdv n ss))
def ringsD (n : Nat) (ss : List Nat) : PyData := .list ((ringsL n ss).map dN)
theorem ringsL_at {n : Nat} {ss : List Nat} {i : Nat} (h : i < gdv n ss) : (ringsL n ss)[i]? = some (ringL n (gdv n ss) i) := by
  unfold ringsL
  rw [List.getElem?_map, List.getElem?_range h]
  rfl
theorem take_snoc {α : Type} {l : List α} {i : Nat} {x : α} (h : l[i]? = some x) : l.take (i + 1) = l.take i ++ [x] := by
  rw [List.take_add_one, h]
  rfl

/-! ### the closure, step by step -/
structure Own (n : Nat) (ss : List Nat) (f c : Nat) (own : List Nat) : Prop where
  hd : f ∈ own
  nd : own.Nodup
  lt : ∀ x ∈ own, x < n ∧ x % gdv n ss = f % gdv n ss
  cl : ∀ j x, j < c → own[j]? = some x → ∀ s ∈ ss, (x + s) % n ∈ own
structure OwnS (n : Nat) (ss : List Nat) (f c x j : Nat) (own : List Nat) : Prop where
  o : Own n ss f c own
  at_ : own[c]? = some x
  st : ∀ s ∈ ss.take j, (x + s) % n ∈ own
theorem Own.start {n f : Nat} {ss : List Nat} (h : f < n) : Own n ss f 0 [f] :=
  ⟨List.mem_cons_self, List.nodup_cons.mpr ⟨by simp, List.nodup_nil⟩, fun x hx => by rw [List.mem_singleton.mp hx]; exact ⟨h, rfl⟩, fun j x hj => absurd hj (Nat.not_lt_zero j)⟩
theorem Own.enter {n f c x : Nat} {ss own : List Nat} (h : Own n ss f c own) (hx : own[c]? = some x) : OwnS n ss f c x 0 own := ⟨h, hx, fun s hs => absurd hs (by simp)⟩
theorem Own.past {n f c : Nat} {ss own : List Nat} (h : Own n ss f c own) (hx : own.length ≤ c) : Own n ss f (c + 1) own :=
  ⟨h.hd, h.nd, h.lt, fun j x hj e s hs => by
    have := (List.getElem?_eq_some_iff.mp e).1
    exact h.cl j x (by omega) e s hs⟩
theorem OwnS.done {n f c x : Nat} {ss own : List Nat} (h : OwnS n ss f c x ss.length own) : Own n ss f (c + 1) own :=
  ⟨h.o.hd, h.o.nd, h.o.lt, fun j y hj e s hs => by
    by_cases hjc : j = c
    · subst hjc
      have q := h.at_
      rw [e] at q
      have e2 := Option.some.inj q
      subst e2
      have := h.st s
      rw [List.take_length] at this
      exact this hs
    · exact h.o.cl j y (by omega) e s hs⟩
theorem OwnS.has {n f c x j s : Nat} {ss own : List Nat} (h : OwnS n ss f c x j own) (hs : ss[j]? = some s) (hm : (x + s) % n ∈ own) : OwnS n ss f c x (j + 1) own :=
  ⟨h.o, h.at_, fun z hz => by
    rw [take_snoc hs] at hz
    rcases List.mem_append.mp hz with hz | hz
    · exact h.st z hz
    · rw [List.mem_singleton.mp hz]; exact hm⟩
theorem OwnS.more {n f c x j s : Nat} {ss own : List Nat} (n0 : 0 < n) (h : OwnS n ss f c x j own) (hs : ss[j]? = some s) (hm : (x + s) % n ∉ own) : OwnS n ss f c x (j + 1) (own ++ [(x + s) % n]) := by
  have hsm : s ∈ ss := List.mem_of_getElem? hs
  have hc := (List.getElem?_eq_some_iff.mp h.at_).1
  have hx := h.o.lt x (List.mem_of_getElem? h.at_)
  have up : ∀ {y}, y ∈ own → y ∈ own ++ [(x + s) % n] := fun hy => List.mem_append_left _ hy
  refine ⟨⟨up h.o.hd, ?_, fun y hy => ?_, fun i y hi e z hz => ?_⟩, ?_, fun z hz => ?_⟩
  · rw [List.nodup_append]
    exact ⟨h.o.nd, List.nodup_cons.mpr ⟨by simp, List.nodup_nil⟩, fun a ha b hb e => by rw [List.mem_singleton.mp hb] at e; subst e; exact hm ha⟩
  · rcases List.mem_append.mp hy with hy | hy
    · exact h.o.lt y hy
    · rw [List.mem_singleton.mp hy]
      refine ⟨Nat.mod_lt _ n0, ?_⟩
      rw [Nat.mod_mod_of_dvd _ (gdv_dvd_n ss n), Nat.add_mod, Nat.mod_eq_zero_of_dvd (gdv_dvd_s ss n s hsm), Nat.add_zero, Nat.mod_mod]
      exact hx.2
  · rw [List.getElem?_append_left (by omega)] at e
    exact up (h.o.cl i y hi e z hz)
  · rw [List.getElem?_append_left hc]
    exact h.at_
  · rw [take_snoc hs] at hz
    rcases List.mem_append.mp hz with hz | hz
    · exact up (h.st z hz)
    · rw [List.mem_singleton.mp hz]
      exact List.mem_append_right _ List.mem_cons_self
theorem nodup_le : ∀ (n : Nat) (l : List Nat), l.Nodup → (∀ x ∈ l, x < n) → l.length ≤ n
  | 0, l, _, h => by
    cases l with
    | nil => exact Nat.le_refl _
    | cons a r => exact absurd (h a List.mem_cons_self) (Nat.not_lt_zero a)
  | n + 1, l, nd, h => by
    have h1 := nodup_le n (l.erase n) (nd.erase n) fun x hx => by
      have hx' := nd.mem_erase_iff.mp hx
      have := h x hx'.2
      have := hx'.1
      omega
    by_cases hm : n ∈ l
    · rw [List.length_erase_of_mem hm] at h1
      omega
    · rw [List.erase_of_not_mem hm] at h1
      omega
theorem Own.all {n f c : Nat} {ss own : List Nat} (h : Own n ss f c own) (hc : own.length ≤ c) (n0 : 0 < n) (x : Nat) : x ∈ own ↔ x < n ∧ x % gdv n ss = f % gdv n ss := by
  refine ⟨h.lt x, fun ⟨h1, h2⟩ => ?_⟩
  refine closed_all (ss := ss) (C := fun y => y ∈ own) (fun y hy => (h.lt y hy).1) n0 (fun s hs y hy => ?_) h.hd h1 h2
  obtain ⟨j, hj, e⟩ := List.getElem_of_mem hy
  exact h.cl j y (by omega) (by rw [List.getElem?_eq_getElem hj, e]) s hs
theorem Own.len {n f c : Nat} {ss own : List Nat} (h : Own n ss f c own) : own.length ≤ n := nodup_le n own h.nd fun x hx => (h.lt x hx).1
theorem asc_extI : ∀ {l m : List Int}, l.Pairwise (· < ·) → m.Pairwise (· < ·) → (∀ x, x ∈ l ↔ x ∈ m) → l = m
  | [], [], _, _, _ => rfl
  | [], b :: m, _, _, h => absurd ((h b).mpr List.mem_cons_self) (by simp)
  | a :: l, [], _, _, h => absurd ((h a).mp List.mem_cons_self) (by simp)
  | a :: l, b :: m, hl, hm, h => by
    have hl' := List.pairwise_cons.mp hl
    have hm' := List.pairwise_cons.mp hm
    have hab : a = b := by
      rcases List.mem_cons.mp ((h a).mp List.mem_cons_self) with e | e
      · exact e
      · rcases List.mem_cons.mp ((h b).mpr List.mem_cons_self) with e' | e'
        · exact e'.symm
        · have h1 := hm'.1 a e
          have h2 := hl'.1 b e'
          omega
    subst hab
    have := asc_extI hl'.2 hm'.2 fun x => by
      constructor
      · intro hx
        rcases List.mem_cons.mp ((h x).mp (List.mem_cons_of_mem _ hx)) with e | e
        · subst e
          have := hl'.1 x hx
          omega
        · exact e
      · intro hx
        rcases List.mem_cons.mp ((h x).mpr (List.mem_cons_of_mem _ hx)) with e | e
        · subst e
          have := hm'.1 x hx
          omega
        · exact e
    rw [this]
theorem sorted_asc {l : List Int} (h : l.Pairwise (· ≤ ·)) (nd : l.Nodup) : l.Pairwise (· < ·) := by
  refine (h.and nd).imp fun {a b} q => ?_
  have := q.1
  have := q.2
  omega
/-- sorted(own) -/
theorem own_sorted {own l : List Nat} {ns : List Int} (hp : ns.Perm (own.map fun (k : Nat) => (k : Int))) (hs : ns.Pairwise (· ≤ ·)) (nd : own.Nodup) (hl : l.Pairwise (· < ·)) (hm : ∀ x, x ∈ own ↔ x ∈ l) : ns = l.map fun (k : Nat) => (k : Int) := by
  have ndI : (own.map fun (k : Nat) => (k : Int)).Nodup := by
    rw [List.Nodup, List.pairwise_map]
    refine nd.imp fun {a b} h e => h ?_
    omega
  have nd2 : ns.Nodup := hp.nodup_iff.mpr ndI
  refine asc_extI (sorted_asc hs nd2) ?_ fun x => ?_
  · rw [List.pairwise_map]
    refine hl.imp fun {a b} h => ?_
    omega
  · rw [hp.mem_iff, List.mem_map, List.mem_map]
    constructor
    · rintro ⟨a, h, e⟩
      exact ⟨a, (hm a).mp h, e⟩
    · rintro ⟨a, h, e⟩
      exact ⟨a, (hm a).mpr h, e⟩
end Sw
set_option maxRecDepth 100000
/-! Rounds: the mathematics of one. -/
namespace Sw
def fillN (p : Nat) (x : Int) : Int := x + (-x) % (p : Int)
def shN (p : Nat) (x : Int) : Int := fillN p x / (p : Int)
/-- who gives to c by the step s -/
def prt (n c s : Nat) : Nat := (c + n - s) % n
def rndF (n p : Nat) (ss : List Nat) (P : Nat → Int) (c : Nat) : Int := ((p : Int) - (ss.length : Int)) * P c + (ss.map fun s => P (prt n c s)).sum
def rnd (n p : Nat) (ss : List Nat) (l : List Int) : List Int := (List.range n).map (rndF n p ss fun k => (l.map (shN p)).getD k 0)
theorem rnd_len {n p : Nat} {ss : List Nat} {l : List Int} : (rnd n p ss l).length = n := by unfold rnd; rw [List.length_map, List.length_range]
theorem prt_lt {n c s : Nat} (h : 0 < n) : prt n c s < n := Nat.mod_lt _ h
theorem prt_int {n c s : Nat} (h : s < n) : ((c : Int) - (s : Int)) % (n : Int) = ((prt n c s : Nat) : Int) := by
  unfold prt
  rw [Int.natCast_emod]
  have e : ((c + n - s : Nat) : Int) = ((c : Int) - (s : Int)) + (n : Int) := by omega
  rw [e, Int.add_emod_right]
theorem neg_mod {p : Int} (h : 0 < p) (x : Int) : (-x) % p = if x % p = 0 then 0 else p - x % p := by
  have e := Int.mul_ediv_add_emod x p
  have r0 := Int.emod_nonneg x (Int.ne_of_gt h)
  have r1 := Int.emod_lt_of_pos x h
  by_cases hr : x % p = 0
  · rw [if_pos hr]
    exact Int.emod_eq_zero_of_dvd (Int.dvd_neg.mpr (Int.dvd_of_emod_eq_zero hr))
  · rw [if_neg hr]
    have e2 : -x = (p - x % p) + p * (-(x / p) - 1) := by
      rw [Int.mul_sub, Int.mul_neg, Int.mul_one]
      omega
    conv => lhs; rw [e2]
    rw [Int.add_mul_emod_self_left]
    exact Int.emod_eq_of_lt (by omega) (by omega)
theorem sh_law {p : Nat} (h : 0 < p) (x : Int) : x / (p : Int) + (if x % (p : Int) > 0 then 1 else 0) = shN p x := by
  have hp : (0 : Int) < (p : Int) := by omega
  have e := Int.mul_ediv_add_emod x p
  have r0 := Int.emod_nonneg x (Int.ne_of_gt hp)
  unfold shN fillN
  rw [neg_mod hp]
  by_cases hr : x % (p : Int) = 0
  · rw [if_pos hr, if_neg (by omega), Int.add_zero, Int.add_zero]
  · rw [if_neg hr, if_pos (by omega)]
    have e2 : x + ((p : Int) - x % (p : Int)) = (p : Int) * (x / (p : Int) + 1) := by
      rw [Int.mul_add, Int.mul_one]
      omega
    rw [e2, Int.mul_ediv_cancel_left _ (Int.ne_of_gt hp)]
theorem fill_mul {p : Nat} (h : 0 < p) (x : Int) : fillN p x = (p : Int) * shN p x := by
  have hp : (0 : Int) < (p : Int) := by omega
  have e := Int.mul_ediv_add_emod x p
  unfold shN fillN
  rw [neg_mod hp]
  by_cases hr : x % (p : Int) = 0
  · rw [if_pos hr, Int.add_zero]
    omega
  · rw [if_neg hr]
    have e2 : x + ((p : Int) - x % (p : Int)) = (p : Int) * (x / (p : Int) + 1) := by
      rw [Int.mul_add, Int.mul_one]
      omega
    rw [e2, Int.mul_ediv_cancel_left _ (Int.ne_of_gt hp)]
/-! ### scattered: child by child, step by step -/
/-- what the child c has when the children below i are through, and child i has kept its part and given by j steps -/
def scF (n : Nat) (ss : List Nat) (k : Int) (P : Nat → Int) (i j c : Nat) : Int :=
  (if c < i + 1 then k * P c else 0) + ((ss.take j).map fun s => if prt n c s < i + 1 then P (prt n c s) else 0).sum + ((ss.drop j).map fun s => if prt n c s < i then P (prt n c s) else 0).sum
/-- the same, child i not begun -/
def scG (n : Nat) (ss : List Nat) (k : Int) (P : Nat → Int) (i c : Nat) : Int :=
  (if c < i then k * P c else 0) + (ss.map fun s => if prt n c s < i then P (prt n c s) else 0).sum
def tab (n : Nat) (f : Nat → Int) : List Int := (List.range n).map f
theorem tab_len (n : Nat) (f : Nat → Int) : (tab n f).length = n := by unfold tab; rw [List.length_map, List.length_range]
theorem tab_at {n i : Nat} (f : Nat → Int) (h : i < n) : (tab n f)[i]? = some (f i) := by
  unfold tab
  rw [List.getElem?_map, List.getElem?_range h]
  rfl
theorem tab_ext {n : Nat} {f g : Nat → Int} (h : ∀ c, c < n → f c = g c) : tab n f = tab n g := by
  unfold tab
  exact List.map_congr_left fun c hc => h c (List.mem_range.mp hc)
theorem tab_set {n k : Nat} (f : Nat → Int) (v : Int) : (tab n f).set k v = tab n fun c => if c = k then v else f c := by
  apply List.ext_getElem?
  intro i
  rw [List.getElem?_set]
  by_cases hi : i < n
  · rw [tab_at _ hi, tab_at _ hi, tab_len]
    by_cases e : k = i
    · subst e
      simp [hi]
    · have e2 : ¬ i = k := fun z => e z.symm
      simp [e, e2]
  · have h1 : (tab n f)[i]? = none := List.getElem?_eq_none (by rw [tab_len]; omega)
    have h2 : (tab n fun c => if c = k then v else f c)[i]? = none := List.getElem?_eq_none (by rw [tab_len]; omega)
    rw [h1, h2, tab_len]
    by_cases e : k = i
    · subst e
      simp [hi]
    · simp [e]
theorem scG_zero (n : Nat) (ss : List Nat) (k : Int) (P : Nat → Int) : tab n (scG n ss k P 0) = List.replicate n 0 := by
  have e : ∀ c, scG n ss k P 0 c = 0 := fun c => by
    unfold scG
    rw [if_neg (Nat.not_lt_zero _)]
    have : (ss.map fun s => if prt n c s < 0 then P (prt n c s) else 0) = ss.map fun _ => 0 := List.map_congr_left fun s _ => if_neg (Nat.not_lt_zero _)
    rw [this]
    have : ∀ l : List Nat, (l.map fun _ => (0 : Int)).sum = 0 := fun l => by
      induction l with
      | nil => rfl
      | cons a l ih => rw [List.map_cons, List.sum_cons, ih]; rfl
    rw [this]
    rfl
  apply List.ext_getElem?
  intro i
  by_cases hi : i < n
  · rw [tab_at _ hi, e, List.getElem?_replicate, if_pos hi]
  · rw [List.getElem?_eq_none (by rw [tab_len]; omega), List.getElem?_eq_none (by rw [List.length_replicate]; omega)]
/-- child i keeps its part -/
theorem sc_keep (n : Nat) (ss : List Nat) (k : Int) (P : Nat → Int) (i : Nat) : (tab n (scG n ss k P i)).set i (scG n ss k P i i + P i * k) = tab n (scF n ss k P i 0) := by
  rw [tab_set]
  refine tab_ext fun c _ => ?_
  unfold scF scG
  rw [List.take_zero, List.drop_zero]
  by_cases h : c = i
  · subst h
    rw [if_pos rfl, if_neg (Nat.lt_irrefl _), if_pos (Nat.lt_succ_self _), Int.mul_comm k]
    simp only [List.map_nil, List.sum_nil]
    omega
  · rw [if_neg h]
    simp only [List.map_nil, List.sum_nil]
    by_cases h2 : c < i
    · rw [if_pos h2, if_pos (by omega)]
      omega
    · rw [if_neg h2, if_neg (by omega)]
      omega
theorem prt_iff {n c s i : Nat} (hs : s < n) (hi : i < n) (hc : c < n) : prt n c s = i ↔ c = (i + s) % n := by
  unfold prt
  constructor
  · intro h
    subst h
    rw [Nat.mod_add_mod]
    have : c + n - s + s = c + n := by omega
    rw [this, Nat.add_mod_right, Nat.mod_eq_of_lt hc]
  · intro h
    subst h
    have h0 : 0 < n := by omega
    have hm := Nat.mod_lt (i + s) h0
    by_cases h2 : i + s < n
    · rw [Nat.mod_eq_of_lt h2]
      have : i + s + n - s = i + n := by omega
      rw [this, Nat.add_mod_right, Nat.mod_eq_of_lt hi]
    · have e : (i + s) % n = i + s - n := by
        rw [Nat.mod_eq_sub_mod (by omega), Nat.mod_eq_of_lt (by omega)]
      rw [e]
      have : i + s - n + n - s = i := by omega
      rw [this, Nat.mod_eq_of_lt hi]
/-- child i gives by one step more -/
theorem sc_give {n : Nat} {ss : List Nat} (k : Int) (P : Nat → Int) {i j s : Nat} (hi : i < n) (hs : s < n) (e : ss[j]? = some s) :
    (tab n (scF n ss k P i j)).set ((i + s) % n) (scF n ss k P i j ((i + s) % n) + P i) = tab n (scF n ss k P i (j + 1)) := by
  rw [tab_set]
  refine tab_ext fun c hc => ?_
  have hj := (List.getElem?_eq_some_iff.mp e).1
  have e2 := (List.getElem?_eq_some_iff.mp e).2
  have hd : ss.drop j = s :: ss.drop (j + 1) := by rw [List.drop_eq_getElem_cons hj, e2]
  have ht : ss.take (j + 1) = ss.take j ++ [s] := take_snoc e
  have key : scF n ss k P i (j + 1) c = scF n ss k P i j c + if prt n c s = i then P i else 0 := by
    unfold scF
    rw [hd, ht, List.map_append, List.sum_append]
    simp only [List.map_cons, List.sum_cons, List.map_nil, List.sum_nil]
    by_cases h : prt n c s = i
    · rw [if_pos h, if_pos (show prt n c s < i + 1 by omega), if_neg (show ¬ prt n c s < i by omega), h]
      omega
    · rw [if_neg h]
      by_cases h2 : prt n c s < i
      · rw [if_pos h2, if_pos (show prt n c s < i + 1 by omega)]
        omega
      · rw [if_neg h2, if_neg (show ¬ prt n c s < i + 1 by omega)]
        omega
  rw [key]
  by_cases h : c = (i + s) % n
  · rw [if_pos h, if_pos ((prt_iff hs hi hc).mpr h), ← h]
  · rw [if_neg h, if_neg (fun z => h ((prt_iff hs hi hc).mp z))]
    omega
theorem sc_next (n : Nat) (ss : List Nat) (k : Int) (P : Nat → Int) (i : Nat) : tab n (scF n ss k P i ss.length) = tab n (scG n ss k P (i + 1)) := by
  refine tab_ext fun c _ => ?_
  unfold scF scG
  rw [List.take_length, List.drop_length]
  simp only [List.map_nil, List.sum_nil]
  omega
theorem scat_end {n p : Nat} {ss : List Nat} (P : Nat → Int) (h0 : 0 < n) : tab n (scG n ss ((p : Int) - (ss.length : Int)) P n) = tab n (rndF n p ss P) := by
  refine tab_ext fun c hc => ?_
  unfold scG rndF
  rw [if_pos hc]
  congr 2
  exact List.map_congr_left fun s _ => if_pos (prt_lt h0)
end Sw
set_option maxRecDepth 100000
set_option maxHeartbeats 4000000
/-! Rows turned about and raised; slices of tuples and their sums, as frames. -/
namespace Sw
section
open PySem L2
variable {X : Cx}
/-- t[lo:hi], the whole of it or a part -/
def rSlF (K : PySem.W.Frag) : V → Option Int → Option Int → Hp → VK → Prop := fun x lo hi H Q => ∃ S a xs, x = .ref a ∧ Same S H ∧ SqT K S a xs ∧
  ∀ p S' H', Fr M0 S H S' H' → SqT K S' p (cutV xs lo hi) → Q (.ref p) H'
theorem cut_whole {xs : List V} {lo hi : Option Int} (h : HT.sIx xs.length 0 lo = 0 ∧ HT.sIx xs.length xs.length hi = xs.length) : cutV xs lo hi = xs := by
  unfold cutV
  rw [h.1, h.2, List.drop_zero, Nat.sub_zero, List.take_length]
theorem sl_tupF : L2.SlR X (rSlF X.K) := by
  intro pins s σ H x v vl vu lo hi sl Q I rx hs pl pu h
  obtain ⟨S, a, xs, e, hS, hx, q⟩ := h
  refine sl_tupA pins s σ H x v vl vu lo hi sl Q I rx hs pl pu ⟨a, xs, e, Same.seqT hS hx, fun hw => ?_, fun _ p hp => ?_⟩
  · exact q a S H (Fr.refl hS) (by rw [cut_whole hw]; exact hx)
  · exact q p _ _ ((Fr.refl hS).imm hp) (.inl (.inl upd_same))
/-- t + u -/
def rCatF (K : PySem.W.Frag) : R2 := fun x y H Q => ∃ S a b xs ys, x = .ref a ∧ y = .ref b ∧ Same S H ∧ SqT K S a xs ∧ SqT K S b ys ∧ xs.length + ys.length ≤ sizeLine ∧
  ∀ p S' H', Fr M0 S H S' H' → SqT K S' p (xs ++ ys) → Q (.ref p) H'
theorem op_catF : OpR X (binaryOp .Add) (rCatF X.K) := by
  intro pins s σ H x y v u Q I rx ry h
  obtain ⟨S, a, b, xs, ys, e1, e2, hS, ha, hb, hz, q⟩ := h
  refine op_catA pins s σ H x y v u Q I rx ry ⟨a, b, xs, ys, e1, e2, Same.seqT hS ha, Same.seqT hS hb, hz, fun hx => ?_, fun _ hy => ?_, fun _ _ p hp => ?_⟩
  · exact q b S H (Fr.refl hS) (by rw [hx]; exact hb)
  · exact q a S H (Fr.refl hS) (by rw [hy, List.append_nil]; exact ha)
  · exact q p _ _ ((Fr.refl hS).imm hp) (.inl (.inl upd_same))
theorem cut_from {l : List Int} {k : Nat} (h : k < l.length) : cutV (l.map V.int) (some (k : Int)) none = (l.drop k).map V.int := by
  unfold cutV
  rw [HT.sIx_none, List.length_map]
  have e : HT.sIx l.length 0 (some (k : Int)) = k := by
    show (if (k : Int) < 0 then ((k : Int) + (l.length : Int)).toNat else min ((k : Int)).toNat l.length) = k
    rw [if_neg (by omega)]
    omega
  rw [e, List.take_of_length_le (by rw [List.length_drop, List.length_map]; omega), List.map_drop]
theorem cut_to {l : List Int} {k : Nat} (h : k < l.length) : cutV (l.map V.int) none (some (k : Int)) = (l.take k).map V.int := by
  unfold cutV
  rw [HT.sIx_none, List.length_map]
  have e : HT.sIx l.length l.length (some (k : Int)) = k := by
    show (if (k : Int) < 0 then ((k : Int) + (l.length : Int)).toNat else min ((k : Int)).toNat l.length) = k
    rw [if_neg (by omega)]
    omega
  rw [e, List.drop_zero, Nat.sub_zero, List.map_take]
end
/-! ### turned about -/
def rot (k : Nat) (l : List Int) : List Int := l.drop k ++ l.take k
theorem rot_len (k : Nat) (l : List Int) : (rot k l).length = l.length := by
  unfold rot
  rw [List.length_append, List.length_drop, List.length_take]
  omega
theorem rot_map (k : Nat) (f : Int → Int) (l : List Int) : (rot k l).map f = rot k (l.map f) := by
  unfold rot
  rw [List.map_append, List.map_drop, List.map_take]
theorem rot_sum (k : Nat) (l : List Int) : (rot k l).sum = l.sum := by
  unfold rot
  rw [List.sum_append, Int.add_comm, ← List.sum_append, List.take_append_drop]
theorem rot_mem {k : Nat} {l : List Int} {x : Int} (h : x ∈ rot k l) : x ∈ l := by
  unfold rot at h
  rcases List.mem_append.mp h with h | h
  · exact List.mem_of_mem_drop h
  · exact List.mem_of_mem_take h
theorem rot_inj {k : Nat} {a b : List Int} (hl : a.length = b.length) (h : rot k a = rot k b) : a = b := by
  unfold rot at h
  obtain ⟨h1, h2⟩ := List.append_inj h (by rw [List.length_drop, List.length_drop, hl])
  rw [← List.take_append_drop k a, ← List.take_append_drop k b, h1, h2]
theorem rot_at {n k c : Nat} {l : List Int} (hl : l.length = n) (hk : k < n) (hc : c < n) : (rot k l).getD c 0 = l.getD ((c + k) % n) 0 := by
  unfold rot
  rw [List.getD_eq_getElem?_getD, List.getD_eq_getElem?_getD]
  by_cases h : c + k < n
  · rw [Nat.mod_eq_of_lt h, List.getElem?_append_left (by rw [List.length_drop]; omega), List.getElem?_drop, Nat.add_comm]
  · have e : (c + k) % n = c + k - n := by
      rw [Nat.mod_eq_sub_mod (by omega), Nat.mod_eq_of_lt (by omega)]
    rw [e, List.getElem?_append_right (by rw [List.length_drop]; omega), List.getElem?_take_of_lt (by rw [List.length_drop]; omega), List.length_drop]
    congr 2
    omega
theorem list_tabD {n : Nat} {l : List Int} (hl : l.length = n) : l = tab n fun c => l.getD c 0 := by
  apply List.ext_getElem?
  intro i
  by_cases hi : i < n
  · rw [tab_at _ hi, List.getD_eq_getElem?_getD, List.getElem?_eq_getElem (by omega)]
    rfl
  · rw [List.getElem?_eq_none (by omega), List.getElem?_eq_none (by rw [tab_len]; omega)]
theorem tab_getD {n i : Nat} (f : Nat → Int) (h : i < n) : (tab n f).getD i 0 = f i := by
  rw [List.getD_eq_getElem?_getD, tab_at f h]
  rfl
theorem rot_tab {n k : Nat} (f : Nat → Int) (hk : k < n) : rot k (tab n f) = tab n fun c => f ((c + k) % n) := by
  refine (list_tabD (n := n) (by rw [rot_len, tab_len])).trans (tab_ext fun c hc => ?_)
  rw [rot_at (tab_len n f) hk hc, tab_getD f (Nat.mod_lt _ (by omega))]
theorem prt_rot {n c k s : Nat} (hs : s < n) : prt n ((c + k) % n) s = (prt n c s + k) % n := by
  unfold prt
  have e1 : (c + k) % n + n - s = (c + k) % n + (n - s) := by omega
  have e2 : c + n - s = c + (n - s) := by omega
  rw [e1, e2, Nat.mod_add_mod, Nat.mod_add_mod]
  congr 1
  omega
theorem rnd_rot {n p k : Nat} {ss : List Nat} {l : List Int} (hl : l.length = n) (hk : k < n) (hs : ∀ s ∈ ss, s < n) : rnd n p ss (rot k l) = rot k (rnd n p ss l) := by
  have h0 : 0 < n := by omega
  show tab n _ = rot k (tab n _)
  rw [rot_tab _ hk]
  refine tab_ext fun c hc => ?_
  have e : ∀ j, j < n → ((rot k l).map (shN p)).getD j 0 = (l.map (shN p)).getD ((j + k) % n) 0 := fun j hj => by
    rw [rot_map, rot_at (by rw [List.length_map]; exact hl) hk hj]
  unfold rndF
  show ((p : Int) - (ss.length : Int)) * ((rot k l).map (shN p)).getD c 0 + (ss.map fun s => ((rot k l).map (shN p)).getD (prt n c s) 0).sum = ((p : Int) - (ss.length : Int)) * (l.map (shN p)).getD ((c + k) % n) 0 + (ss.map fun s => (l.map (shN p)).getD (prt n ((c + k) % n) s) 0).sum
  rw [e c hc]
  congr 2
  refine List.map_congr_left fun s h => ?_
  rw [e _ (prt_lt h0), prt_rot (hs s h)]
/-! ### more for all -/
theorem fill_up_more {p : Nat} (x m : Int) : fillN p (x + (p : Int) * m) = fillN p x + (p : Int) * m := by
  unfold fillN
  have e : -(x + (p : Int) * m) = -x + (p : Int) * (-m) := by rw [Int.mul_neg]; omega
  rw [e, Int.add_mul_emod_self_left]
  omega
theorem sh_more {p : Nat} (hp : 0 < p) (x m : Int) : shN p (x + (p : Int) * m) = shN p x + m := by
  unfold shN
  rw [fill_up_more, Int.add_mul_ediv_left _ _ (by omega)]
theorem sum_more (l : List Nat) (f : Nat → Int) (m : Int) : (l.map fun s => f s + m).sum = (l.map f).sum + (l.length : Int) * m := by
  induction l with
  | nil => simp
  | cons a l ih =>
    rw [List.map_cons, List.sum_cons, ih, List.map_cons, List.sum_cons, List.length_cons, Int.natCast_add, Int.add_mul]
    omega
theorem rnd_more {n p : Nat} {ss : List Nat} {l : List Int} (hp : 0 < p) (hl : l.length = n) (m : Int) : rnd n p ss (l.map (· + (p : Int) * m)) = (rnd n p ss l).map (· + (p : Int) * m) := by
  show tab n _ = (tab n _).map _
  have e0 : ∀ f : Nat → Int, (tab n f).map (· + (p : Int) * m) = tab n fun c => f c + (p : Int) * m := fun f => by
    unfold tab
    rw [List.map_map]
    rfl
  rw [e0]
  refine tab_ext fun c hc => ?_
  have h0 : 0 < n := by omega
  have e : ∀ j, j < n → ((l.map (· + (p : Int) * m)).map (shN p)).getD j 0 = (l.map (shN p)).getD j 0 + m := fun j hj => by
    rw [List.map_map, List.getD_eq_getElem?_getD, List.getD_eq_getElem?_getD, List.getElem?_map, List.getElem?_map, List.getElem?_eq_getElem (by omega)]
    exact sh_more hp _ m
  unfold rndF
  show ((p : Int) - (ss.length : Int)) * ((l.map (· + (p : Int) * m)).map (shN p)).getD c 0 + (ss.map fun s => ((l.map (· + (p : Int) * m)).map (shN p)).getD (prt n c s) 0).sum = ((p : Int) - (ss.length : Int)) * (l.map (shN p)).getD c 0 + (ss.map fun s => (l.map (shN p)).getD (prt n c s) 0).sum + (p : Int) * m
  have e2 : (ss.map fun s => ((l.map (· + (p : Int) * m)).map (shN p)).getD (prt n c s) 0) = ss.map fun s => (l.map (shN p)).getD (prt n c s) 0 + m := List.map_congr_left fun s _ => e _ (prt_lt h0)
  rw [e c hc, e2, sum_more ss (fun s => (l.map (shN p)).getD (prt n c s) 0)]
  generalize (l.map (shN p)).getD c 0 = a
  generalize (ss.map fun s => (l.map (shN p)).getD (prt n c s) 0).sum = b
  generalize (ss.length : Int) = q
  rw [Int.mul_add, Int.sub_mul _ _ m]
  omega
theorem more_sum (l : List Int) (c : Int) : (l.map (· + c)).sum = l.sum + (l.length : Int) * c := by
  induction l with
  | nil => simp
  | cons a l ih =>
    rw [List.map_cons, List.sum_cons, ih, List.sum_cons, List.length_cons, Int.natCast_add, Int.add_mul]
    omega
theorem more_inj {c : Int} {a b : List Int} (h : a.map (· + c) = b.map (· + c)) : a = b :=
  (List.map_inj_right fun x y e => by have : x + c = y + c := e; omega).mp h
theorem fill_twice {p : Nat} (hp : 0 < p) (x : Int) : fillN p (fillN p x) = fillN p x := by
  have h := fill_mul hp x
  have e := fill_up_more (p := p) 0 (shN p x)
  have z : fillN p 0 = 0 := by unfold fillN; simp
  rw [z, Int.zero_add, ← h] at e
  exact e
end Sw
set_option maxRecDepth 100000
set_option maxHeartbeats 4000000
/-! Own errors with one field: raised, caught by several clauses (each with or without a name), calls that may raise. -/
namespace SwV
open PySem PySem.Spec PyProof.Rows L2
/-! ### an own error with one field, set by its __init__ -/
def tMkF (C : Addr) (fld : Str) (ta : TA) : L2.St → Hp → XK → Prop := fun σ H Q => ta σ H fun vs H1 => ∃ v, vs = [v] ∧ ∀ d, H1 d = none → Q (.ref C) (some d) (upd H1 d (.xd [(fld, v)]))
def spIniF (C : Addr) (fld : Str) : Sp := fun vs H Q _ => ∃ (a : Addr) (v : V), vs = [.ref a, v] ∧ H a = some (exo a C none) ∧ ∀ dx, H dx = none → dx ≠ a → Q .non (upd (upd H dx (exd dx [(fld, v)])) a (exo a C (some dx)))
structure ExF (P : Program) (w : World) (K : PySem.W.Frag) (mg : Str → Option Value) (base : Heap) (nm : Str) (C : Addr) (fld : Str) : Prop where
  o : OexC K C
  x : XfC K C
  no : PySem.W.findIn K (.ref C) fld = some none
  g : mg nm = some (.ref C)
  e : PySem.W.exmOne K (.ref C) (.ref C) = some true
  ini : ∃ (fI : Addr) (fd : FuncData) (ps : List Str), PySem.W.findIn K (.ref C) "__init__" = some (some (.ref fI)) ∧ PySem.W.typeIn K (.ref fI) = some (.type "function") ∧ FnOk P w K mg base L2.CX0 1 fI fd ps (spIniF C fld) ∧ Binds K fd ps []
/-- the reading of arguments with the wish fixed -/
def fixA (σ0 : L2.St) (H0 : Hp) (R : List V → Hp → Prop) (q : Prop) : TA := fun σ H Q => σ = σ0 ∧ H = H0 ∧ q ∧ ∀ vs H1, R vs H1 → Q vs H1
theorem pa_fix {X : Cx} {es : List Expr} {ta : TA} (h : PA X es ta) {σ0 : L2.St} {H0 : Hp} {R : List V → Hp → Prop} : PA X es (fixA σ0 H0 R (ta σ0 H0 R)) :=
  ⟨fun pos pins s σ H Q I ⟨e1, e2, q, k⟩ => by
    subst e1 e2
    exact thn (h.run pos pins s σ H R I q) fun us s1 ⟨vs, H1, I1, r, z⟩ => ⟨vs, H1, I1, r, k _ _ z⟩⟩
theorem pmk_exf {X : Cx} {x fld : Str} {C : Addr} {j : Nat} {e : Expr} {ta : TA} {p pos : Pos} (T : ExF X.prog X.w X.K X.mg X.base x C fld) (hr : Room j X.A) (hj : 2 ≤ j) (hg : Gl X x) (ha : PA X [e] ta)
    (hdb : (x == ("__debug__" : Str)) = false := by decide) (he : starEach [e] X.env = (false, eval e X.env) :: starEach [] X.env := by rfl) (hpl : (backTo pos (starEach [] X.env)).any (·.1) = false := by rfl) :
    PMk X (.Call (.Name x p) [e] [] pos) (tMkF C fld ta) := by
  intro pins s σ H Q I h
  obtain ⟨fI, fd, ps, iC, tI, F1, hb⟩ := T.ini
  refine pmk_oex T.o iC tI F1 (hr.mono hj) hb .nil pass0 hg T.g (pa_fix ha (σ0 := σ) (H0 := H) (R := fun vs H1 => ∃ v, vs = [v] ∧ ∀ d, H1 d = none → Q (.ref C) (some d) (upd H1 d (.xd [(fld, v)])))) hdb he hpl pins s σ H Q I ⟨rfl, rfl, h, ?_⟩
  rintro vs H1 ⟨v, rfl, q⟩
  refine ⟨by show 1 ≤ 1000; decide, fun a na => ?_⟩
  refine ⟨a, v, rfl, upd_same, fun dx nd ne => ⟨rfl, dx, [(fld, v)], upd_same, ?_, ?_, ?_⟩⟩
  · rw [upd_ne ne]
    exact upd_same
  · rw [upd_ne ne] at nd
    exact nd
  · rw [upd_ne ne] at nd
    have e : upd (del (upd (upd (upd H1 a (exo a C none)) dx (exd dx [(fld, v)])) a (exo a C (some dx))) a) dx (.xd [(fld, v)]) = upd H1 dx (.xd [(fld, v)]) := by
      funext b
      by_cases h1 : b = dx
      · subst h1
        rw [upd_same, upd_same]
      · rw [upd_ne h1, upd_ne h1]
        by_cases h2 : b = a
        · subst h2
          rw [del_same, na]
        · rw [del_ne h2, upd_ne h2, upd_ne h1, upd_ne h2]
    rw [e]
    exact q dx nd
/-! ### calls that may raise -/
section
variable {X : Cx} {k j : Nat} {x m : Str} {C f : Addr} {fd : FuncData} {ps : List Str} {sp : Sp} {dvs : List V} {ds : List Value} {p pos apos : Pos} {e o : Expr} {es : List Expr} {ta : TE} {t : TA} {W : WX}
structure CalX (P : Program) (w : World) (K : PySem.W.Frag) (mg : Str → Option Value) (base : Heap) (k : Nat) (x : Str) (sp : Sp) (dvs : List V) : Prop where
  ex : ∃ (f : Addr) (fd : FuncData) (ps : List Str) (ds : List Value), FnOk P w K mg base (L2.CX P w) k f fd ps sp ∧ mg x = some (.ref f) ∧ PySem.W.keepIn K (.ref f) = true ∧ Binds K fd ps ds ∧ Vals dvs ds
structure MetX (P : Program) (w : World) (K : PySem.W.Frag) (mg : Str → Option Value) (base : Heap) (k : Nat) (C : Addr) (m : Str) (sp : Sp) (dvs : List V) : Prop where
  ex : ∃ (f : Addr) (fd : FuncData) (ps : List Str) (ds : List Value), Cls K C ∧ Meth K C m f ∧ FnOk P w K mg base (L2.CX P w) k f fd ps sp ∧ Binds K fd ps ds ∧ Vals dvs ds
structure MakX (P : Program) (w : World) (K : PySem.W.Frag) (mg : Str → Option Value) (base : Heap) (k : Nat) (x : Str) (C : Addr) (sp : Sp) (dvs : List V) : Prop where
  ex : ∃ (f : Addr) (fd : FuncData) (ps : List Str) (ds : List Value), Mk K C f ∧ FnOk P w K mg base (L2.CX P w) k f fd ps sp ∧ mg x = some (.ref C) ∧ Binds K fd ps ds ∧ Vals dvs ds
/-- a def's body, run where it may raise -/
theorem runX {pins : List (Addr × Obj)} {σ : L2.St} {H : Hp} {s : Shared} {Q : VK} {us : List Value} {vs : List V} (G : FnOk X.prog X.w X.K X.mg X.base (L2.CX X.prog X.w) k f fd ps sp) (hr : Room k X.A) (hb : Binds X.K fd ps ds) (hd : Vals dvs ds)
    (tk : Takes X W) (I : Inv X pins σ H s) (r : Vals vs us) (q : sp (vs ++ dvs) H Q (WE W σ)) : wpAny (model X.prog X.w) X.A (call (.ref f) us) (EP X pins σ Q) X.xe s := by
  have rd := r.append hd
  have n : (us ++ ds).length = ps.length := rd.length.symm.trans (G.len _ _ _ _ q)
  refine wpAny_call (codeAny_mono (G.run X.A X.stack s H ⟨us, []⟩ _ _ Q (WE W σ) hr I.env0 (hb s us I.kIn n) rd q) ?_)
  rintro (z | (_ | _ | _ | u)) s' hz
  · exact passAt tk σ pins H s z s' I hz
  · exact False.elim hz
  · exact False.elim hz
  · exact False.elim hz
  · exact I.after hz
/-- .. a class made -/
theorem makX {pins : List (Addr × Obj)} {σ : L2.St} {H : Hp} {s : Shared} {Q : VK} {us : List Value} {vs : List V} (M : Mk X.K C f) (G : FnOk X.prog X.w X.K X.mg X.base (L2.CX X.prog X.w) k f fd ps sp) (hr : Room (k + 1) X.A) (hb : Binds X.K fd ps ds) (hd : Vals dvs ds)
    (tk : Takes X W) (I : Inv X pins σ H s) (r : Vals vs us) (q : ∀ y dy, H y = none → H dy = none → dy ≠ y → sp (.ref y :: (vs ++ dvs)) (upd (upd H dy (.own y)) y (.ins C dy [])) (fun v H2 => v = .non ∧ Q (.ref y) H2) (WE W σ)) :
    wpAny (model X.prog X.w) X.A (call (.ref C) us) (EP X pins σ Q) X.xe s := by
  have f0 : H s.heap.objs.size = none := I.hok.fresh (Nat.le_refl _)
  have f1 : H (s.heap.objs.size + 1) = none := I.hok.fresh (Nat.le_succ _)
  have qq := q _ _ f1 f0 (Nat.ne_of_lt (Nat.lt_succ_self _))
  have J := Inv.made (C := C) I
  have rd : Vals (V.ref (s.heap.objs.size + 1) :: (vs ++ dvs)) (Value.ref (s.heap.objs.size + 1) :: us ++ ds) := .cons rfl (r.append hd)
  have n : (Value.ref (s.heap.objs.size + 1) :: us ++ ds).length = ps.length := rd.length.symm.trans (G.len _ _ _ _ qq)
  refine wpAny_call (make_map (f := f) I.kIn M.makes M.init (beq_iff_eq.mp M.fn) (codeAny_mono (G.run _ X.stack _ _ ⟨.ref (s.heap.objs.size + 1) :: us, []⟩ _ _ _ (WE W σ) (hr.make C us []) (J.env0.make C us []) (hb _ (Value.ref (s.heap.objs.size + 1) :: us) J.kIn n) rd qq) ?_))
  rintro (z | (_ | _ | _ | u)) s' hz
  · exact passAt tk σ pins _ _ z s' J hz
  · exact False.elim hz
  · exact False.elim hz
  · exact False.elim hz
  · obtain ⟨v, H', J', rv, ev, q3⟩ := J.after hz
    subst ev
    exact ⟨rv, ⟨V.ref (s.heap.objs.size + 1), H', J', rfl, q3⟩⟩
theorem pe_cx (c : CalX X.prog X.w X.K X.mg X.base k x sp dvs) (hr : Room j X.A) (hk : k ≤ j) (hg : Gl X x) (tk : Takes X W) (ha : PA X (e :: es) t)
    (hdb : (x == ("__debug__" : Str)) = false := by decide) (he : starEach (e :: es) X.env = (false, eval e X.env) :: starEach es X.env := by rfl) (hpl : (backTo pos (starEach es X.env)).any (·.1) = false := by rfl) :
    PE X (.Call (.Name x p) (e :: es) [] pos) (fun σ H Q => t σ H fun vs H1 => sp (vs ++ dvs) H1 Q (WE W σ)) := by
  obtain ⟨f, fd, ps, ds, G, hm, kp, b, d⟩ := c.ex
  exact ⟨fun pins s σ H Q I h => wpAny_Call_Name_kw (ld_glob I hg hm (PySem.W.callWith_K (h₀ := X.base) I.ok.mod.kin kp (thn (ha.run pos pins s σ H _ I h) fun us s1 ⟨vs, H1, I1, r, q⟩ => ⟨I1.kIn, runX G (hr.mono hk) b d tk I1 r q⟩) he hpl) hdb)⟩
theorem pe_mkx (c : MakX X.prog X.w X.K X.mg X.base k x C sp dvs) (hr : Room j X.A) (hk : k + 1 ≤ j) (hg : Gl X x) (tk : Takes X W) (ha : PA X (e :: es) t)
    (hdb : (x == ("__debug__" : Str)) = false := by decide) (he : starEach (e :: es) X.env = (false, eval e X.env) :: starEach es X.env := by rfl) (hpl : (backTo pos (starEach es X.env)).any (·.1) = false := by rfl) :
    PE X (.Call (.Name x p) (e :: es) [] pos) (fun σ H Q => t σ H fun vs H1 => ∀ y dy, H1 y = none → H1 dy = none → dy ≠ y → sp (.ref y :: (vs ++ dvs)) (upd (upd H1 dy (.own y)) y (.ins C dy [])) (fun v H2 => v = .non ∧ Q (.ref y) H2) (WE W σ)) := by
  obtain ⟨f, fd, ps, ds, M, G, hm, b, d⟩ := c.ex
  exact ⟨fun pins s σ H Q I h => wpAny_Call_Name_kw (ld_glob I hg hm (PySem.W.callWith_K (h₀ := X.base) I.ok.mod.kin M.kp (thn (ha.run pos pins s σ H _ I h) fun us s1 ⟨vs, H1, I1, r, q⟩ => ⟨I1.kIn, makX M G (hr.mono hk) b d tk I1 r q⟩) he hpl) hdb)⟩
theorem pe_mtx {pl : Sem Bool} (c : MetX X.prog X.w X.K X.mg X.base k C m sp dvs) (hr : Room j X.A) (hk : k ≤ j) (tk : Takes X W) (hv : PE X o ta) (ha : PA X (e :: es) t)
    (hst : starEach (e :: es) X.env = (false, eval e X.env) :: starEach es X.env := by rfl) (hpl : (backTo pos (starEach es X.env)).any (·.1) = false := by rfl)
    (ht : eval (.Call (.Attribute o m apos) (e :: es) [] pos) X.env = (eval o X.env >>= fun ov => standAt apos.atName >>= fun _ => holding [ov] (getMethod ov m pl) >>= fun g => callWith pos g.1 g.2 (backTo pos (starEach (e :: es) X.env)) (backToKw pos (keywordEach [] X.env))) := by rfl) :
    PE X (.Call (.Attribute o m apos) (e :: es) [] pos) (fun σ H Q => ta σ H fun y H1 => ∃ a dy fs, y = .ref a ∧ H1 a = some (.ins C dy fs) ∧ fs.lookup m = none ∧ t σ H1 fun vs H2 => sp (.ref a :: (vs ++ dvs)) H2 Q (WE W σ)) := by
  obtain ⟨f, fd, ps, ds, cl, hm, G, b, d⟩ := c.ex
  refine ⟨fun pins s σ H Q I h => PySem.W.methodCall_KW (pl := pl) (thn (hv.run pins s σ H _ I h) ?_) ht⟩
  rintro u s1 ⟨y, H1, I1, ry, a, dy, fs, rfl, ea, l, q⟩
  obtain rfl : u = Value.ref a := ry
  exact getmeth_ok I1 ea cl hm l (PySem.W.callWith_K (first := [.ref a]) (h₀ := X.base) I.ok.mod.kin hm.kp (thn (ha.run pos pins s1 σ H1 _ I1 q) fun us s2 ⟨vs, H2, I2, r, q2⟩ => ⟨I2.kIn, runX (us := .ref a :: us) (vs := .ref a :: vs) G (hr.mono hk) b d tk I2 (.cons rfl r) q2⟩) hst hpl)
end
/-! ### several except clauses, each with a name or without -/
abbrev Clause := Value × Option Nat × (Addr → Value → Option Addr → TS)
/-- behind a suite the slot of its name is empty -/
def noSlot (D : Ends) (i : Nat) : Ends := { nx := fun σ H => D.nx (σ.set i none) H, rt := D.rt, bk := fun σ H => D.bk (σ.set i none) H, ct := fun σ H => D.ct (σ.set i none) H }
def wMix (K : PySem.W.Frag) (Wout : WX) (D : Ends) : List Clause → WX
  | [] => Wout
  | (c, none, ts) :: r => fun cls d σ H => ∃ b, PySem.W.exmOne K cls c = some b ∧ (b = true → ∀ a, H a = none → ts a cls d D σ H) ∧ (b = false → wMix K Wout D r cls d σ H)
  | (c, some i, ts) :: r => fun cls d σ H => ∃ b, PySem.W.exmOne K cls c = some b ∧ (b = true → ∀ a, H a = none → ts a cls d (noSlot D i) (σ.set i (some (.ref a))) H) ∧ (b = false → wMix K Wout D r cls d σ H)
/-- a suite does what its reading says, whatever error it holds -/
def SuiteOk (X : Cx) (st : List Stmt) (ts : Addr → Value → Option Addr → TS) : Prop := ∀ (a : Addr) (oe : Obj) (cls : Value) (d : Option Addr) (pn : List (Addr × Obj)), Zc cls d oe → (∃ fv, oe.data = .fields fv) → PSs (X.suite a ((a, oe) :: pn)) st (ts a cls d)
inductive HdX (X : Cx) : List ExceptHandler → List Clause → Prop
  | nil : HdX X [] []
  | plain {x : Str} {c : Value} {ts : Addr → Value → Option Addr → TS} {b0 : Stmt} {bs : List Stmt} {p1 p2 : Pos} {hs : List ExceptHandler} {l : List Clause} (hc : Names X x c) (su : SuiteOk X (b0 :: bs) ts) (r : HdX X hs l) :
      HdX X (.ExceptHandler (some (.Name x p1)) none (b0 :: bs) p2 :: hs) ((c, none, ts) :: l)
  | named {x n : Str} {i : Nat} {c : Value} {ts : Addr → Value → Option Addr → TS} {b0 : Stmt} {bs : List Stmt} {p1 p2 : Pos} {hs : List ExceptHandler} {l : List Clause} (hc : Names X x c) (hN : X.N.Nodup) (hi : X.N[i]? = some n) (hl : X.env.kindOf n = some .local)
      (su : SuiteOk X (b0 :: bs) ts) (r : HdX X hs l) : HdX X (.ExceptHandler (some (.Name x p1)) (some n) (b0 :: bs) p2 :: hs) ((c, some i, ts) :: l)
section
variable {X : Cx} {body : List Stmt} {h0 : ExceptHandler} {hs : List ExceptHandler} {l : List Clause} {pos : Pos} {tb : WX → TS} {Wout : WX}
theorem ps_try_mix (hst : X.stack = X.env :: X.outer) (hfm : X.env.frame = some X.env.locals) (tk : Takes X Wout)
    (hb : ∀ (W : WX) (pn : List (Addr × Obj)) (xe : Value → Shared → Prop), Takes (X.tr pn xe) W → PassesOwn (model X.prog X.w) X.A X.env xe → PSs (X.tr pn xe) body (tb W)) (hh : HdX X (h0 :: hs) l) :
    PS X (.Try body (h0 :: hs) [] [] pos) (fun D σ H => tb (wMix X.K Wout D l) D σ H) := by
  constructor
  intro pins s σ H D I h
  have fr : X.A.frames = some (X.env :: X.outer) := I.ok.frames.trans (congrArg some hst)
  -- what the body leaves by itself
  have quiet : ∀ (f : Flow) (s1 : Shared), SP (X.tr (X.pn ++ pins) (fun e s₁ => wpAny (model X.prog X.w) X.A (noteFrame e X.env) (fun _ s₂ => wpAny (model X.prog X.w) X.A (setFlight e none) (fun _ s₃ => wpAny (model X.prog X.w) X.A (handleBy e X.env (h0 :: hs)) (SP X pins D) X.xe s₃) X.xe s₂) X.xe s₁)) [] D f s1 →
      SP X pins D f s1 := by
    rintro (_ | _ | _ | u) s1 z
    iterate 3
      · obtain ⟨σ1, H1, J, q⟩ := z
        exact ⟨σ1, H1, J.ofTry I.ok, q⟩
    obtain ⟨v, σ1, H1, J, r, q⟩ := z
    exact ⟨v, σ1, H1, J.ofTry I.ok, r, q⟩
  refine wpAny_Try_except (wpAny_mono ((hb (wMix X.K Wout D l) (X.pn ++ pins) _ (fun u s1 xx => ?_) PassesOwn.looking).run [] s σ H D (I.toTry _) h) ?_ fun _ _ he => he)
  · obtain ⟨a, B, s0, pn', σ1, H1, cls, d, rfl, J0, nb, up, sky, na, os, ag, wish⟩ := xx
    have J : Inv X pins σ1 H1 s0 := J0.ofTry I.ok
    rw [show (X.tr (X.pn ++ pins) _).stack = X.env :: X.outer from hst] at sky
    refine Sky.land Zc.steady fr hfm sky fun g3 fly up3 => ?_
    have J3 : Inv X pins σ1 H1 { s1 with heap := g3 } := J.landed nb fly.1 (up.trans up3) os ag
    obtain ⟨o3, v3, ho3, hz3, hd3⟩ := fly.there
    have off : a ∉ frs (X.env :: X.outer) := fun hm => by
      obtain ⟨_, o', ho', hn⟩ := fly.2.2.1.mem hm
      rw [ho3] at ho'
      cases ho'
      exact hn _ hd3
    have offL : a ≠ X.env.locals := fun z => off (List.mem_filterMap.mpr ⟨X.env, List.mem_cons_self, hfm.trans (congrArg some z.symm)⟩)
    have offF : a ∉ X.fs := fun hm => by
      obtain ⟨e1, he1, q1⟩ := List.mem_filterMap.mp hm
      exact off (List.mem_filterMap.mpr ⟨e1, List.mem_cons_of_mem _ he1, q1⟩)
    have S3 := J3.suite ho3 hd3 na offL offF
    -- the class's name is read
    have name : ∀ {x : Str} {c : Value} {np : Pos} {Q : Value → Shared → Prop} {E : Value → Shared → Prop}, Names X x c → Q c { s1 with heap := g3 } → wpAny (model X.prog X.w) (X.A.mark (some (.ref a))) (eval (.Name x np) X.env) Q E { s1 with heap := g3 } := by
      rintro x c np Q E ⟨gl, nd, m1 | ⟨m0, bb, nn⟩⟩ q
      · exact ld_glob (X := X.suite a ((a, o3) :: (X.pn ++ pins))) S3 gl m1 q nd
      · exact ld_blt (X := X.suite a ((a, o3) :: (X.pn ++ pins))) S3 gl m0 bb q nn nd
    have LT : PySem.W.Looks (model X.prog X.w) g3 (typeOf (.ref a)) cls := fun _ _ _ _ k q => wpAny_typeOf_ref (k _ _ ho3) (by rw [hz3.1]; exact q)
    have go : ∀ {hs' : List ExceptHandler} {l' : List Clause}, HdX X hs' l' → wMix X.K Wout D l' cls d σ1 H1 → wpAny (model X.prog X.w) X.A (handleBy (.ref a) X.env hs') (SP X pins D) X.xe { s1 with heap := g3 } := by
      intro hs' l' hk
      induction hk with
      | nil =>
        intro w
        obtain ⟨-, -, -, oe, vs, T, oT, ts', he, hz, hd, h1, -⟩ := id fly
        refine wpAny_handleBy_nil ?_
        have out : wpAny (model X.prog X.w) X.A (setFlight (.ref a) X.env.frame) (fun _ s4 => wpAny (model X.prog X.w) X.A (throw (.ref a) : Sem Flow) (SP X pins D) X.xe s4) X.xe { s1 with heap := g3 } := by
          rw [hfm]
          exact HandSPX.setFlight_upZ fly fun g4 hh4 up4 => wpAny_throw (tk _ _ ⟨a, B, s0, pins, σ1, H1, cls, d, rfl, J, nb, (up.trans up3).trans up4, .inr (.inr (hst ▸ hh4)), na, os, ag, w⟩)
        unfold PySem.passOn
        refine wpAny_bind (wpAny_field he hd h1 ?_)
        rw [if_neg (show ¬ ((Value.ref T == Value.none) = true) from by simp)]
        first
          | exact wpAny_bind (wpAny_pure (wpAny_bind out))
          | exact wpAny_bind out
      | plain hc su r ih =>
        rintro ⟨b, hb1, yes, no⟩
        refine wpAny_handleBy_cons (codeAny_handlers_test (name hc ((PySem.W.exm_one (M := model X.prog X.w) J3.kIn LT hb1).here ?_))) (by intro q; cases q)
        cases b with
        | false => exact ih (no rfl)
        | true =>
          refine codeAny_handlers_suite (HandSPX.lands_againZ fly fun g4 fly4 up4 => ?_)
          have J4 : Inv X pins σ1 H1 { s1 with heap := g4 } := J.landed nb fly4.1 ((up.trans up3).trans up4) os ag
          obtain ⟨o4, v4, ho4, hz4, hd4⟩ := fly4.there
          refine wpAny_mono ((su a o4 cls d (X.pn ++ pins) hz4 ⟨_, hd4⟩).run [] _ _ H1 _ (J4.suite ho4 hd4 na offL offF) (yes rfl a na)) ?_ (fun _ _ z => z.elim)
          rintro (_ | _ | _ | u) s6 z
          iterate 3
            · obtain ⟨σ6, H6, S6, q6⟩ := z
              exact ⟨_, _, S6.unsuite I.ok, q6⟩
          obtain ⟨v6, σ6, H6, S6, r6, q6⟩ := z
          exact ⟨_, _, _, S6.unsuite I.ok, r6, q6⟩
      | named hc hN hi hl su r ih =>
        rintro ⟨b, hb1, yes, no⟩
        refine wpAny_handleBy_cons (codeAny_handlers_test (name hc ((PySem.W.exm_one (M := model X.prog X.w) J3.kIn LT hb1).here ?_))) (by intro q; cases q)
        cases b with
        | false => exact ih (no rfl)
        | true =>
          refine codeAny_handlers_suite_as (HandSPX.lands_againZ fly fun g4 fly4 up4 => ?_)
          have J4 : Inv X pins σ1 H1 { s1 with heap := g4 } := J.landed nb fly4.1 ((up.trans up3).trans up4) os ag
          obtain ⟨o4, v4, ho4, hz4, hd4⟩ := fly4.there
          have S4 := J4.suite ho4 hd4 na offL offF
          refine store_ok (X := X.suite a ((a, o4) :: (X.pn ++ pins))) (v := .ref a) S4 hN hi (.inl hl) rfl (fun s5 S5 => wpAny_mono ((su a o4 cls d (X.pn ++ pins) hz4 ⟨_, hd4⟩).run [] s5 _ H1 _ S5 (yes rfl a na)) ?_ (fun _ _ z => z.elim)) (.inr hl)
          rintro (_ | _ | _ | u) s6 z
          iterate 3
            · obtain ⟨σ6, H6, S6, q6⟩ := z
              exact gone_ok (S6.unsuite I.ok) hN hi hl fun s7 J7 => ⟨_, _, J7, q6⟩
          obtain ⟨v6, σ6, H6, S6, r6, q6⟩ := z
          exact gone_ok (S6.unsuite I.ok) hN hi hl fun s7 J7 => ⟨_, _, _, J7, r6, q6⟩
    exact go hh wish
  · rintro f s1 z
    have y := quiet f s1 z
    cases f with
    | next => exact wpAny_execs_nil y
    | brk => exact y
    | cont => exact y
    | ret u => exact y
end
end SwV
namespace SwV
open PySem PySem.Spec PyProof.Rows L2
/-- a walk over one of two things -/
theorem pi_or {X : Cx} {tg it : Expr} {w1 w2 : TI} (h1 : PI X tg it w1) (h2 : PI X tg it w2) : PI X tg it (fun σ H R => w1 σ H R ∨ w2 σ H R) :=
  ⟨fun pins s σ H R I h => h.elim (h1.run pins s σ H R I) (h2.run pins s σ H R I)⟩
/-- a value read in one of two ways -/
theorem pe_either {X : Cx} {e : Expr} {t1 t2 : TE} (h1 : PE X e t1) (h2 : PE X e t2) : PE X e (fun σ H Q => t1 σ H Q ∨ t2 σ H Q) :=
  ⟨fun pins s σ H Q I h => h.elim (h1.run pins s σ H Q I) (h2.run pins s σ H Q I)⟩
end SwV
theorem SwV.iteNT {c A B : Prop} [Decidable c] (hc : ¬ c) (h : A) : if (!decide c) = true then A else B := by
  rw [decide_eq_false hc]
  exact if_pos rfl ▸ h
/-- what is new may be forgotten -/
theorem Sw.Fr.still {M : PySem.Addr → Prop} {S H S1 H1 : L2.Hp} (f : Sw.Fr M S H S1 H1) : Sw.Fr M S H S H1 := ⟨L2.Same.refl S, f.a.trans f.b, f.c, fun _ _ e => e, f.e⟩
namespace SwV
open PySem PySem.Spec PyProof.Rows L2
/-! ### == by an own __eq__, whatever its answer -/
structure EqO (P : Program) (w : World) (K : PySem.W.Frag) (mg : Str → Option Value) (base : Heap) (n : Nat) (C : Addr) (sp : Sp) : Prop where
  ex : ∃ (f : Addr) (fd : FuncData) (ps : List Str), FnOk P w K mg base L2.CX0 n f fd ps sp ∧ PySem.W.findIn K (.ref C) "__eq__" = some (some (.ref f)) ∧ PySem.W.isFn K (.ref f) = true ∧ Binds K fd ps []
def rEqO (K : PySem.W.Frag) (C : Addr) (sp : Sp) : R2 := fun x y H Q => ∃ a dx fs t, x = .ref a ∧ H a = some (.ins C dx fs) ∧ TyX K H y t ∧ PySem.W.notFirst K C t = true ∧ sp [.ref a, y] H (fun v H' => (∃ b, v = .bl b) ∧ Q v H') (fun _ _ _ => False)
theorem op_eqc {X : Cx} {n j : Nat} {C : Addr} {sp : Sp} (c : EqO X.prog X.w X.K X.mg X.base n C sp) (hr : Room j X.A) (hn : n ≤ j) : OpR X (compareOp .Eq) (rEqO X.K C sp) := by
  intro pins s σ H x y v u Q I rx ry h
  obtain ⟨f, fd, ps, F, hs, hf, hb⟩ := c.ex
  obtain ⟨a, dx, fs, t, rfl, ha, ty, nf, hq⟩ := h
  cases rx
  obtain ⟨mA, J, _⟩ := ins_get I.hok ha
  obtain ⟨od, J, _⟩ := J.look
  obtain ⟨m, hF⟩ := I.fr
  obtain ⟨P, Z, p, -⟩ := kit_of I ry ty
  refine PySem.W.cmp_K (op := .Eq) (tb := t) hr.units0 hF I.ok.mod.kin J (Z.ty _ _ I.kIn p) nf hs hf ?_
  refine wpAny_mono (run_fn (us := [.ref a, u]) (vs := [.ref a, y]) (dvs := []) (ds := []) F (hr.mono hn) hb .nil (L2.pass0 (X := X)) I (.cons rfl (.cons ry .nil)) hq) (fun r s' z => ?_) fun _ _ x => x
  obtain ⟨z, H', I', rz, ⟨b, ez⟩, q⟩ := z
  subst ez
  cases rz
  exact ⟨.bl b, H', I', rfl, q⟩
end SwV
theorem SwV.exm_of {K : PySem.W.Frag} {cls : PySem.Value} {S : PySem.Addr} {b : Bool} (h1 : PySem.W.subIn K (.ref S) (.type "BaseException") = some true) (h2 : PySem.W.isClsIn K S = true) (h3 : PySem.W.typeIn K (.ref S) = some (.type "type")) (h4 : PySem.W.subIn K cls (.ref S) = some b) :
    PySem.W.exmOne K cls (.ref S) = some b := by
  have e1 : (PySem.W.subIn K (.ref S) (.type "BaseException") == some true) = true := by rw [h1] <;> rfl
  have h2' : (PySem.W.clsIn K S).isSome = true := h2
  have e2 : ((PySem.W.clsIn K S).isSome && PySem.W.typeIn K (.ref S) == some (.type "type")) = true := by rw [h2', h3] <;> rfl
  show (if _ then (if _ then _ else none) else none) = some b
  rw [if_pos e1, if_pos e2]
  exact h4
namespace SwU
open PySem PySem.Spec PyProof.Rows L2
/-- the signs of a text -/
def signs (x : Str) : List V := x.cps.toList.map fun c => .str ⟨#[c]⟩
theorem vals_signs {x : Str} {t : Tok} {acc : Array Value} (h : ItemsOf (SignAt x) acc x.cps.size) : Vals (signs x) acc.toList := by
  unfold signs
  refine vals_of_at ?_ fun j y u h1 h2 => ?_
  · rw [List.length_map, Array.length_toList, Array.length_toList]
    exact h.1.symm
  · rw [List.getElem?_map, Array.getElem?_toList] at h1
    rw [Array.getElem?_toList] at h2
    cases e : x.cps[j]? with
    | none => rw [e] at h1; cases h1
    | some c =>
      rw [e] at h1
      have e1 := (Option.some.inj h1).symm
      subst e1
      obtain ⟨c', t', e2, rfl⟩ := h.2 j u h2
      rw [e] at e2
      have e3 := (Option.some.inj e2).symm
      subst e3
      exact ⟨t', rfl⟩
theorem call_list_str {X : Cx} (hcalm : X.calm = true) : CallR X (.type "list") (fun xs H Q => ∃ x, xs = [.str x] ∧ x.length ≤ 1000 ∧ ∀ l, H l = none → Q (.ref l) (upd H l (.lst (signs x)))) := by
  intro pins s σ H xs us Q I r h
  obtain ⟨x, rfl, hx, q⟩ := h
  obtain ⟨u, rfl, t, rfl⟩ := vals1 r
  have hz : x.cps.size ≤ sizeLine := Nat.le_trans (show x.cps.size ≤ 1000 from hx) (by decide)
  refine PySem.call_list_str (I.ok.hd hcalm) x t (fun h' tk acc c' hk e' hi => ?_) hz
  refine ⟨.ref s.heap.objs.size, upd H s.heap.objs.size (.lst (signs x)), I.laid hk (Nat.le_refl _) (show ObjOk X.prog X.w _ _ _ (.lst (signs x)) from ⟨?_, acc.toList, c', vals_signs (t := t) hi, ?_⟩), rfl, q _ (I.hok.fresh (Nat.le_refl _))⟩
  · unfold signs
    rw [List.length_map, Array.length_toList]
    exact hz
  · rw [Array.toArray_toList]; exact e'
/-! ### the words of a text, joined again -/
theorem join_cons {sep p : List Nat} : ∀ {r : List (List Nat)}, r ≠ [] → TL.joinL sep (p :: r) = p ++ (sep ++ TL.joinL sep r)
  | [], h => absurd rfl h
  | _ :: _, _ => rfl
theorem spl_ne (sep : List Nat) : ∀ (l : List Nat) (k : Nat) (acc : List Nat), TL.spl sep k acc l ≠ []
  | [], k, acc => by rw [TL.spl_nil]; simp
  | c :: r, 0, acc => by
    by_cases h : TL.pre sep (c :: r) = true
    · rw [TL.spl_hit h]; simp
    · rw [TL.spl_miss (Bool.eq_false_iff.mpr h)]
      exact spl_ne sep r 0 (acc ++ [c])
  | c :: r, k + 1, acc => spl_ne sep r k acc
theorem pre1 {s c : Nat} {r : List Nat} : TL.pre [s] (c :: r) = (c == s) := by
  show (([c] : List Nat) == [s]) = _
  simp
theorem join_spl (s : Nat) : ∀ (l acc : List Nat), TL.joinL [s] (TL.spl [s] 0 acc l) = acc ++ l
  | [], acc => by rw [TL.spl_nil, List.append_nil]; rfl
  | c :: r, acc => by
    by_cases h : TL.pre [s] (c :: r) = true
    · rw [TL.spl_hit h, join_cons (spl_ne _ _ _ _)]
      rw [pre1] at h
      have e := eq_of_beq h
      show acc ++ ([s] ++ TL.joinL [s] (TL.spl [s] 0 [] r)) = _
      rw [join_spl s r [], e]
      rfl
    · rw [TL.spl_miss (Bool.eq_false_iff.mpr h), join_spl s r (acc ++ [c]), List.append_assoc]
      rfl
theorem spl_each (s : Nat) : ∀ (l acc : List Nat), ∀ p ∈ TL.spl [s] 0 acc l, p.length ≤ acc.length + l.length ∧ ∀ c ∈ p, c ∈ acc ∨ c ∈ l
  | [], acc => by
    intro p hp
    rw [TL.spl_nil] at hp
    rw [List.mem_singleton.mp hp]
    exact ⟨Nat.le_refl _, fun c hc => .inl hc⟩
  | c :: r, acc => by
    intro p hp
    by_cases h : TL.pre [s] (c :: r) = true
    · rw [TL.spl_hit h] at hp
      rcases List.mem_cons.mp hp with rfl | hp
      · exact ⟨by omega, fun c hc => .inl hc⟩
      · have := spl_each s r [] p hp
        refine ⟨?_, fun d hd => ?_⟩
        · have h1 := this.1
          simp only [List.length_cons, List.length_nil] at h1 ⊢
          omega
        · rcases this.2 d hd with h1 | h1
          · cases h1
          · exact .inr (List.mem_cons_of_mem _ h1)
    · rw [TL.spl_miss (Bool.eq_false_iff.mpr h)] at hp
      have := spl_each s r (acc ++ [c]) p hp
      refine ⟨?_, fun d hd => ?_⟩
      · have h1 := this.1
        simp only [List.length_append, List.length_cons, List.length_nil] at h1 ⊢
        omega
      · rcases this.2 d hd with h1 | h1
        · rcases List.mem_append.mp h1 with h1 | h1
          · exact .inl h1
          · rw [List.mem_singleton.mp h1]; exact .inr (List.mem_cons_self ..)
        · exact .inr (List.mem_cons_of_mem _ h1)
/-! ### lists of texts as data -/
theorem strs_can : ∀ l : List Str, (∀ x ∈ l, PyData.strOk x = true) → PyData.canLayAll0 (l.map .str) = true
  | [], _ => by simp [PyData.canLayAll0]
  | x :: r, h => by
    rw [List.map_cons, PyData.canLayAll0, strs_can r fun y hy => h y (List.mem_cons_of_mem _ hy), PyData.canLay0, h x (List.mem_cons_self ..)]
    rfl
theorem strs_depth : ∀ l : List Str, PyData.depthAll (l.map .str) ≤ 1
  | [] => by simp [PyData.depthAll]
  | _ :: r => by
    have := strs_depth r
    simp only [List.map_cons, PyData.depthAll, PyData.depth]
    omega
def dS (l : List Str) : PyData := .list (l.map .str)
theorem dS_shaped (l : List Str) (hl : ∀ x ∈ l, PyData.strOk x = true) : SeqAt.shaped (dS l) = true := by
  have h := strs_depth l
  simp only [dS, SeqAt.shaped, PyData.canLay0, PyData.depth, strs_can l hl, Bool.true_and, decide_eq_true_eq]
  omega
theorem dS_nil (l : List Str) : PyData.eqv (dS l) (.list []) = l.isEmpty := by
  cases l <;> simp [dS, PyData.eqv, PyData.eqvAll]
end SwU
set_option maxRecDepth 100000
set_option maxHeartbeats 4000000
namespace Sw
open PySem L2
open C8 (pss_cut tCut pe_c pe_mk pe_mt pe_mt0 pe_gc Cal Mak Met InsC call_isC)
def topS (i : Nat) : Stmt := PySem.Challenge.pw_sweetsring_k18_whole_texts_refused.main.body.getD i (.Pass ⟨0, 0, 0, 0⟩)
abbrev s_BadSteps_init : Stmt := inClass (topS 4) 0
theorem sc_BadSteps_init : FnScope ["self", "index"] ["self", "index"] (defScope s_BadSteps_init) := ⟨rfl, rfl, rfl, by decide +kernel, rfl, by decide +kernel, by decide +kernel⟩
abbrev s_BadText_init : Stmt := inClass (topS 5) 0
theorem sc_BadText_init : FnScope ["self", "word"] ["self", "word"] (defScope s_BadText_init) := ⟨rfl, rfl, rfl, by decide +kernel, rfl, by decide +kernel, by decide +kernel⟩
abbrev s_is_whole : Stmt := topS 7
theorem sc_is_whole : FnScope ["value"] ["value"] (defScope s_is_whole) := ⟨rfl, rfl, rfl, by decide +kernel, rfl, by decide +kernel, by decide +kernel⟩
abbrev s_is_between : Stmt := topS 8
theorem sc_is_between : FnScope ["value", "least", "most"] ["value", "least", "most"] (defScope s_is_between) := ⟨rfl, rfl, rfl, by decide +kernel, rfl, by decide +kernel, by decide +kernel⟩
abbrev s_check_steps : Stmt := topS 14
theorem sc_check_steps : FnScope ["children", "parts", "steps", "least", "index", "step"] ["children", "parts", "steps"] (defScope s_check_steps) := ⟨rfl, rfl, rfl, by decide +kernel, rfl, by decide +kernel, by decide +kernel⟩
abbrev s_Game_init : Stmt := inClass (topS 15) 0
theorem sc_Game_init : FnScope ["self", "children", "parts", "steps"] ["self", "children", "parts", "steps"] (defScope s_Game_init) := ⟨rfl, rfl, rfl, by decide +kernel, rfl, by decide +kernel, by decide +kernel⟩
abbrev s_Game_children : Stmt := inClass (topS 15) 1
theorem sc_Game_children : FnScope ["self"] ["self"] (defScope s_Game_children) := ⟨rfl, rfl, rfl, by decide +kernel, rfl, by decide +kernel, by decide +kernel⟩
abbrev s_Game_parts : Stmt := inClass (topS 15) 2
theorem sc_Game_parts : FnScope ["self"] ["self"] (defScope s_Game_parts) := ⟨rfl, rfl, rfl, by decide +kernel, rfl, by decide +kernel, by decide +kernel⟩
abbrev s_Game_steps : Stmt := inClass (topS 15) 3
theorem sc_Game_steps : FnScope ["self"] ["self"] (defScope s_Game_steps) := ⟨rfl, rfl, rfl, by decide +kernel, rfl, by decide +kernel, by decide +kernel⟩
abbrev s_Game_eq : Stmt := inClass (topS 15) 4
theorem sc_Game_eq : FnScope ["self", "other"] ["self", "other"] (defScope s_Game_eq) := ⟨rfl, rfl, rfl, by decide +kernel, rfl, by decide +kernel, by decide +kernel⟩
abbrev s_write : Stmt := topS 19
theorem sc_write : FnScope ["game", "numbers", "number"] ["game"] (defScope s_write) := ⟨rfl, rfl, rfl, by decide +kernel, rfl, by decide +kernel, by decide +kernel⟩
abbrev s_read_number : Stmt := topS 20
theorem sc_read_number : FnScope ["words", "index", "least", "most", "number"] ["words", "index", "least", "most"] (defScope s_read_number) := ⟨rfl, rfl, rfl, by decide +kernel, rfl, by decide +kernel, by decide +kernel⟩
abbrev s_read_steps : Stmt := topS 21
theorem sc_read_steps : FnScope ["words", "children", "parts", "steps", "least", "index", "step"] ["words", "children", "parts"] (defScope s_read_steps) := ⟨rfl, rfl, rfl, by decide +kernel, rfl, by decide +kernel, by decide +kernel⟩
abbrev s_read : Stmt := topS 22
theorem sc_read : FnScope ["text", "words", "children", "parts"] ["text"] (defScope s_read) := ⟨rfl, rfl, rfl, by decide +kernel, rfl, by decide +kernel, by decide +kernel⟩
abbrev s_law_random : Stmt := topS 24
theorem sc_law_random : FnScope ["_law_script", "_law_salt", "_law_seed", "_law_cell"] ["_law_script", "_law_salt"] (defScope s_law_random) := ⟨rfl, rfl, rfl, by decide +kernel, rfl, by decide +kernel, by decide +kernel⟩
abbrev s_law_below : Stmt := topS 25
theorem sc_law_below : FnScope ["_law_d", "_law_size", "_law_result"] ["_law_d", "_law_size"] (defScope s_law_below) := ⟨rfl, rfl, rfl, by decide +kernel, rfl, by decide +kernel, by decide +kernel⟩
abbrev s_law_pick : Stmt := topS 26
theorem sc_law_pick : FnScope ["_law_d", "_law_items"] ["_law_d", "_law_items"] (defScope s_law_pick) := ⟨rfl, rfl, rfl, by decide +kernel, rfl, by decide +kernel, by decide +kernel⟩
abbrev s_law_game : Stmt := topS 27
theorem sc_law_game : FnScope ["_law_d", "_law_most", "_law_children_so", "_law_parts_so", "_law_steps_so", "_law_step"] ["_law_d", "_law_most"] (defScope s_law_game) := ⟨rfl, rfl, rfl, by decide +kernel, rfl, by decide +kernel, by decide +kernel⟩
abbrev s_law_round : Stmt := topS 28
theorem sc_law_round : FnScope ["_law_game_here", "_law_sweets", "_law_number_here", "_law_parts_so", "_law_found", "_law_kept", "_law_child", "_law_step", "_law_other"] ["_law_game_here", "_law_sweets"] (defScope s_law_round) := ⟨rfl, rfl, rfl, by decide +kernel, rfl, by decide +kernel, by decide +kernel⟩
abbrev s_law_rows : Stmt := topS 29
theorem sc_law_rows : FnScope ["_law_game_here", "_law_sweets", "_law_found", "_law_lap", "_law_later"] ["_law_game_here", "_law_sweets"] (defScope s_law_rows) := ⟨rfl, rfl, rfl, by decide +kernel, rfl, by decide +kernel, by decide +kernel⟩
abbrev s_law_number : Stmt := topS 30
theorem sc_law_number : FnScope ["_law_words_so", "_law_at", "_law_low", "_law_high", "_law_word", "_law_sign"] ["_law_words_so", "_law_at", "_law_low", "_law_high"] (defScope s_law_number) := ⟨rfl, rfl, rfl, by decide +kernel, rfl, by decide +kernel, by decide +kernel⟩
abbrev s_law_wrong : Stmt := topS 31
theorem sc_law_wrong : FnScope ["_law_text", "_law_words_so", "_law_children_so", "_law_parts_so", "_law_last", "_law_k", "_law_step"] ["_law_text"] (defScope s_law_wrong) := ⟨rfl, rfl, rfl, by decide +kernel, rfl, by decide +kernel, by decide +kernel⟩
abbrev s_law_spoilt : Stmt := topS 32
theorem sc_law_spoilt : FnScope ["_law_d", "_law_text", "_law_kind", "_law_at", "_law_sign"] ["_law_d", "_law_text"] (defScope s_law_spoilt) := ⟨rfl, rfl, rfl, by decide +kernel, rfl, by decide +kernel, by decide +kernel⟩
abbrev s_law_told : Stmt := topS 33
theorem sc_law_told : FnScope ["_law_text", "_law_found", "e"] ["_law_text"] (defScope s_law_told) := ⟨rfl, rfl, rfl, by decide +kernel, rfl, by decide +kernel, by decide +kernel⟩
abbrev s_law : Stmt := topS 34
theorem sc_law : FnScope ["_law_script", "_law_d", "_law_turn", "_law_game_here", "_law_numbers", "_law_number_here", "_law_text", "_law_due", "_law_odd", "_law_value"] ["_law_script"] (defScope s_law) := ⟨rfl, rfl, rfl, by decide +kernel, rfl, by decide +kernel, by decide +kernel⟩
structure Txt (K : PySem.W.Frag) (mg : Str → Option Value) : Prop where
  z_abs : mg "abs" = none
  z_bool : mg "bool" = none
  z_dict : mg "dict" = none
  z_enumerate : mg "enumerate" = none
  z_int : mg "int" = none
  z_isinstance : mg "isinstance" = none
  z_len : mg "len" = none
  z_list : mg "list" = none
  z_max : mg "max" = none
  z_range : mg "range" = none
  z_str : mg "str" = none
  z_tuple : mg "tuple" = none
  v_LEAST_CHILDREN : ∃ u, mg "LEAST_CHILDREN" = some u ∧ RelV (.int 2) u
  v_MOST_CHILDREN : ∃ u, mg "MOST_CHILDREN" = some u ∧ RelV (.int 12) u
  v_LEAST_PARTS : ∃ u, mg "LEAST_PARTS" = some u ∧ RelV (.int 2) u
  v_MOST_PARTS : ∃ u, mg "MOST_PARTS" = some u ∧ RelV (.int 9) u
  v_FIRST_WORD : ∃ u, mg "FIRST_WORD" = some u ∧ RelV (.str "ring") u
  v_FIRST_STEP : ∃ u, mg "FIRST_STEP" = some u ∧ RelV (.int 3) u
end Sw
set_option maxRecDepth 100000
set_option maxHeartbeats 4000000
namespace Sw
open PySem L2
open C8 (pss_cut tCut pe_c pe_mk pe_mt pe_mt0 pe_gc Cal Mak Met InsC call_isC)
section
variable {P : Program} {w : World} {K : PySem.W.Frag} {mg : Str → Option Value} {base : Heap}
/-- a drawn number from 0 to n - 1; the list at d changes -/
def spBelow : Sp := fun vs H Q _ => ∃ (d : Addr) (n : Int) (S : Hp), vs = [.ref d, .int n] ∧ Same S H ∧ S d = none ∧ DS d H ∧ 0 < n ∧ n < 2 ^ 200 ∧
  ∀ (r : Int) (H' : Hp), 0 ≤ r → r < n → Fr (M1 d) S H S H' → DS d H' → Q (.int r) H'
theorem below_len {a b : Int} {r : List Int} : (((a :: b :: r).map V.int).length : Int) = (r.length : Int) + 2 := by
  simp only [List.length_map, List.length_cons]
  omega
theorem ok_law_below {f : Addr} {fd : FuncData} (F : Fun K "_law_below" "_law_below" s_law_below f fd) (T : Txt K mg) : FnOk P w K mg base CX0 1 f fd ["_law_d", "_law_size"] spBelow := by
  refine F.ok sc_law_below (fun vs H Q E h => ?_) (fun cdv A outer s H vs Q E hr h => ?_)
  · obtain ⟨d, n, S, rfl, _⟩ := h
    rfl
  · obtain ⟨d, n, S, rfl, hS, hd, ⟨a, b, r, e, ha, hb, hp, hl⟩, n0, n1, k⟩ := h
    refine ⟨_, (pss_cut (ps_if (PW.pt (pw_and (pt_cmpR op_eq (pe_ix (r := rIxL K) ix_list (pv 0) pe_int (fun _ _ => rfl)) pe_int (nomark _)) (pw_and1 (pt_cmpR op_gt (pe_callB call_len_seq (by rfl) T.z_len (by decide +kernel) (pa_cons (pv 0) pa_nil)) pe_int (nomark _))))) (pss_one (ps_asg (pe_bm PySem.F.plainAttrs_list PySem.F.slot_list_pop PySem.F.type_list_pop mt_popAt (pv 0) (pa_cons pe_int pa_nil)) (pg_sub (pv 0) pe_int set_list))) pss_nil)
      (pss_cons (ps_if (pt_cmpR op_gt (pe_ix (r := rIxL K) ix_list (pv 0) pe_int (fun _ _ => rfl)) pe_int (nomark _)) (pss_cons (ps_set (i := 2) sc_law_below.nd rfl (Or.inl rfl) (pe_op op_mod (pe_callTy call_int1 (by rfl) T.z_int (by decide +kernel) (pa_cons (pe_ix (r := rIxL K) ix_list (pv 0) pe_int (fun _ _ => rfl)) pa_nil)) (pv 1)))
      (pss_cons (ps_asg (pe_op op_fdivW (pe_ix (r := rIxL K) ix_list (pv 0) pe_int (fun _ _ => rfl)) (pv 1)) (pg_sub (pv 0) pe_int set_list))
      (pss_one (ps_ret (pv 2))))) pss_nil)
      (pss_cons (ps_asg (pe_op op_mod (pe_callTy call_int1 (by rfl) T.z_int (by decide +kernel) (pa_cons (pe_op op_add (pe_op op_mul (pe_ix (r := rIxL K) ix_list (pv 0) pe_int (fun _ _ => rfl)) pe_int) pe_int) pa_nil)) pe_int) (pg_sub (pv 0) pe_int set_list))
      (pss_one (ps_ret (pe_op op_mod (pe_callTy call_int1 (by rfl) T.z_int (by decide +kernel) (pa_cons (pe_op op_fdivW (pe_ix (r := rIxL K) ix_list (pv 0) pe_int (fun _ _ => rfl)) pe_int) pa_nil)) (pv 1))))))), ?_⟩
    refine ⟨fun σ' H' => ∃ a b r, σ' = [some (.ref d), some (.int n), none] ∧ H' d = some (.lst ((a :: b :: r).map V.int)) ∧ 0 ≤ a ∧ 0 ≤ b ∧ (∀ x ∈ r, 0 ≤ x) ∧ r.length ≤ 63 ∧ Fr (M1 d) S H S H', ?_, ?_⟩
    · refine ⟨_, rfl, d, _, 1, _, rfl, rfl, SqL.of e, atI_nat (j := 1) rfl, rfl, _, rfl, ite2 (fun h0 => ?_) (fun h0 => ?_)⟩
      · refine ⟨_, rfl, d, _, rfl, .inl (SqL.of e), _, _, rfl, rfl, _, rfl, ite2 (fun h1 => ?_) (fun h1 => ?_)⟩
        · have h2 := of_decide_eq_true h1
          rw [below_len] at h2
          cases r with
          | nil => exact absurd h2 (by decide)
          | cons x r' =>
            have hx : 0 ≤ x := hp x List.mem_cons_self
            refine ⟨_, rfl, .inl ⟨rfl, _, SqL.of e⟩, d, _, 2, 2, .int x, rfl, rfl, e, by decide, by decide, ?_, rfl, ?_⟩
            · exact seqIndex_of (by decide) (by rw [below_len, List.length_cons]; omega)
            · refine ⟨_, rfl, d, _, 1, 1, rfl, rfl, upd_same, ?_, ?_⟩
              · unfold ixN
                rw [if_pos (by decide), if_pos (by simp; omega)]
                rfl
              · refine ⟨a, x, r', rfl, upd_same, ha, hx, fun y hy => hp y (List.mem_cons_of_mem _ hy), Nat.le_of_succ_le hl, ?_⟩
                exact ((Fr.refl (M := M1 d) hS).mut hd (.inl rfl)).mut hd (.inl rfl)
        · exact ⟨a, b, r, rfl, e, ha, hb, hp, hl, Fr.refl hS⟩
      · refine iteF ?_
        exact ⟨a, b, r, rfl, e, ha, hb, hp, hl, Fr.refl hS⟩
    · rintro σ' H1 ⟨a, b, r, rfl, e, ha, hb, hp, hl, f⟩
      refine ⟨_, rfl, d, _, 1, _, rfl, rfl, SqL.of e, atI_nat (j := 1) rfl, _, _, rfl, rfl, _, rfl, ite2 (fun h0 => ?_) (fun h0 => ?_)⟩
      · -- digits are left
        refine ⟨_, rfl, d, _, 1, _, rfl, rfl, SqL.of e, atI_nat (j := 1) rfl, .inl ⟨_, rfl, _, rfl, _, _, rfl, rfl, n0, ?_⟩⟩
        refine ⟨_, rfl, d, _, 1, _, rfl, rfl, SqL.of e, atI_nat (j := 1) rfl, _, rfl, _, _, rfl, rfl, divW n0 n1, ?_⟩
        refine ⟨_, rfl, d, _, 1, 1, rfl, rfl, e, ?_, ?_⟩
        · unfold ixN
          rw [if_pos (by decide), if_pos (by rw [below_len]; omega)]
          rfl
        · refine ⟨_, rfl, k _ _ (Int.emod_nonneg _ (by omega)) (Int.emod_lt_of_pos _ n0) (f.mut hd (.inl rfl)) ⟨a, b / n, r, upd_same, ha, Int.ediv_nonneg hb (by omega), hp, hl⟩⟩
      · -- the seed
        refine ⟨_, rfl, d, _, 0, _, rfl, rfl, SqL.of e, atI_nat (j := 0) rfl, a, 48271, rfl, rfl, .inr ⟨by decide, by decide⟩, _, _, rfl, rfl, .inl ⟨_, rfl, _, _, rfl, rfl, (by show (0 : Int) < 2147483647; decide), ?_⟩⟩
        refine ⟨_, rfl, d, _, 0, 0, rfl, rfl, e, ?_, ?_⟩
        · unfold ixN
          rw [if_pos (by decide), if_pos (by rw [below_len]; omega)]
          rfl
        · refine ⟨_, rfl, d, _, 0, _, rfl, rfl, SqL.of upd_same, atI_nat (j := 0) rfl, _, _, rfl, rfl, divW (by decide) (by decide), .inl ⟨_, rfl, _, rfl, _, _, rfl, rfl, n0, ?_⟩⟩
          exact k _ _ (Int.emod_nonneg _ (by omega)) (Int.emod_lt_of_pos _ n0) (f.mut hd (.inl rfl)) ⟨(a * 48271 + 11) % 2147483647, b, r, upd_same, Int.emod_nonneg _ (by decide), hb, hp, hl⟩
end
end Sw
set_option maxRecDepth 100000
set_option maxHeartbeats 4000000
namespace Sw
open PySem L2
open C8 (pss_cut tCut pe_c pe_mk pe_mt pe_mt0 pe_gc Cal Mak Met InsC call_isC)
/-! ### games as data -/
structure G where
  n : Nat
  p : Nat
  ss : List Nat
structure GOk (g : G) : Prop where
  n1 : 2 ≤ g.n
  n2 : g.n ≤ 12
  p1 : 2 ≤ g.p
  p2 : g.p ≤ 9
  l1 : 1 ≤ g.ss.length
  l2 : g.ss.length < g.p
  asc : g.ss.Pairwise (· < ·)
  lo : ∀ s ∈ g.ss, 1 ≤ s
  hi : ∀ s ∈ g.ss, s < g.n
def vn (k : Nat) : V := .int (k : Int)
def gflds (g : G) (t : Addr) : List (Str × V) := putF "_steps" (.ref t) (putF "_parts" (vn g.p) (putF "_children" (vn g.n) []))
theorem kf1 : ¬ (("_children" : Str) = "_parts") := by decide +kernel
theorem kf2 : ¬ (("_children" : Str) = "_steps") := by decide +kernel
theorem kf3 : ¬ (("_parts" : Str) = "_steps") := by decide +kernel
theorem gf_c (g : G) (t : Addr) : (gflds g t).lookup ("_children" : Str) = some (vn g.n) := by
  unfold gflds
  rw [lookup_putF, if_neg kf2, lookup_putF, if_neg kf1, lookup_putF, if_pos rfl]
theorem gf_p (g : G) (t : Addr) : (gflds g t).lookup ("_parts" : Str) = some (vn g.p) := by
  unfold gflds
  rw [lookup_putF, if_neg kf3, lookup_putF, if_pos rfl]
theorem gf_s (g : G) (t : Addr) : (gflds g t).lookup ("_steps" : Str) = some (.ref t) := by
  unfold gflds
  rw [lookup_putF, if_pos rfl]
/-- a game stands at x -/
def GAt (K : PySem.W.Frag) (C : Addr) (H : Hp) (x : Addr) (g : G) : Prop := ∃ dx t, H x = some (.ins C dx (gflds g t)) ∧ SqT K H t (g.ss.map vn)
theorem GAt.mono {K : PySem.W.Frag} {C : Addr} {H H' : Hp} {x : Addr} {g : G} (s : Same H H') (h : GAt K C H x g) : GAt K C H' x g := let ⟨dx, t, e, q⟩ := h; ⟨dx, t, s _ _ e, Same.seqT s q⟩
/-- what the written part says of the class -/
structure GTxt (K : PySem.W.Frag) (C : Addr) : Prop where
  cl : Cls K C
  nC : NoAttr K C "_children"
  nP : NoAttr K C "_parts"
  nS : NoAttr K C "_steps"
/-! ### kinds -/
theorem ty_int {K : PySem.W.Frag} {H : Hp} (i : Int) : TyX K H (.int i) (.type "int") := .base (.int i)
theorem ty_tup {K : PySem.W.Frag} {H : Hp} {a : Addr} {xs : List V} (h : SqT K H a xs) : TyX K H (.ref a) (.type "tuple") := by
  rcases h with (h | ⟨o, h⟩) | ⟨o, its, n, e, c, _⟩
  · exact .base (.tup h)
  · exact .fTuple h
  · exact .kTuple e c
theorem ty_lst {K : PySem.W.Frag} {H : Hp} {a : Addr} {xs : List V} (h : SqL K H a xs) : TyX K H (.ref a) (.type "list") := by
  rcases h with (h | ⟨o, h⟩) | ⟨o, its, n, e, c, _⟩
  · exact .base (.lst h)
  · exact .base (.frz h)
  · exact .kList e c
/-- whether a value is a whole number -/
def Whole (K : PySem.W.Frag) (H : Hp) (x : V) (b : Bool) : Prop := ∃ (t : Value) (b1 b2 : Bool), TyX K H x t ∧ PySem.W.kitOne K t (.type "int") = some b1 ∧ PySem.W.kitOne K t (.type "bool") = some b2 ∧ b = (b1 && !b2)
theorem whole_int {K : PySem.W.Frag} {H : Hp} (i : Int) : Whole K H (.int i) true := ⟨_, true, false, ty_int i, kit_ty (by decide +kernel), kit_ty (by decide +kernel), rfl⟩
def spWhole (K : PySem.W.Frag) : Sp := fun vs H Q _ => ∃ (x : V) (b : Bool), vs = [x] ∧ Whole K H x b ∧ Q (.bl b) H
def spBetween (K : PySem.W.Frag) : Sp := fun vs H Q _ => ∃ (x : V) (lo hi : Int), vs = [x, .int lo, .int hi] ∧ ((∃ i, x = .int i ∧ Q (.bl (decide (lo ≤ i) && decide (i ≤ hi))) H) ∨ (Whole K H x false ∧ Q (.bl false) H))
section
variable {P : Program} {w : World} {K : PySem.W.Frag} {mg : Str → Option Value} {base : Heap}
theorem ok_is_whole {f : Addr} {fd : FuncData} (F : Fun K "is_whole" "is_whole" s_is_whole f fd) (T : Txt K mg) : FnOk P w K mg base CX0 1 f fd ["value"] (spWhole K) := by
  refine F.ok sc_is_whole (fun vs H Q E h => ?_) (fun cdv A outer s H vs Q E hr h => ?_)
  · obtain ⟨x, b, rfl, _⟩ := h
    rfl
  · obtain ⟨x, b, rfl, ⟨t, b1, b2, ty, k1, k2, rfl⟩, q⟩ := h
    refine ⟨_, (pss_one (ps_ret (pe_and (pe_callB call_isi (by rfl) T.z_isinstance (by decide +kernel) (pa_cons (pv 0) (pa_cons (pe_bltn (v := .ty "int") (by rfl) T.z_int (by decide +kernel) rfl) pa_nil))) (pe_one (pe_not (pe_callB call_isi (by rfl) T.z_isinstance (by decide +kernel) (pa_cons (pv 0) (pa_cons (pe_bltn (v := .ty "bool") (by rfl) T.z_bool (by decide +kernel) rfl) pa_nil)))))))), ?_⟩
    refine ⟨_, rfl, x, _, t, _, b1, rfl, .ty _, ty, k1, b1, rfl, ite2 (fun h1 => ?_) (fun h1 => ?_)⟩
    · subst h1
      exact ⟨_, rfl, x, _, t, _, b2, rfl, .ty _, ty, k2, b2, rfl, q⟩
    · have e : b1 = false := Bool.eq_false_iff.mpr h1
      subst e
      exact q
end
section
variable {P : Program} {w : World} {K : PySem.W.Frag} {mg : Str → Option Value} {base : Heap}
theorem ok_is_between {f : Addr} {fd : FuncData} (F : Fun K "is_between" "is_between" s_is_between f fd) (T : Txt K mg) (c_is_whole : Cal P w K mg base 1 "is_whole" (spWhole K) []) :
    FnOk P w K mg base CX0 2 f fd ["value", "least", "most"] (spBetween K) := by
  refine F.ok sc_is_between (fun vs H Q E h => ?_) (fun cdv A outer s H vs Q E hr h => ?_)
  · obtain ⟨x, lo, hi, rfl, _⟩ := h
    rfl
  · obtain ⟨x, lo, hi, rfl, h⟩ := h
    refine ⟨_, (pss_one (ps_ret (pe_and (pe_c c_is_whole hr (by decide) (by rfl) (pa_cons (pv 0) pa_nil)) (pe_one (pe_chain op_le op_le (pv 1) (pv 0) (pv 2)))))), ?_⟩
    rcases h with ⟨i, rfl, q⟩ | ⟨hw, q⟩
    · refine ⟨_, rfl, _, true, rfl, whole_int i, true, rfl, iteT ?_⟩
      refine ⟨_, rfl, _, rfl, lo, i, rfl, rfl, _, rfl, ite2 (fun h1 => ?_) (fun h1 => ?_)⟩
      · refine ⟨_, rfl, i, hi, rfl, rfl, ?_⟩
        rw [h1] at q
        exact q
      · have e : decide (lo ≤ i) = false := Bool.eq_false_iff.mpr h1
        rw [e] at q
        exact q
    · exact ⟨_, rfl, _, false, rfl, hw, false, rfl, iteF q⟩
end
section
variable {P : Program} {w : World} {K : PySem.W.Frag} {mg : Str → Option Value} {base : Heap}
theorem not_between {lo i hi : Int} (h : lo ≤ i ∧ i ≤ hi) : (decide (lo ≤ i) && decide (i ≤ hi)) = true := by
  rw [decide_eq_true h.1, decide_eq_true h.2]
  rfl
theorem asc_at {l : List Nat} (h : l.Pairwise (· < ·)) {i : Nat} {x y : Nat} (hx : l[i]? = some x) (hy : l[i + 1]? = some y) : x < y := by
  obtain ⟨h1, e1⟩ := List.getElem?_eq_some_iff.mp hx
  obtain ⟨h2, e2⟩ := List.getElem?_eq_some_iff.mp hy
  have := List.pairwise_iff_getElem.mp h i (i + 1) h1 h2 (by omega)
  rw [e1, e2] at this
  exact this
def spSteps (K : PySem.W.Frag) : Sp := fun vs H Q _ => ∃ (g : G) (t : Addr) (S : Hp), vs = [vn g.n, vn g.p, .ref t] ∧ GOk g ∧ Same S H ∧ SqT K S t (g.ss.map vn) ∧ ∀ H', Fr M0 S H S H' → Q .non H'
theorem ok_check_steps {f : Addr} {fd : FuncData} (F : Fun K "check_steps" "check_steps" s_check_steps f fd) (T : Txt K mg) (c_is_between : Cal P w K mg base 2 "is_between" (spBetween K) []) :
    FnOk P w K mg base CX0 3 f fd ["children", "parts", "steps"] (spSteps K) := by
  refine F.ok sc_check_steps (fun vs H Q E h => ?_) (fun cdv A outer s H vs Q E hr h => ?_)
  · obtain ⟨g, t, S, rfl, _⟩ := h
    rfl
  · obtain ⟨g, t, S, rfl, hg, hS, ht, q⟩ := h
    have htH := Same.seqT hS ht
    refine ⟨_, (pss_cons (ps_if (PW.pt (pw_or (pt_not (pt_val (pe_callB call_isi (by rfl) T.z_isinstance (by decide +kernel) (pa_cons (pv 2) (pa_cons (pe_bltn (v := .ty "tuple") (by rfl) T.z_tuple (by decide +kernel) rfl) pa_nil))))) (pw_or1 (pt_not (pt_chain op_le op_lt pe_int (pe_callB call_len_seq (by rfl) T.z_len (by decide +kernel) (pa_cons (pv 2) pa_nil)) (pv 1)))))) (pss_one ps_never) pss_nil)
      (pss_cons (ps_set (i := 3) sc_check_steps.nd rfl (Or.inl rfl) pe_int)
      (pss_one (ps_for PassesOwn.never rfl (SwX.pi_enumT (by rfl) T.z_enumerate (pa_cons (pv 2) pa_nil)) (pg_tup (by rfl) (pgs_cons (pg_name (i := 4) sc_check_steps.nd rfl (Or.inl rfl)) (pgs_cons (pg_name (i := 5) sc_check_steps.nd rfl (Or.inl rfl)) pgs_nil)))
      (pss_cons (ps_if (pt_not (pt_val (pe_c c_is_between hr (by decide) (by rfl) (pa_cons (pv 5) (pa_cons (pv 3) (pa_cons (pe_op op_sub (pv 0) pe_int) pa_nil)))))) (pss_one ps_never) pss_nil)
      (pss_one (ps_set (i := 3) sc_check_steps.nd rfl (Or.inl rfl) (pe_op op_add (pv 5) pe_int)))))))), ?_⟩
    -- the first test
    refine ⟨_, rfl, _, _, _, _, true, rfl, .ty _, ty_tup htH, kit_ty (by decide +kernel), true, rfl, iteF ?_⟩
    have hl : ((g.ss.map vn).length : Int) = (g.ss.length : Int) := by rw [List.length_map]
    have l1 := hg.l1
    have l2 := hg.l2
    refine ⟨_, rfl, t, _, rfl, .inr htH, 1, _, rfl, rfl, true, ?_, iteT ⟨_, rfl, _, _, rfl, rfl, true, ?_, iteF ?_⟩⟩
    · exact congrArg V.bl (decide_eq_true (by rw [hl]; omega))
    · exact congrArg V.bl (decide_eq_true (by rw [hl]; omega))
    -- least = 1, the loop
    refine ⟨_, rfl, t, _, rfl, htH, SwX.for_enumT (xs := g.ss.map vn) (fun i σ H' => ∃ (lo : Nat) (a b : Option V), σ = [some (vn g.n), some (vn g.p), some (.ref t), some (vn lo), a, b] ∧ Fr M0 S H S H' ∧ (∀ s, g.ss[i]? = some s → lo ≤ s))
      ⟨1, none, none, rfl, Fr.refl hS, fun s h => hg.lo s (List.mem_of_getElem? h)⟩ (fun i σ H' _ ⟨_, _, _, _, f, _⟩ => Same.seqT f.b ht) ?_ ?_⟩
    · rintro i x T' σ H' hx ⟨lo, a, b, rfl, f, hlo⟩ nT
      rw [List.getElem?_map] at hx
      cases e : g.ss[i]? with
      | none => rw [e] at hx; cases hx
      | some s =>
        rw [e] at hx
        have ex := (Option.some.inj hx).symm
        subst ex
        have s1 := hlo s e
        have s2 := hg.hi s (List.mem_of_getElem? e)
        refine ⟨T', _, rfl, SqT.of upd_same, rfl, _, _, rfl, _, _, rfl, rfl, ?_⟩
        refine ⟨_, rfl, _, rfl, _, rfl, (g.n : Int), 1, rfl, rfl, _, (lo : Int), (g.n : Int) - 1, rfl, .inl ⟨(s : Int), rfl, true, congrArg V.bl (not_between ⟨by omega, by omega⟩), iteF ?_⟩⟩
        refine ⟨_, rfl, (s : Int), 1, rfl, rfl, s + 1, _, _, rfl, f.new nT, fun z hz => ?_⟩
        have := asc_at hg.asc e hz
        omega
    · rintro σ H' ⟨lo, a, b, rfl, f, _⟩
      exact q _ f
end
section
variable {P : Program} {w : World} {K : PySem.W.Frag} {mg : Str → Option Value} {base : Heap}
def spGame (K : PySem.W.Frag) (C : Addr) : Sp := fun vs H Q _ => ∃ (g : G) (t x dx : Addr) (S : Hp), vs = [.ref x, vn g.n, vn g.p, .ref t] ∧ GOk g ∧ Same S H ∧ SqT K S t (g.ss.map vn) ∧ H x = some (.ins C dx []) ∧ S x = none ∧
  ∀ H', Fr (M1 x) S H S H' → H' x = some (.ins C dx (gflds g t)) → Q .non H'
theorem ok_Game_init {f C : Addr} {fd : FuncData} (F : Fun K "__init__" "Game.__init__" s_Game_init f fd) (T : Txt K mg) (Z : GTxt K C) (c_is_between : Cal P w K mg base 2 "is_between" (spBetween K) []) (c_check_steps : Cal P w K mg base 3 "check_steps" (spSteps K) []) :
    FnOk P w K mg base CX0 4 f fd ["self", "children", "parts", "steps"] (spGame K C) := by
  refine F.ok sc_Game_init (fun vs H Q E h => ?_) (fun cdv A outer s H vs Q E hr h => ?_)
  · obtain ⟨g, t, x, dx, S, rfl, _⟩ := h
    rfl
  · obtain ⟨g, t, x, dx, S, rfl, hg, hS, ht, hx, hn, q⟩ := h
    have n1 := hg.n1
    have n2 := hg.n2
    have p1 := hg.p1
    have p2 := hg.p2
    refine ⟨_, (pss_cons (ps_if (pt_not (pt_val (pe_c c_is_between hr (by decide) (by rfl) (pa_cons (pv 1) (pa_cons (pe_gc (by rfl) T.v_LEAST_CHILDREN) (pa_cons (pe_gc (by rfl) T.v_MOST_CHILDREN) pa_nil)))))) (pss_one ps_never) pss_nil)
      (pss_cons (ps_if (pt_not (pt_val (pe_c c_is_between hr (by decide) (by rfl) (pa_cons (pv 2) (pa_cons (pe_gc (by rfl) T.v_LEAST_PARTS) (pa_cons (pe_gc (by rfl) T.v_MOST_PARTS) pa_nil)))))) (pss_one ps_never) pss_nil)
      (pss_cons (ps_expr (pe_c c_check_steps hr (by decide) (by rfl) (pa_cons (pv 1) (pa_cons (pv 2) (pa_cons (pv 3) pa_nil)))))
      (pss_cons (ps_fld (pv 0) (pv 1) rfl)
      (pss_cons (ps_fld (pv 0) (pv 2) rfl)
      (pss_one (ps_fld (pv 0) (pv 3) rfl))))))), ?_⟩
    refine ⟨_, rfl, _, 2, 12, rfl, .inl ⟨(g.n : Int), rfl, true, congrArg V.bl (not_between ⟨by omega, by omega⟩), iteF ?_⟩⟩
    refine ⟨_, rfl, _, 2, 9, rfl, .inl ⟨(g.p : Int), rfl, true, congrArg V.bl (not_between ⟨by omega, by omega⟩), iteF ?_⟩⟩
    refine ⟨_, rfl, _, rfl, _, rfl, g, t, S, rfl, hg, hS, ht, fun H1 f => ?_⟩
    have h1 := f.c x _ (fun z => z) hx
    refine ⟨_, rfl, _, rfl, x, C, dx, _, rfl, h1, Z.cl, Z.nC, by show 0 < 1000; decide, ?_⟩
    refine ⟨_, rfl, _, rfl, x, C, dx, _, rfl, upd_same, Z.cl, Z.nP, by show 1 < 1000; decide, ?_⟩
    refine ⟨_, rfl, _, rfl, x, C, dx, _, rfl, upd_same, Z.cl, Z.nS, by show 2 < 1000; decide, ?_⟩
    have f1 : Fr (M1 x) S H S H1 := f.of0
    exact q _ (((f1.mut hn (.inl rfl)).mut hn (.inl rfl)).mut hn (.inl rfl)) upd_same
end
section
variable {P : Program} {w : World} {K : PySem.W.Frag} {mg : Str → Option Value} {base : Heap}
theorem ok_children {f C : Addr} {fd : FuncData} (F : Fun K "children" "Game.children" s_Game_children f fd) (Z : GTxt K C) : FnOk P w K mg base CX0 1 f fd ["self"] (getSp C "_children") := by
  refine F.ok sc_Game_children (fun vs H Q E h => ?_) (fun cdv A outer s H vs Q E hr h => ?_)
  · obtain ⟨a, dx, fs, v, rfl, _⟩ := h
    rfl
  · obtain ⟨a, dx, fs, v, rfl, e, l, q⟩ := h
    exact ⟨_, (pss_one (ps_ret (pe_fld (pv 0) rfl))), _, rfl, a, C, dx, fs, v, rfl, e, Z.cl, Z.nC, l, q⟩
theorem ok_parts {f C : Addr} {fd : FuncData} (F : Fun K "parts" "Game.parts" s_Game_parts f fd) (Z : GTxt K C) : FnOk P w K mg base CX0 1 f fd ["self"] (getSp C "_parts") := by
  refine F.ok sc_Game_parts (fun vs H Q E h => ?_) (fun cdv A outer s H vs Q E hr h => ?_)
  · obtain ⟨a, dx, fs, v, rfl, _⟩ := h
    rfl
  · obtain ⟨a, dx, fs, v, rfl, e, l, q⟩ := h
    exact ⟨_, (pss_one (ps_ret (pe_fld (pv 0) rfl))), _, rfl, a, C, dx, fs, v, rfl, e, Z.cl, Z.nP, l, q⟩
theorem ok_steps {f C : Addr} {fd : FuncData} (F : Fun K "steps" "Game.steps" s_Game_steps f fd) (Z : GTxt K C) : FnOk P w K mg base CX0 1 f fd ["self"] (getSp C "_steps") := by
  refine F.ok sc_Game_steps (fun vs H Q E h => ?_) (fun cdv A outer s H vs Q E hr h => ?_)
  · obtain ⟨a, dx, fs, v, rfl, _⟩ := h
    rfl
  · obtain ⟨a, dx, fs, v, rfl, e, l, q⟩ := h
    exact ⟨_, (pss_one (ps_ret (pe_fld (pv 0) rfl))), _, rfl, a, C, dx, fs, v, rfl, e, Z.cl, Z.nS, l, q⟩
end
end Sw
set_option maxRecDepth 100000
set_option maxHeartbeats 4000000
namespace Sw
open PySem L2
open C8 (pss_cut tCut pe_c pe_mk pe_mt pe_mt0 pe_gc Cal Mak Met InsC call_isC)
section
variable {P : Program} {w : World} {K : PySem.W.Frag} {mg : Str → Option Value} {base : Heap}
def spRandom (K : PySem.W.Frag) : Sp := fun vs H Q _ => ∃ (a : Addr) (ns : List Int) (z : Int), vs = [.ref a, .int z] ∧ SqL K H a (ns.map V.int) ∧ ns.length ≤ 63 ∧ 0 ≤ z ∧ z < 2147483647 ∧
  ∀ (d : Addr) (H' : Hp), H d = none → Same H H' → DS d H' → Q (.ref d) H'
theorem map_at {ns : List Int} {i : Nat} {y : V} (h : (ns.map V.int)[i]? = some y) : ∃ z, ns[i]? = some z ∧ y = .int z := by
  rw [List.getElem?_map] at h
  cases e : ns[i]? with
  | none => rw [e] at h; cases h
  | some z => rw [e] at h; exact ⟨z, rfl, (Option.some.inj h).symm⟩
theorem ok_law_random {f : Addr} {fd : FuncData} (F : Fun K "_law_random" "_law_random" s_law_random f fd) (T : Txt K mg) : FnOk P w K mg base CX0 1 f fd ["_law_script", "_law_salt"] (spRandom K) := by
  refine F.ok sc_law_random (fun vs H Q E h => ?_) (fun cdv A outer s H vs Q E hr h => ?_)
  · obtain ⟨a, ns, z, rfl, _⟩ := h
    rfl
  · obtain ⟨a, ns, z, rfl, hS, hl, z0, z1, q⟩ := h
    refine ⟨_, (pss_cons (ps_set (i := 2) sc_law_random.nd rfl (Or.inl rfl) (pv 1))
      (pss_cons (ps_for PassesOwn.never rfl (pi_list (pv 0)) (pg_name (i := 3) sc_law_random.nd rfl (Or.inl rfl))
      (pss_one (ps_set (i := 2) sc_law_random.nd rfl (Or.inl rfl) (pe_op op_mod (pe_callTy call_int1 (by rfl) T.z_int (by decide +kernel) (pa_cons (pe_op op_add (pe_op op_mul (pv 2) pe_int) (pe_callB call_abs (by rfl) T.z_abs (by decide +kernel) (pa_cons (pv 3) pa_nil))) pa_nil)) pe_int))))
      (pss_one (ps_ret (pe_op op_cat (pe_lst (pa_cons (pv 2) (pa_cons pe_int pa_nil))) (pe_lc (own := [("_law_cell", 3)]) rfl sc_law_random.nd (pi_list (pv 0)) (blkOk_by (own := [("_law_cell", 3)]) (N := ["_law_script", "_law_salt", "_law_seed", "_law_cell"]) (sc := defScope s_law_random) (by decide +kernel)) (fun _ _ _ _ _ => pg_name (i := 3) sc_law_random.nd rfl (Or.inl rfl)) (fun _ _ _ _ _ => pts_one (pt_cmpR op_ge (pv 3) (pe_op op_pow pe_int pe_int) (nomark _))) (fun _ _ _ _ _ => (pv 3)))))))), ?_⟩
    refine ⟨_, rfl, _, rfl, a, rfl, ⟨_, hS⟩, for_list (K := K) (a := a) (xs := ns.map V.int) (fun i σ H' => ∃ (y : Int) (c : Option V), σ = [some (.ref a), some (.int z), some (.int y), c] ∧ 0 ≤ y ∧ y < 2147483647 ∧ H' = H)
      ⟨z, none, rfl, z0, z1, rfl⟩ (fun i σ H' _ ⟨_, _, _, _, _, e⟩ => e ▸ hS) ?_ ?_⟩
    · rintro i x σ H' hx ⟨y, c, rfl, y0, y1, rfl⟩
      obtain ⟨u, hu, rfl⟩ := map_at hx
      refine ⟨_, rfl, y, 31, rfl, rfl, .inl ⟨by omega, by omega⟩, _, rfl, u, rfl, _, _, rfl, rfl, .inl ⟨_, rfl, _, _, rfl, rfl, (by show (0 : Int) < 2147483647; decide), ?_⟩⟩
      exact ⟨_, _, rfl, Int.emod_nonneg _ (by decide), Int.emod_lt_of_pos _ (by decide), rfl⟩
    · rintro σ H' ⟨y, c, rfl, y0, y1, rfl⟩
      refine ⟨_, rfl, by show 2 ≤ sizeLine; decide, fun l hl1 => ?_⟩
      have s1 : Same H' (upd H' l (.lst [.int y, .int 0])) := same_new hl1
      refine ⟨_, rfl, a, rfl, ⟨_, s1.seq hS⟩, fun D hD => ?_⟩
      have hlD : l ≠ D := ne_of_none upd_same hD
      have hD0 : H' D = none := s1.free hD
      refine lc_list (K := K) (a := a) (xs := ns.map V.int) (fun i H2 => ∃ r : List Int, H2 D = some (.lst (r.map V.int)) ∧ (∀ x ∈ r, 0 ≤ x) ∧ r.length ≤ i ∧ Same (upd H' l (.lst [.int y, .int 0])) H2)
        ⟨[], upd_same, fun x h => absurd h (by simp), Nat.le_refl _, same_new hD⟩ (fun i H2 _ ⟨r, _, _, _, s2⟩ => (s1.trans s2).seq hS) ?_ ?_
      · rintro i x H2 hx ⟨r, hr1, hr2, hr3, s2⟩
        obtain ⟨u, hu, rfl⟩ := map_at hx
        have hi : i < 63 := by
          have := (List.getElem?_eq_some_iff.mp hx).1
          rw [List.length_map] at this
          omega
        refine ⟨rfl, _, rfl, 10, 18, rfl, rfl, ⟨by decide, by decide, by decide⟩, _, _, rfl, rfl, _, rfl, ite2 (fun h0 => ?_) (fun h0 => ?_)⟩
        · have h1 := of_decide_eq_true h0
          have h2 : (0 : Int) ≤ u := Int.le_trans (by decide) h1
          refine ⟨_, rfl, _, hr1, szl100 (by rw [List.length_map]; omega), r ++ [u], ?_, ?_, ?_, ?_⟩
          · rw [upd_same, List.map_append]
            rfl
          · intro x hx
            rcases List.mem_append.mp hx with hx | hx
            · exact hr2 x hx
            · rw [List.mem_singleton.mp hx]
              exact h2
          · rw [List.length_append, List.length_singleton]
            omega
          · exact same_updR s2 hD
        · exact ⟨r, hr1, hr2, Nat.le_succ_of_le hr3, s2⟩
      · rintro H2 ⟨r, hr1, hr2, hr3, s2⟩
        rw [List.length_map] at hr3
        refine ⟨l, D, _, _, rfl, rfl, s2 l _ upd_same, hr1, ?_, fun p hp => ?_⟩
        · refine sz100 ?_
          simp only [List.length_map, List.length_cons, List.length_nil]
          omega
        · refine q p _ ((s1.trans s2).free hp) ((s1.trans s2).trans (same_new hp)) ⟨y, 0, r, ?_, y0, Int.le_refl _, hr2, Nat.le_trans hr3 hl⟩
          rw [upd_same]
          rfl
end
section
variable {P : Program} {w : World} {K : PySem.W.Frag} {mg : Str → Option Value} {base : Heap}
/-- one of the items of a list that stands in H beside d -/
def spPick : Sp := fun vs H Q _ => ∃ (d p : Addr) (xs : List V) (S : Hp), vs = [.ref d, .ref p] ∧ Same S H ∧ S d = none ∧ DS d H ∧ p ≠ d ∧ H p = some (.lst xs) ∧ 0 < xs.length ∧ xs.length ≤ 1000 ∧
  ∀ (i : Nat) (v : V) (H' : Hp), xs[i]? = some v → Fr (M1 d) S H S H' → DS d H' → Q v H'
theorem ok_law_pick {K : PySem.W.Frag} {f : Addr} {fd : FuncData} (F : Fun K "_law_pick" "_law_pick" s_law_pick f fd) (T : Txt K mg) (c_law_below : Cal P w K mg base 1 "_law_below" spBelow []) : FnOk P w K mg base CX0 2 f fd ["_law_d", "_law_items"] spPick := by
  refine F.ok sc_law_pick (fun vs H Q E h => ?_) (fun cdv A outer s H vs Q E hr h => ?_)
  · obtain ⟨d, p, xs, S, rfl, _⟩ := h
    rfl
  · obtain ⟨d, p, xs, S, rfl, hS, hd, ds, npd, hp, h0, h1, q⟩ := h
    refine ⟨_, (pss_one (ps_ret (pe_ix (r := rIxL K) ix_list (pv 1) (pe_c c_law_below hr (by decide) (by rfl) (pa_cons (pv 0) (pa_cons (pe_callB call_len_seq (by rfl) T.z_len (by decide +kernel) (pa_cons (pv 1) pa_nil)) pa_nil))) (fun _ _ => rfl)))), ?_⟩
    refine ⟨_, rfl, _, rfl, _, rfl, p, _, rfl, .inl (SqL.of hp), d, _, S, rfl, hS, hd, ds, by omega, by omega, fun r H' r0 r1 f ds' => ?_⟩
    have hi : r.toNat < xs.length := by omega
    have hx : xs[r.toNat]? = some xs[r.toNat] := List.getElem?_eq_getElem hi
    have hat : atI xs r = some xs[r.toNat] := at_of (by omega) hx
    exact ⟨p, xs, r, _, rfl, rfl, SqL.of (f.c p _ npd hp), hat, q _ _ _ hx f ds'⟩
end
section
variable {P : Program} {w : World} {K : PySem.W.Frag} {mg : Str → Option Value} {base : Heap}
def spLawGame (K : PySem.W.Frag) (C : Addr) : Sp := fun vs H Q _ => ∃ (d : Addr) (m : Nat) (S : Hp), vs = [.ref d, vn m] ∧ Same S H ∧ S d = none ∧ DS d H ∧ 3 ≤ m ∧ m ≤ 12 ∧
  ∀ (g : G) (x : Addr) (S' H' : Hp), GOk g → g.n ≤ m → Fr (M1 d) S H S' H' → DS d H' → GAt K C S' x g → Q (.ref x) H'
theorem vn_inj {a b : Nat} (h : vn a = vn b) : a = b := by
  have := V.int.inj h
  omega
theorem pw_snoc {l : List Nat} {x : Nat} (h : l.Pairwise (· < ·)) (hx : ∀ y ∈ l, y < x) : (l ++ [x]).Pairwise (· < ·) :=
  List.pairwise_append.mpr ⟨h, List.pairwise_singleton _ _, fun a ha b hb => by rw [List.mem_singleton.mp hb]; exact hx a ha⟩
/-- what the loop over the steps holds -/
structure GsOk (n p i : Nat) (ss : List Nat) : Prop where
  asc : ss.Pairwise (· < ·)
  lo : ∀ s ∈ ss, 1 ≤ s
  hi : ∀ s ∈ ss, s < 1 + i
  le : ss.length < p
theorem gsOk_snoc {n p i : Nat} {ss : List Nat} (h : GsOk n p i ss) (hl : ss.length + 1 < p) : GsOk n p (i + 1) (ss ++ [1 + i]) where
  asc := pw_snoc h.asc h.hi
  lo := fun s hs => (List.mem_append.mp hs).elim (h.lo s) fun z => by rw [List.mem_singleton.mp z]; omega
  hi := fun s hs => (List.mem_append.mp hs).elim (fun z => by have := h.hi s z; omega) fun z => by rw [List.mem_singleton.mp z]; omega
  le := by rw [List.length_append, List.length_singleton]; exact hl
theorem gsOk_next {n p i : Nat} {ss : List Nat} (h : GsOk n p i ss) : GsOk n p (i + 1) ss := ⟨h.asc, h.lo, fun s hs => by have := h.hi s hs; omega, h.le⟩
theorem eqv_nil : ∀ ds : List PyData, PyData.eqv (.list ds) (.list []) = ds.isEmpty := by
  intro ds
  cases ds <;> rfl
theorem dpAll_vn {K : PySem.W.Frag} {H : Hp} : ∀ ns : List Nat, DpAll K H (ns.map vn) (ns.map fun (k : Nat) => PyData.int (k : Int))
  | [] => .nil
  | n :: r => .cons (.int n) (dpAll_vn r)
theorem pick3 {i : Nat} {v : V} {a b c : Int} (h : ([.int a, .int b, .int c] : List V)[i]? = some v) : ∃ z, v = .int z ∧ (z = a ∨ z = b ∨ z = c) := by
  match i, h with
  | 0, h => exact ⟨a, (Option.some.inj h).symm, .inl rfl⟩
  | 1, h => exact ⟨b, (Option.some.inj h).symm, .inr (.inl rfl)⟩
  | 2, h => exact ⟨c, (Option.some.inj h).symm, .inr (.inr rfl)⟩
  | i + 3, h => simp at h
theorem ok_law_game {f C : Addr} {fd : FuncData} (F : Fun K "_law_game" "_law_game" s_law_game f fd) (T : Txt K mg) (c_law_below : Cal P w K mg base 1 "_law_below" spBelow []) (c_law_pick : Cal P w K mg base 2 "_law_pick" spPick [])
    (m_Game : Mak P w K mg base 4 "Game" C (spGame K C) []) : FnOk P w K mg base CX0 6 f fd ["_law_d", "_law_most"] (spLawGame K C) := by
  refine F.ok sc_law_game (fun vs H Q E h => ?_) (fun cdv A outer s H vs Q E hr h => ?_)
  · obtain ⟨d, m, S, rfl, _⟩ := h
    rfl
  · obtain ⟨d, m, S, rfl, hS, hd, ds, m1, m2, q⟩ := h
    refine ⟨_, (pss_cons (ps_par (i := 2) (j := 3) (by rfl) sc_law_game.nd rfl rfl (by decide) rfl rfl (pa_cons (pe_op op_add pe_int (pe_c c_law_below hr (by decide) (by rfl) (pa_cons (pv 0) (pa_cons (pe_op op_sub (pv 1) pe_int) pa_nil)))) (pa_cons (pe_op op_add pe_int (pe_c c_law_below hr (by decide) (by rfl) (pa_cons (pv 0) (pa_cons (pe_c c_law_pick hr (by decide) (by rfl) (pa_cons (pv 0) (pa_cons (pe_lst (pa_cons pe_int (pa_cons pe_int (pa_cons pe_int pa_nil)))) pa_nil))) pa_nil)))) pa_nil)) (by rfl))
      (pss_cons (ps_set (i := 4) sc_law_game.nd rfl (Or.inl rfl) (pe_lst pa_nil))
      (pss_cons (ps_for PassesOwn.never rfl (pi_range2 (by rfl) T.z_range (pa_cons pe_int (pa_cons (pv 2) pa_nil))) (pg_name (i := 5) sc_law_game.nd rfl (Or.inl rfl))
      (pss_one (ps_if (PW.pt (pw_and (pt_cmpR op_lt (pe_callB call_len_seq (by rfl) T.z_len (by decide +kernel) (pa_cons (pv 4) pa_nil)) (pe_op op_sub (pv 3) pe_int) (nomark _)) (pw_and1 (pt_cmpR op_eq (pe_c c_law_below hr (by decide) (by rfl) (pa_cons (pv 0) (pa_cons pe_int pa_nil))) pe_int (nomark _))))) (pss_one (ps_expr (pe_bm PySem.F.plainAttrs_list PySem.F.slot_list_append PySem.F.type_list_append mt_append (pv 4) (pa_cons (pv 5) pa_nil)))) pss_nil)))
      (pss_cut (ps_if (pt_cmpR (r := rEqD K) (op_eqD hr.units) (pv 4) (pe_lst pa_nil) (nomark _)) (pss_one (ps_set (i := 4) sc_law_game.nd rfl (Or.inl rfl) (pe_lst (pa_cons (pe_op op_add pe_int (pe_c c_law_below hr (by decide) (by rfl) (pa_cons (pv 0) (pa_cons (pe_op op_sub (pv 2) pe_int) pa_nil)))) pa_nil)))) pss_nil)
      (pss_one (ps_ret (pe_mk m_Game hr (by decide) (by rfl) (pa_cons (pv 2) (pa_cons (pv 3) (pa_cons (pe_callTy call_tuple_of (by rfl) T.z_tuple (by decide +kernel) (pa_cons (pv 4) pa_nil)) pa_nil)))))))))), ?_⟩
    -- the children
    refine ⟨_, rfl, _, rfl, (m : Int), 1, rfl, rfl, d, _, S, rfl, hS, hd, ds, by omega, by omega, fun r H1 r0 r1 f1 ds1 => ?_⟩
    obtain ⟨n, rfl⟩ : ∃ n : Nat, r = (n : Int) - 2 := ⟨r.toNat + 2, by omega⟩
    refine ⟨2, (n : Int) - 2, rfl, rfl, ?_⟩
    -- the parts
    refine ⟨_, rfl, _, rfl, by show 3 ≤ sizeLine; decide, fun l hl => ?_⟩
    have fl := f1.new (o := .lst [.int 2, .int 4, .int 8]) hl
    refine ⟨d, l, _, S, rfl, fl.b, hd, ds1.new hl, ds1.ne hl, upd_same, by decide, by decide, fun i v H2 hv f2 ds2 => ?_⟩
    obtain ⟨z, rfl, hz⟩ := pick3 hv
    refine ⟨d, z, S, rfl, f2.b, hd, ds2, by omega, Int.lt_of_le_of_lt (show z ≤ 8 by omega) (by decide), fun r' H3 r0' r1' f3 ds3 => ?_⟩
    have f := (fl.trans f2).trans f3
    obtain ⟨p, rfl⟩ : ∃ p : Nat, r' = (p : Int) - 2 := ⟨r'.toNat + 2, by omega⟩
    have en : (2 : Int) + ((n : Int) - 2) = (n : Int) := by omega
    have ep : (2 : Int) + ((p : Int) - 2) = (p : Int) := by omega
    refine ⟨2, (p : Int) - 2, rfl, rfl, vn n, vn p, (by show [V.int (2 + ((n : Int) - 2)), V.int (2 + ((p : Int) - 2))] = _; rw [en, ep]; rfl), ?_⟩
    -- the steps
    refine ⟨Nat.zero_le _, fun t ht => ?_⟩
    have hq0 : H t = none := f.back ht
    have hqS : S t = none := f.backS ht
    have ntd : t ≠ d := ds3.ne ht
    refine ⟨_, rfl, 1, (n : Int), rfl, ⟨by decide, by decide, by omega, by omega⟩, for_range (lo := 1) (n := ((n : Int) - 1).toNat) (fun i σ H' => ∃ (ss : List Nat) (c : Option V), σ = [some (.ref d), some (vn m), some (vn n), some (vn p), some (.ref t), c] ∧ GsOk n p i ss ∧ H' t = some (.lst (ss.map vn)) ∧ Fr (M1 d) S H S H' ∧ DS d H')
      ⟨[], none, rfl, ⟨.nil, fun s h => absurd h (by simp), fun s h => absurd h (by simp), by show 0 < p; omega⟩, upd_same, f.new ht, ds3.new ht⟩ ?_ ?_⟩
    · rintro i σ H' hi ⟨ss, c, rfl, gs, et, f, ds⟩
      refine ⟨_, rfl, t, _, rfl, .inl (SqL.of et), _, rfl, (p : Int), 1, rfl, rfl, _, _, rfl, rfl, _, rfl, ite2 (fun h0 => ?_) (fun h0 => ?_)⟩
      · have h1 := of_decide_eq_true h0
        rw [List.length_map] at h1
        refine ⟨_, rfl, d, 3, S, rfl, f.b, hd, ds, by decide, by decide, fun r H4 r0 r1 f4 ds4 => ?_⟩
        refine ⟨rfl, _, rfl, ite2 (fun h2 => ?_) (fun h2 => ?_)⟩
        · have et4 := f4.c t _ ntd et
          refine ⟨_, rfl, .inl ⟨rfl, _, SqL.of et4⟩, _, rfl, t, _, _, rfl, rfl, et4, szl100 (by rw [List.length_map]; omega), ?_⟩
          refine ⟨ss ++ [1 + i], _, rfl, gsOk_snoc gs (by omega), ?_, (f.trans f4).mut hqS (.inr hq0), ds4.upd (fun z => ntd z.symm)⟩
          rw [upd_same, List.map_append]
          have : (V.int (1 + (i : Int))) = vn (1 + i) := congrArg V.int (by omega)
          rw [this]
          rfl
        · exact ⟨ss, _, rfl, gsOk_next gs, f4.c t _ ntd et, f.trans f4, ds4⟩
      · exact ⟨ss, _, rfl, gsOk_next gs, et, f, ds⟩
    · rintro σ H' ⟨ss, c, rfl, gs, et, f, ds⟩
      -- none: one is drawn
      refine ⟨fun σ' H' => ∃ (ss : List Nat) (t' : Addr), σ' = [some (.ref d), some (vn m), some (vn n), some (vn p), some (.ref t'), c] ∧ GsOk n p (n - 1) ss ∧ 1 ≤ ss.length ∧ H' t' = some (.lst (ss.map vn)) ∧ Fr (M1 d) S H S H' ∧ DS d H', ?_, ?_⟩
      · refine ⟨_, rfl, Nat.zero_le _, fun e he => ?_⟩
        have et2 : (upd H' e (.lst [])) t = some (.lst (ss.map vn)) := by rw [upd_ne (ne_of_none et he)]; exact et
        refine ⟨_, _, .lst (SqL.of et2) (dpAll_vn ss), .lst (SqL.of upd_same) .nil, ?_, by decide +kernel, _, rfl, ?_⟩
        · have : (ss.map fun (k : Nat) => PyData.int (k : Int)) = (ss.map (fun (k : Nat) => (k : Int))).map .int := by rw [List.map_map]; rfl
          rw [this]
          exact dL_shaped _
        · rw [eqv_nil]
          have fe := f.new (o := .lst []) he
          cases ss with
          | nil =>
            refine iteT ?_
            refine ⟨_, rfl, _, rfl, (n : Int), 1, rfl, rfl, d, _, S, rfl, fe.b, hd, ds.new he, by omega, by omega, fun r H4 r0 r1 f4 ds4 => ?_⟩
            obtain ⟨k, rfl⟩ : ∃ k : Nat, r = (k : Int) - 1 := ⟨r.toNat + 1, by omega⟩
            refine ⟨1, (k : Int) - 1, rfl, rfl, by show 1 ≤ sizeLine; decide, fun u hu => ?_⟩
            refine ⟨[k], u, rfl, ⟨List.pairwise_singleton _ _, fun s h => ?_, fun s h => ?_, ?_⟩, Nat.le_refl _, ?_, (fe.trans f4).new hu, ds4.new hu⟩
            · rw [List.mem_singleton.mp h]; omega
            · rw [List.mem_singleton.mp h]; omega
            · show 1 < p; omega
            · rw [upd_same]
              show some (HO.lst [V.int (1 + ((k : Int) - 1))]) = _
              have : (1 : Int) + ((k : Int) - 1) = k := by omega
              rw [this]
              rfl
          | cons s0 ss' =>
            refine iteF ?_
            refine ⟨s0 :: ss', t, rfl, ?_, Nat.succ_le_succ (Nat.zero_le _), et2, fe, ds.new he⟩
            have : ((n : Int) - 1).toNat = n - 1 := by omega
            rw [this] at gs
            exact gs
      · rintro σ' H' ⟨ss, t', rfl, gs, l1, et, f, ds⟩
        refine ⟨_, rfl, _, rfl, _, rfl, t', _, rfl, .inl ⟨SqL.of et, fun u hu => ?_⟩⟩
        intro x dx hx hdx hne
        have fu := f.imm (o := .tup (ss.map vn)) hu
        have hg : GOk ⟨n, p, ss⟩ := ⟨by show 2 ≤ n; omega, by show n ≤ 12; omega, by show 2 ≤ p; omega, by show p ≤ 9; omega, l1, gs.le, gs.asc, gs.lo, fun s h => by have := gs.hi s h; show s < n; omega⟩
        have fd := (fu.new (o := .own x) hdx)
        have hx2 : (upd (upd H' u (.tup (ss.map vn))) dx (.own x)) x = none := by rw [upd_ne (Ne.symm hne)]; exact hx
        have fx := fd.new (o := .ins C dx []) hx2
        have sx : (upd S u (.tup (ss.map vn))) x = none := fd.backS hx2
        refine ⟨⟨n, p, ss⟩, u, x, dx, _, rfl, hg, fx.b, SqT.of upd_same, upd_same, sx, fun H5 f5 e5 => ⟨rfl, ?_⟩⟩
        have hx0 : H x = none := fd.back hx2
        have nxd : x ≠ d := by
          intro z
          subst z
          exact (DS.nn ‹DS _ H›) hx0
        have f6 : Fr (M1 d) (upd S u (.tup (ss.map vn))) (upd (upd (upd H' u (.tup (ss.map vn))) dx (.own x)) x (.ins C dx [])) (upd S u (.tup (ss.map vn))) H5 → True := fun _ => trivial
        have fall : Fr (M1 d) S H (upd (upd S u (.tup (ss.map vn))) x (.ins C dx (gflds ⟨n, p, ss⟩ u))) H5 := by
          have f7 : Fr (fun p => p = d ∨ p = x) S H (upd S u (.tup (ss.map vn))) H5 := (fx.weak fun _ z => .inl z).trans (f5.weak fun _ z => .inr z)
          have f8 := f7.seal e5 sx hx0
          exact ⟨f8.a, f8.b, fun p o hm e => f8.c p o (fun z => z.elim hm fun y => by subst y; rw [hx0] at e; cases e) e, f8.d, f8.e⟩
        have dsd : DS d H5 := by
          obtain ⟨a, b, r, e, z⟩ := ((((ds.new (o := .tup (ss.map vn)) hu).new (o := .own x) hdx).new (o := .ins C dx []) hx2))
          exact ⟨a, b, r, f5.c d _ (fun y => nxd y.symm) e, z⟩
        refine q _ x _ H5 hg (by show n ≤ m; omega) fall dsd ⟨dx, u, upd_same, ?_⟩
        exact Same.seqT (same_new sx) (SqT.of upd_same)
end
end Sw
set_option maxRecDepth 100000
set_option maxHeartbeats 4000000
namespace Sw
open PySem L2
open C8 (pss_cut tCut pe_c pe_mk pe_mt pe_mt0 pe_gc Cal Mak Met InsC call_isC)
/-! ### Game(..) in a law -/
theorem game_in {C : Addr} {S H : Hp} {x dx : Addr} (hS : Same S H) (hx : H x = none) (hdx : H dx = none) (ne : dx ≠ x) : Fr M0 S H S (upd (upd H dx (.own x)) x (.ins C dx [])) := by
  have h2 : (upd H dx (.own x)) x = none := by rw [upd_ne (Ne.symm ne)]; exact hx
  exact ((Fr.refl hS).new hdx).new h2
theorem game_out {K : PySem.W.Frag} {C : Addr} {S H H5 : Hp} {x dx u : Addr} {g : G} (hS : Same S H) (hx : H x = none) (hdx : H dx = none) (ne : dx ≠ x) (hu : SqT K S u (g.ss.map vn)) (f5 : Fr (M1 x) S (upd (upd H dx (.own x)) x (.ins C dx [])) S H5) (e5 : H5 x = some (.ins C dx (gflds g u))) :
    Fr M0 S H (upd S x (.ins C dx (gflds g u))) H5 ∧ GAt K C (upd S x (.ins C dx (gflds g u))) x g := by
  have f1 := game_in (C := C) hS hx hdx ne
  have f7 : Fr (M1 x) S H S H5 := f1.of0.trans f5
  have sx : S x = none := hS.free hx
  have f8 := f7.seal e5 sx hx
  refine ⟨⟨f8.a, f8.b, fun p o _ e => f8.c p o (fun y => by rw [show p = x from y, hx] at e; cases e) e, f8.d, f8.e⟩, dx, u, upd_same, Same.seqT (same_new sx) hu⟩
/-- an own error class without __init__, below ValueError -/
structure ExC (K : PySem.W.Frag) (mg : Str → Option Value) (nm : Str) (C : Addr) : Prop where
  x : PySem.W.excIn K C [.type "ValueError", .type "Exception", .type "BaseException", .type "object"] "ValueError.__new__" = true
  g : mg nm = some (.ref C)
  k : PySem.W.keepIn K (.ref C) = true
  b : PySem.W.subIn K (.ref C) (.type "BaseException") = some true
  t : PySem.W.typeIn K (.ref C) = some (.type "type")
  e : PySem.W.exmOne K (.ref C) (.ref C) = some true
theorem exm_self {K : PySem.W.Frag} {S : Addr} (h1 : PySem.W.subIn K (.ref S) (.type "BaseException") = some true) (h2 : PySem.W.isClsIn K S = true) (h3 : PySem.W.typeIn K (.ref S) = some (.type "type")) (h4 : PySem.W.subIn K (.ref S) (.ref S) = some true) :
    PySem.W.exmOne K (.ref S) (.ref S) = some true := by
  have e1 : (PySem.W.subIn K (.ref S) (.type "BaseException") == some true) = true := by rw [h1] <;> rfl
  have h2' : (PySem.W.clsIn K S).isSome = true := h2
  have e2 : ((PySem.W.clsIn K S).isSome && PySem.W.typeIn K (.ref S) == some (.type "type")) = true := by rw [h2', h3] <;> rfl
  show (if _ then (if _ then _ else none) else none) = some true
  rw [if_pos e1, if_pos e2]
  exact h4
section
variable {P : Program} {w : World} {K : PySem.W.Frag} {mg : Str → Option Value} {base : Heap}
/-- as FunD.ok, for a def that may raise -/
theorem okDX {x qual : Str} {params : Arguments} {body : List Stmt} {scope : Scope} {dvs : List V} {kws : List (Str × V)} {f : Addr} {fd : FuncData} {N ps : List Str} {k : Nat} {sp : Sp} (F : FunD K x qual params body scope dvs kws f fd) (S : FnScope N ps scope) (len : ∀ vs H Q E, sp vs H Q E → vs.length = ps.length)
    (hbody : ∀ (cdv : Value) (A : Around) (outer : List Env) (s : Shared) (H : Hp) (vs : List V) (Q : VK) (E : XK), Room k (A.deeper (PyProof.Rows.envOfC qual scope s.heap.objs.size f cdv)) → sp vs H Q E →
      ∃ t, PSs (cxOf (L2.CX P w) P w K mg base N qual scope f cdv A outer s H E) body t ∧ t { nx := fun _ H' => Q .non H', rt := Q } (start N vs) H) : FnOk P w K mg base (L2.CX P w) (k + 1) f fd ps sp := by
  obtain ⟨oc, od, dV, kV, doc, pm, an, cdv, ct, osl, rfl, lk, hcd, _, _⟩ := F.ex
  exact fn_of lk hcd S len fun A outer s H vs Q E hr hsp => hbody cdv A outer s H vs Q E hr hsp
end
/-! ### rows -/
abbrev RowAt (K : PySem.W.Frag) (H : Hp) (a : Addr) (l : List Int) : Prop := SqT K H a (l.map V.int)
def fillL (p : Nat) (l : List Int) : List Int := l.map (fillN p)
def rndG (g : G) (l : List Int) : List Int := rnd g.n g.p g.ss l
theorem rndG_len {g : G} {l : List Int} : (rndG g l).length = g.n := rnd_len
def RowOk (g : G) (l : List Int) : Prop := l.length = g.n ∧ ∀ x ∈ l, 0 ≤ x ∧ x ≤ 1000000000000000000000000000000
/-- a game, a row: what the functions of rows are passed -/
def PreR (K : PySem.W.Frag) (C : Addr) (vs : List V) (H : Hp) (g : G) (l : List Int) (S : Hp) (rest : List V) : Prop :=
  ∃ x a, vs = .ref x :: .ref a :: rest ∧ GOk g ∧ Same S H ∧ GAt K C S x g ∧ RowAt K S a l ∧ l.length = g.n
theorem map_snoc {l : List Int} {i : Nat} {z : Int} (f : Int → Int) (h : l[i]? = some z) : ((l.take (i + 1)).map f).map V.int = ((l.take i).map f).map V.int ++ [V.int (f z)] := by
  rw [take_snoc h, List.map_append, List.map_append]
  rfl
theorem mapD_at {n p : Nat} {l : List Int} (hl : l.length = n) {k : Nat} (hk : k < n) : ((l.map (shN p)).map V.int)[k]? = some (.int ((l.map (shN p)).getD k 0)) := by
  have h1 : k < (l.map (shN p)).length := by rw [List.length_map]; omega
  rw [List.getElem?_map, List.getD_eq_getElem?_getD, List.getElem?_eq_getElem h1]
  rfl
/-- a value that may be a whole number from lo to hi -/
def InV (K : PySem.W.Frag) (S : Hp) (v : V) (lo hi : Int) (ok : Bool) : Prop := (∃ i, v = .int i ∧ ok = (decide (lo ≤ i) && decide (i ≤ hi))) ∨ (ok = false ∧ ∀ H', Same S H' → Whole K H' v false)
theorem InV.mono {K : PySem.W.Frag} {S S' : Hp} {v : V} {lo hi : Int} {ok : Bool} (s : Same S S') (h : InV K S v lo hi ok) : InV K S' v lo hi ok := h.elim .inl fun z => .inr ⟨z.1, fun H' s' => z.2 H' (s.trans s')⟩
theorem InV.ask {K : PySem.W.Frag} {S H : Hp} {v : V} {lo hi : Int} {ok : Bool} {Q : VK} (h : InV K S v lo hi ok) (s : Same S H) (q : Q (.bl ok) H) : (∃ i, v = .int i ∧ Q (.bl (decide (lo ≤ i) && decide (i ≤ hi))) H) ∨ (Whole K H v false ∧ Q (.bl false) H) := by
  rcases h with ⟨i, rfl, e⟩ | ⟨e, z⟩
  · exact .inl ⟨i, rfl, by rw [← e]; exact q⟩
  · exact .inr ⟨z H s, by rw [← e]; exact q⟩
theorem inV_nat {K : PySem.W.Frag} {S : Hp} {k : Nat} {lo hi : Int} (h : lo ≤ k ∧ (k : Int) ≤ hi) : InV K S (vn k) lo hi true := .inl ⟨k, rfl, (not_between h).symm⟩
/-! ### games kept, and what is no game -/
def gEq (g h : G) : Bool := decide (g.n = h.n) && (decide (g.p = h.p) && decide (g.ss = h.ss))
theorem vnI {a b : Nat} (h : vn a = vn b) : a = b := by
  have := V.int.inj h
  omega
theorem dp_vnT {K : PySem.W.Frag} {H : Hp} {a : Addr} {ss : List Nat} (h : SqT K H a (ss.map vn)) : Dp K H (.ref a) (dT (ss.map fun (k : Nat) => (k : Int))) := by
  refine dp_tupI ?_
  rw [List.map_map]
  exact h
def spGEq (K : PySem.W.Frag) (C : Addr) : Sp := fun vs H Q _ => ∃ (x : Addr) (g : G) (y : V) (S : Hp), vs = [.ref x, y] ∧ Same S H ∧ GAt K C S x g ∧
  ((∃ x2 h, y = .ref x2 ∧ GAt K C S x2 h ∧ Q (.bl (gEq g h)) H) ∨ (∃ t, TyX K H y (.type t) ∧ PySem.W.kitOne K (.type t) (.ref C) = some false ∧ Q (.bl false) H))
structure NotC (K : PySem.W.Frag) (t : String) (C : Addr) : Prop where
  k : PySem.W.kitOne K (.type t) (.ref C) = some false
  s : PySem.W.notFirst K C (.type t) = true
/-- the least that may follow -/
def leastOf (ks : List Nat) : Nat := match ks.getLast? with
  | none => 1
  | some k => k + 1
theorem leastOf_snoc (ks : List Nat) (k : Nat) : leastOf (ks ++ [k]) = k + 1 := by
  unfold leastOf
  rw [List.getLast?_concat]
/-- steps, so far as they go -/
def StepsUpTo (n : Nat) (ks : List Nat) : Prop := ∀ (j k : Nat), ks[j]? = some k → leastOf (ks.take j) ≤ k ∧ k < n
/-- what is told of a value that is passed as steps -/
inductive StepsV (K : PySem.W.Frag) (S : Hp) (n p : Nat) : V → Option (Option Nat) → Prop
  | odd {v : V} {t : Value} (h : ∀ H', Same S H' → TyX K H' v t) (k : PySem.W.kitOne K t (.type "tuple") = some false) : StepsV K S n p v (some none)
  | cnt {a : Addr} {xs : List V} (s : SqT K S a xs) (h : xs.length = 0 ∨ p ≤ xs.length) : StepsV K S n p (.ref a) (some none)
  | bad {a : Addr} {ks : List Nat} {y : V} {r : List V} (s : SqT K S a (ks.map vn ++ y :: r)) (h : ks.length + 1 + r.length < p) (u : StepsUpTo n ks) (hy : InV K S y (leastOf ks) ((n : Int) - 1) false) : StepsV K S n p (.ref a) (some (some ks.length))
  | ok {a : Addr} {ks : List Nat} (s : SqT K S a (ks.map vn)) (h1 : 1 ≤ ks.length) (h : ks.length < p) (u : StepsUpTo n ks) : StepsV K S n p (.ref a) none
theorem StepsV.mono {K : PySem.W.Frag} {S S' : Hp} {n p : Nat} {v : V} {r : Option (Option Nat)} (s : Same S S') (h : StepsV K S n p v r) : StepsV K S' n p v r := by
  cases h with
  | odd h k => exact .odd (fun H' s' => h H' (s.trans s')) k
  | cnt h1 h2 => exact .cnt (Same.seqT s h1) h2
  | bad h1 h2 h3 h4 => exact .bad (Same.seqT s h1) h2 h3 (h4.mono s)
  | ok h1 h2 h3 h4 => exact .ok (Same.seqT s h1) h2 h3 h4
/-- steps that go wrong at most at their end's place -/
theorem StepsV.cases3 {K : PySem.W.Frag} {S : Hp} {n p : Nat} {v : V} {r : Option (Option Nat)} (h : StepsV K S n p v r) :
    (r = some none ∧ ∃ t, (∀ H', Same S H' → TyX K H' v t) ∧ PySem.W.kitOne K t (.type "tuple") = some false) ∨ (r = some none ∧ ∃ a xs, v = .ref a ∧ SqT K S a xs ∧ (xs.length = 0 ∨ p ≤ xs.length)) ∨
    ∃ a xs ks, v = .ref a ∧ SqT K S a xs ∧ 1 ≤ xs.length ∧ xs.length < p ∧ StepsUpTo n ks ∧ (∀ (j : Nat) k, ks[j]? = some k → xs[j]? = some (vn k)) ∧
      ((r = none ∧ ks.length = xs.length) ∨ (r = some (some ks.length) ∧ ks.length < xs.length ∧ ∀ y, xs[ks.length]? = some y → InV K S y (leastOf ks) ((n : Int) - 1) false)) := by
  cases h with
  | odd h k => exact .inl ⟨rfl, _, h, k⟩
  | cnt s h => exact .inr (.inl ⟨rfl, _, _, rfl, s, h⟩)
  | @bad a ks y q s h u hy =>
    refine .inr (.inr ⟨a, _, ks, rfl, s, ?_, ?_, u, fun j k hj => ?_, .inr ⟨rfl, ?_, fun z hz => ?_⟩⟩)
    · simp
      omega
    · simp
      omega
    · have hl := (List.getElem?_eq_some_iff.mp hj).1
      rw [List.getElem?_append_left (by rw [List.length_map]; exact hl), List.getElem?_map, hj]
      rfl
    · simp
    · rw [List.getElem?_append_right (by rw [List.length_map]; omega), List.length_map, Nat.sub_self] at hz
      rw [← Option.some.inj hz]
      exact hy
  | @ok a ks s h1 h u =>
    refine .inr (.inr ⟨a, _, ks, rfl, s, by rw [List.length_map]; exact h1, by rw [List.length_map]; exact h, u, fun j k hj => ?_, .inl ⟨rfl, by rw [List.length_map]⟩⟩)
    rw [List.getElem?_map, hj]
    rfl
theorem gUpTo {g : G} (hg : GOk g) : StepsUpTo g.n g.ss := by
  intro j k hk
  refine ⟨?_, hg.hi k (List.mem_of_getElem? hk)⟩
  unfold leastOf
  cases j with
  | zero => exact hg.lo k (List.mem_of_getElem? hk)
  | succ j =>
    have hj : j < g.ss.length := by
      have := (List.getElem?_eq_some_iff.mp hk).1
      omega
    have e : g.ss[j]? = some g.ss[j] := List.getElem?_eq_getElem hj
    rw [take_snoc e, List.getLast?_concat]
    exact asc_at hg.asc e hk
def toldI : Option Nat → V
  | none => .non
  | some i => .int (i : Int)
def spStepsX (K : PySem.W.Frag) (CS : Addr) : Sp := fun vs H Q E => ∃ (n p : Nat) (v : V) (S : Hp) (r : Option (Option Nat)), vs = [vn n, vn p, v] ∧ p ≤ 9 ∧ Same S H ∧ StepsV K S n p v r ∧
  (r = none → ∀ H', Fr M0 S H S H' → Q .non H') ∧ ∀ i, r = some i → ∀ d H', Fr M0 S H S H' → H' d = some (.xd [("index", toldI i)]) → E (.ref CS) (some d) H'
/-! ### texts of games -/
open SX (S) in
def wordG (n : Nat) : Str := S (TL.numL n)
/-- the words of a game -/
def wordsG (g : G) : List Str := "ring" :: (g.n :: g.p :: g.ss).map wordG
def txtG (g : G) : Str := Txt.join " " (wordsG g)
/-- the number from lo to hi that a word is -/
def numOf (ws : List Str) (i lo hi : Nat) : Option Nat := if i < ws.length then (List.range (hi + 1 - lo)).find? (fun k => decide (ws.getD i "" = wordG (lo + k))) |>.map (lo + ·) else none
/-- the steps that stand in words, or the place of the first word that is wrong -/
def stepsGo (ws : List Str) (n p : Nat) : Nat → Nat → List Nat → Except Nat (List Nat)
  | 0, _, acc => .ok acc
  | k + 1, i, acc => if acc.length = p - 1 then .error i else match numOf ws i (leastOf acc) (n - 1) with
    | none => .error i
    | some s => stepsGo ws n p k (i + 1) (acc ++ [s])
def readW (ws : List Str) : Except Nat G := if ws.getD 0 "" ≠ "ring" then .error 0 else match numOf ws 1 2 12 with
  | none => .error 1
  | some n => match numOf ws 2 2 9 with
    | none => .error 2
    | some p => match stepsGo ws n p (max ws.length 4 - 3) 3 [] with
      | .error i => .error i
      | .ok ss => .ok ⟨n, p, ss⟩
def toldW : Option Nat → V
  | none => .non
  | some i => .int (i : Int)
def spWrite (K : PySem.W.Frag) (C : Addr) : Sp := fun vs H Q _ => ∃ (x : Addr) (g : G) (S : Hp), vs = [.ref x] ∧ GOk g ∧ Same S H ∧ GAt K C S x g ∧ ∀ H', Fr M0 S H S H' → Q (.str (txtG g)) H'
theorem str_num (n : Nat) : Str.ofString (toString ((n : Nat) : Int)) = wordG n := SX.num_S n
theorem num_le {g : G} (hg : GOk g) {n : Nat} (h : n ∈ g.n :: g.p :: g.ss) : n ≤ 12 := by
  have n2 := hg.n2
  rcases List.mem_cons.mp h with rfl | h
  · exact n2
  · rcases List.mem_cons.mp h with rfl | h
    · have := hg.p2; omega
    · have := hg.hi n h; omega
theorem word_len : ∀ n, n < 13 → (wordG n).length ≤ 2 := by decide +kernel
theorem words_len (l : List Nat) (h : ∀ n ∈ l, n ≤ 12) : ((l.map wordG).map (·.length)).sum ≤ 2 * l.length := by
  induction l with
  | nil => exact Nat.le_refl _
  | cons n r ih =>
    have h1 := word_len n (by have := h n (by simp); omega)
    have h2 := ih fun m hm => h m (List.mem_cons_of_mem _ hm)
    simp only [List.map_cons, List.sum_cons, List.length_cons] at h2 ⊢
    omega
theorem words_size {g : G} (hg : GOk g) : ((wordsG g).map (·.length)).sum + (wordsG g).length * (" " : Str).length ≤ 16777216 := by
  have h := words_len (g.n :: g.p :: g.ss) fun n hn => num_le hg hn
  have l2 := hg.l2
  have p2 := hg.p2
  have e1 : ("ring" : Str).length = 4 := by decide +kernel
  have e2 : (" " : Str).length = 1 := by decide +kernel
  unfold wordsG
  rw [e2]
  simp only [List.map_cons, List.sum_cons, List.length_cons, List.length_map, e1] at h ⊢
  omega
section
variable {P : Program} {w : World} {K : PySem.W.Frag} {mg : Str → Option Value} {base : Heap}
theorem ok_write {f C : Addr} {fd : FuncData} (F : Fun K "write" "write" s_write f fd) (T : Txt K mg) (p_children : Prp P w K mg base 1 C "children" "_children") (p_parts : Prp P w K mg base 1 C "parts" "_parts")
    (p_steps : Prp P w K mg base 1 C "steps" "_steps") : FnOk P w K mg base CX0 3 f fd ["game"] (spWrite K C) := by
  refine F.ok sc_write (fun vs H Q E h => ?_) (fun cdv A outer s H vs Q E hr h => ?_)
  · obtain ⟨x, g, S, rfl, _⟩ := h
    rfl
  · obtain ⟨x, g, S, rfl, hg, hS, hG, q⟩ := h
    refine ⟨_, (pss_cons (ps_set (i := 1) sc_write.nd rfl (Or.inl rfl) (pe_op op_catF (pe_tup (pa_cons (pe_pr p_children hr (by decide) (pv 0)) (pa_cons (pe_pr p_parts hr (by decide) (pv 0)) pa_nil))) (pe_pr p_steps hr (by decide) (pv 0))))
      (pss_one (ps_ret (pe_join pe_str (pe_op op_cat (pe_lst (pa_cons (pe_gc (by rfl) T.v_FIRST_WORD) pa_nil)) (pe_lc (own := [("number", 2)]) rfl sc_write.nd (pi_tup (pv 1)) (blkOk_by (own := [("number", 2)]) (N := ["game", "numbers", "number"]) (sc := defScope s_write) (by decide +kernel)) (fun _ _ _ _ _ => pg_name (i := 2) sc_write.nd rfl (Or.inl rfl)) (fun _ _ _ _ _ => pts_nil) (fun _ _ _ _ _ => (pe_callTy call_str_int (by rfl) T.z_str (by decide +kernel) (pa_cons (pv 2) pa_nil))))))))), ?_⟩
    obtain ⟨dx, t, eG, hT⟩ := id hG
    have eH := hS _ _ eG
    refine ⟨_, rfl, x, dx, _, rfl, eH, x, dx, _, _, rfl, eH, gf_c g t, _, rfl, x, dx, _, rfl, eH, x, dx, _, _, rfl, eH, gf_p g t, by show 2 ≤ sizeLine; decide, fun u hu => ?_⟩
    have f1 := (Fr.refl (M := M0) hS).imm (o := .tup [vn g.n, vn g.p]) hu
    have eH1 := f1.b _ _ (f1.a _ _ eG)
    have l2 := hg.l2
    have p2 := hg.p2
    refine ⟨_, rfl, x, dx, _, rfl, eH1, x, dx, _, _, rfl, eH1, gf_s g t, _, u, t, _, _, rfl, rfl, f1.b, SqT.of upd_same, Same.seqT f1.a hT, sz100 (by rw [List.length_map]; show 2 + g.ss.length ≤ 100000; omega), fun p S2 H2 f2 q2 => ?_⟩
    have q2 : SqT K S2 p ((g.n :: g.p :: g.ss).map vn) := q2
    have f12 := f1.trans f2
    refine ⟨⟨_, rfl⟩, by show 1 ≤ sizeLine; decide, fun l hl => ?_⟩
    have f3 := f12.new (o := .lst [.str "ring"]) hl
    refine ⟨_, rfl, p, rfl, ⟨_, Same.seqT f3.b q2⟩, fun D hD => ?_⟩
    have nlD : l ≠ D := ne_of_none upd_same hD
    have hDS : S2 D = none := f3.b.free hD
    have hD0 : H D = none := f3.back hD
    refine lc_tup (K := K) (a := p) (xs := (g.n :: g.p :: g.ss).map vn) (fun i H' => H' D = some (.lst ((((g.n :: g.p :: g.ss).take i).map wordG).map V.str)) ∧ H' l = some (.lst [.str "ring"]) ∧ Fr M0 S H S2 H')
      ⟨upd_same, by rw [upd_ne nlD]; exact upd_same, f3.new hD⟩ (fun i H' _ ⟨_, _, f⟩ => Same.seqT f.b q2) ?_ ?_
    · rintro i v H' hv ⟨eD, el, f⟩
      rw [List.getElem?_map] at hv
      cases en : (g.n :: g.p :: g.ss)[i]? with
      | none => rw [en] at hv; cases hv
      | some n =>
        rw [en] at hv
        have ev := (Option.some.inj hv).symm
        subst ev
        have hn : n ≤ 12 := num_le hg (List.mem_of_getElem? en)
        refine ⟨rfl, _, rfl, (n : Int), rfl, Nat.lt_of_le_of_lt (Nat.log2_le_self _) (by omega), ?_⟩
        rw [str_num]
        refine ⟨_, eD, szl100 (by simp only [List.length_map, List.length_take, List.length_cons]; omega), ?_, by rw [upd_ne nlD]; exact el, f.mut hDS (.inr hD0)⟩
        rw [upd_same, take_snoc en, List.map_append, List.map_append]
        rfl
    · rintro H' ⟨eD, el, f⟩
      rw [List.length_map, List.take_length] at eD
      refine ⟨l, D, _, _, rfl, rfl, el, eD, sz100 (by simp only [List.length_map, List.length_cons, List.length_nil]; omega), fun r hr => ?_⟩
      refine ⟨" ", r, wordsG g, rfl, rfl, .inl (SqL.of upd_same), words_size hg, ?_⟩
      exact q _ (f.new hr).still
end
end Sw
set_option maxRecDepth 100000
set_option maxHeartbeats 4000000
namespace Sw
open PySem L2
open C8 (pss_cut tCut pe_c pe_mk pe_mt pe_mt0 pe_gc Cal Mak Met InsC call_isC)
section
variable {P : Program} {w : World} {K : PySem.W.Frag} {mg : Str → Option Value} {base : Heap}
theorem ok_BadText_init {f C : Addr} {fd : FuncData} (F : Fun K "__init__" "BadText.__init__" s_BadText_init f fd) (o : OexC K C) (no : PySem.W.findIn K (.ref C) "word" = some none) : FnOk P w K mg base CX0 1 f fd ["self", "word"] (SwV.spIniF C "word") := by
  refine F.ok sc_BadText_init (fun vs H Q E h => ?_) (fun cdv A outer s H vs Q E hr h => ?_)
  · obtain ⟨a, v, rfl, _⟩ := h
    rfl
  · obtain ⟨a, v, rfl, ha, q⟩ := h
    exact ⟨_, pss_one (ps_ost (pv 0) (pv 1)), v, rfl, _, rfl, a, C, rfl, o, no, .inl ⟨ha, fun dx nd ne => q dx nd ne⟩⟩
end
section
variable {P : Program} {w : World} {K : PySem.W.Frag} {mg : Str → Option Value} {base : Heap}
def spReadNum (K : PySem.W.Frag) (CT : Addr) : Sp := fun vs H Q E => ∃ (a : Addr) (ws : List Str) (i lo hi : Nat) (S : Hp), vs = [.ref a, .int (i : Int), .int (lo : Int), .int (hi : Int)] ∧ Same S H ∧ SqL K S a (ws.map V.str) ∧ ws.length ≤ 100000 ∧ lo ≤ 13 ∧ hi ≤ 12 ∧ i ≤ 100000 ∧
  (∀ n, numOf ws i lo hi = some n → Q (.int (n : Int)) H) ∧ (numOf ws i lo hi = none → ∀ d H', Fr M0 S H S H' → H' d = some (.xd [("word", .int (i : Int))]) → E (.ref CT) (some d) H')
theorem find_hit {p : Nat → Bool} {i n : Nat} (hi : i < n) (h0 : ∀ k, k < i → p k = false) (hp : p i = true) : (List.range n).find? p = some i := by
  rw [List.find?_range_eq_some]
  exact ⟨hp, List.mem_range.mpr hi, fun j hj => by rw [h0 j hj]; rfl⟩
theorem ok_read_number_x {f CX_BadText : Addr} {fd : FuncData} (F : Fun K "read_number" "read_number" s_read_number f fd) (T : Txt K mg) (EX_BadText : SwV.ExF P w K mg base "BadText" CX_BadText "word") :
    FnOk P w K mg base (L2.CX P w) 3 f fd ["words", "index", "least", "most"] (spReadNum K CX_BadText) := by
  refine F.okX sc_read_number (fun vs H Q E h => ?_) (fun cdv A outer s H vs Q E hr h => ?_)
  · obtain ⟨a, ws, i, lo, hi, S, rfl, _⟩ := h
    rfl
  · obtain ⟨a, ws, i, lo, hi, S, rfl, hS, hw, hwl, hlo, hhi, hi9, q1, q2⟩ := h
    refine ⟨_, (pss_cut (ps_if (pt_cmpR op_lt (pv 1) (pe_callB call_len_seq (by rfl) T.z_len (by decide +kernel) (pa_cons (pv 0) pa_nil)) (nomark _)) (pss_one (ps_for (L2.passes_of rfl) rfl (pi_range2 (by rfl) T.z_range (pa_cons (pv 2) (pa_cons (pe_op op_add (pv 3) pe_int) pa_nil))) (pg_name (i := 4) sc_read_number.nd rfl (Or.inl rfl))
      (pss_one (ps_if (pt_cmpR op_eq (pe_ix (r := rIxL K) ix_list (pv 0) (pv 1) (fun _ _ => rfl)) (pe_callTy call_str_int (by rfl) T.z_str (by decide +kernel) (pa_cons (pv 4) pa_nil)) (nomark _)) (pss_one (ps_ret (pv 4))) pss_nil)))) pss_nil)
      (pss_one (ps_raise rfl (L2.takes_of rfl rfl rfl rfl) (SwV.pmk_exf EX_BadText hr (by decide) (by rfl) (pa_cons (pv 1) pa_nil))))), ?_⟩
    refine ⟨fun σ H' => (∃ c, σ = [some (.ref a), some (.int (i : Int)), some (.int (lo : Int)), some (.int (hi : Int)), c]) ∧ H' = H ∧ numOf ws i lo hi = none, ?_, ?_⟩
    · have wH := hS.seq hw
      refine ⟨_, rfl, _, rfl, a, _, rfl, .inl wH, (i : Int), _, rfl, rfl, _, rfl, ite2 (fun h => ?_) (fun h => ?_)⟩
      · have hil : i < ws.length := by
          have := of_decide_eq_true h
          rw [List.length_map] at this
          omega
        have hat : (ws.map V.str)[i]? = some (.str (ws.getD i "")) := by
          rw [List.getElem?_map, List.getD_eq_getElem?_getD, List.getElem?_eq_getElem hil]
          rfl
        have hnum : numOf ws i lo hi = ((List.range (hi + 1 - lo)).find? (fun k => decide (ws.getD i "" = wordG (lo + k)))).map (lo + ·) := by
          unfold numOf
          rw [if_pos hil]
        refine ⟨_, rfl, _, rfl, (hi : Int), 1, rfl, rfl, (lo : Int), (hi : Int) + 1, rfl, ⟨by omega, by omega, by omega, by omega⟩, for_range (lo := (lo : Int)) (n := ((hi : Int) + 1 - (lo : Int)).toNat) (fun k σ H' => (∃ c, σ = [some (.ref a), some (.int (i : Int)), some (.int (lo : Int)), some (.int (hi : Int)), c]) ∧ H' = H ∧ ∀ j, j < k → decide (ws.getD i "" = wordG (lo + j)) = false)
          ⟨⟨none, rfl⟩, rfl, fun j hj => absurd hj (Nat.not_lt_zero j)⟩ ?_ ?_⟩
        · rintro k σ H' hk ⟨⟨c, rfl⟩, rfl, hno⟩
          have e1 : (lo : Int) + (k : Int) = ((lo + k : Nat) : Int) := by omega
          refine ⟨_, rfl, _, rfl, a, _, (i : Int), _, rfl, rfl, wH, at_of rfl hat, _, rfl, (lo : Int) + (k : Int), rfl, ?_, ?_⟩
          · rw [e1]
            exact Nat.lt_of_le_of_lt (Nat.log2_le_self _) (by omega)
          rw [e1, str_num]
          refine ⟨rfl, _, rfl, ite2 (fun h => ?_) (fun h => ?_)⟩
          · have he : ws.getD i "" = wordG (lo + k) := V.str.inj (of_decide_eq_true h)
            refine ⟨_, rfl, q1 _ ?_⟩
            rw [hnum, find_hit (i := k) (by omega) hno (decide_eq_true he)]
            rfl
          · refine ⟨⟨_, rfl⟩, rfl, fun j hj => ?_⟩
            by_cases hjk : j < k
            · exact hno j hjk
            · have : j = k := by omega
              subst this
              exact decide_eq_false fun z => h (decide_eq_true (congrArg V.str z))
        · rintro σ H' ⟨⟨c, rfl⟩, rfl, hno⟩
          refine ⟨⟨_, rfl⟩, rfl, ?_⟩
          rw [hnum, List.find?_eq_none.mpr]
          · rfl
          · intro k hk
            rw [List.mem_range] at hk
            rw [hno k (by omega)]
            decide
      · refine ⟨⟨none, rfl⟩, rfl, ?_⟩
        unfold numOf
        rw [if_neg]
        intro z
        exact h (decide_eq_true (by rw [List.length_map]; omega))
    · rintro σ H' ⟨⟨c, rfl⟩, rfl, hno⟩
      exact ⟨_, rfl, _, rfl, fun d nd => q2 hno d _ ((Fr.refl hS).new nd) upd_same⟩
end
end Sw
set_option maxRecDepth 100000
set_option maxHeartbeats 4000000
namespace Sw
open PySem L2
open C8 (pss_cut tCut pe_c pe_mk pe_mt pe_mt0 pe_gc Cal Mak Met InsC call_isC)
section
variable {P : Program} {w : World} {K : PySem.W.Frag} {mg : Str → Option Value} {base : Heap}
theorem numOf_le {ws : List Str} {i lo hi n : Nat} (h : numOf ws i lo hi = some n) : lo ≤ n ∧ n ≤ hi := by
  unfold numOf at h
  split at h
  · cases e : (List.range (hi + 1 - lo)).find? (fun k => decide (ws.getD i "" = wordG (lo + k))) with
    | none => rw [e] at h; cases h
    | some k =>
      rw [e] at h
      have := List.mem_range.mp (List.mem_of_find?_eq_some e)
      have e2 : lo + k = n := Option.some.inj h
      omega
  · cases h
def spReadSteps (K : PySem.W.Frag) (CT : Addr) : Sp := fun vs H Q E => ∃ (a : Addr) (ws : List Str) (n p : Nat) (S : Hp), vs = [.ref a, vn n, vn p] ∧ Same S H ∧ SqL K S a (ws.map V.str) ∧ ws.length ≤ 90000 ∧ 2 ≤ n ∧ n ≤ 12 ∧ 2 ≤ p ∧ p ≤ 9 ∧
  (∀ ss, stepsGo ws n p (max ws.length 4 - 3) 3 [] = .ok ss → ∀ t S' H', Fr M0 S H S' H' → SqT K S' t (ss.map vn) → Q (.ref t) H') ∧
  (∀ i, stepsGo ws n p (max ws.length 4 - 3) 3 [] = .error i → ∀ d H', Fr M0 S H S H' → H' d = some (.xd [("word", .int (i : Int))]) → E (.ref CT) (some d) H')
theorem ok_read_steps_x {f CX_BadText : Addr} {fd : FuncData} (F : Fun K "read_steps" "read_steps" s_read_steps f fd) (T : Txt K mg) (EX_BadText : SwV.ExF P w K mg base "BadText" CX_BadText "word") (cx_read_number : SwV.CalX P w K mg base 3 "read_number" (spReadNum K CX_BadText) []) :
    FnOk P w K mg base (L2.CX P w) 4 f fd ["words", "children", "parts"] (spReadSteps K CX_BadText) := by
  refine F.okX sc_read_steps (fun vs H Q E h => ?_) (fun cdv A outer s H vs Q E hr h => ?_)
  · obtain ⟨a, ws, n, p, S, rfl, _⟩ := h
    rfl
  · obtain ⟨a, ws, n, p, S, rfl, hS, hw, hwl, n1, n2, p1, p2, q1, q2⟩ := h
    refine ⟨_, (pss_cons (ps_set (i := 3) sc_read_steps.nd rfl (Or.inl rfl) (pe_lst pa_nil))
      (pss_cons (ps_set (i := 4) sc_read_steps.nd rfl (Or.inl rfl) pe_int)
      (pss_cons (ps_for (L2.passes_of rfl) rfl (pi_range2 (by rfl) T.z_range (pa_cons (pe_gc (by rfl) T.v_FIRST_STEP) (pa_cons (pe_callB (call_max2 rfl) (by rfl) T.z_max (by decide +kernel) (pa_cons (pe_callB call_len_seq (by rfl) T.z_len (by decide +kernel) (pa_cons (pv 0) pa_nil)) (pa_cons (pe_op op_add (pe_gc (by rfl) T.v_FIRST_STEP) pe_int) pa_nil))) pa_nil))) (pg_name (i := 5) sc_read_steps.nd rfl (Or.inl rfl))
      (pss_cons (ps_if (pt_cmpR op_eq (pe_callB call_len_seq (by rfl) T.z_len (by decide +kernel) (pa_cons (pv 3) pa_nil)) (pe_op op_sub (pv 2) pe_int) (nomark _)) (pss_one (ps_raise rfl (L2.takes_of rfl rfl rfl rfl) (SwV.pmk_exf EX_BadText hr (by decide) (by rfl) (pa_cons (pv 5) pa_nil)))) pss_nil)
      (pss_cons (ps_set (i := 6) sc_read_steps.nd rfl (Or.inl rfl) (SwV.pe_cx cx_read_number hr (by decide) (by rfl) (L2.takes_of rfl rfl rfl rfl) (pa_cons (pv 0) (pa_cons (pv 5) (pa_cons (pv 4) (pa_cons (pe_op op_sub (pv 1) pe_int) pa_nil))))))
      (pss_cons (ps_expr (pe_bm PySem.F.plainAttrs_list PySem.F.slot_list_append PySem.F.type_list_append mt_append (pv 3) (pa_cons (pv 6) pa_nil)))
      (pss_one (ps_set (i := 4) sc_read_steps.nd rfl (Or.inl rfl) (pe_op op_add (pv 6) pe_int)))))))
      (pss_one (ps_ret (pe_callTy call_tuple_of (by rfl) T.z_tuple (by decide +kernel) (pa_cons (pv 3) pa_nil))))))), ?_⟩
    refine ⟨Nat.zero_le _, fun st hst => ?_⟩
    have f0 := (Fr.refl (M := M0) hS).new (o := .lst []) hst
    have hstS : S st = none := hS.free hst
    have hml : ((ws.map V.str).length : Int) = (ws.length : Int) := by rw [List.length_map]
    refine ⟨_, rfl, a, _, rfl, .inl (f0.b.seq hw), 3, 1, rfl, rfl, _, _, rfl, 3, (if (3 : Int) + 1 > ((ws.map V.str).length : Int) then (3 : Int) + 1 else ((ws.map V.str).length : Int)), rfl, ⟨by decide, by decide, by split <;> omega, by split <;> omega⟩,
      for_range (lo := 3) (n := ((if (3 : Int) + 1 > ((ws.map V.str).length : Int) then (3 : Int) + 1 else ((ws.map V.str).length : Int)) - 3).toNat) (fun k σ H' => ∃ (acc : List Nat) (c5 c6 : Option V), σ = [some (.ref a), some (vn n), some (vn p), some (.ref st), some (vn (leastOf acc)), c5, c6] ∧
        H' st = some (.lst (acc.map vn)) ∧ acc.length ≤ k ∧ leastOf acc ≤ 13 ∧ Fr M0 S H S H' ∧ k ≤ max ws.length 4 - 3 ∧ stepsGo ws n p (max ws.length 4 - 3) 3 [] = stepsGo ws n p (max ws.length 4 - 3 - k) (3 + k) acc)
      ⟨[], none, none, rfl, upd_same, Nat.le_refl 0, by decide, f0, Nat.zero_le _, rfl⟩ ?_ ?_⟩
    · rintro k σ H' hk ⟨acc, c5, c6, rfl, est, hal, hle, f, hkm, hgo⟩
      have hk2 : k < max ws.length 4 - 3 := by
        split at hk <;> omega
      obtain ⟨m, hm⟩ : ∃ m, max ws.length 4 - 3 - k = m + 1 := ⟨max ws.length 4 - 3 - k - 1, by omega⟩
      rw [hm] at hgo
      have ei : V.int (3 + (k : Int)) = .int ((3 + k : Nat) : Int) := congrArg V.int (by omega)
      refine ⟨_, rfl, st, _, rfl, .inl (SqL.of est), _, rfl, (p : Int), 1, rfl, rfl, rfl, _, rfl, ite2 (fun h => ?_) (fun h => ?_)⟩
      · have hal2 : acc.length = p - 1 := by
          have := V.int.inj (of_decide_eq_true h)
          rw [List.length_map] at this
          omega
        have herr : stepsGo ws n p (max ws.length 4 - 3) 3 [] = .error (3 + k) := by
          rw [hgo]
          unfold stepsGo
          rw [if_pos hal2]
        refine ⟨_, rfl, _, rfl, fun d nd => ?_⟩
        rw [ei]
        exact q2 _ herr d _ (f.new nd) upd_same
      · have hal2 : ¬ acc.length = p - 1 := fun z => h (decide_eq_true (congrArg V.int (by rw [List.length_map]; omega)))
        have hstep : stepsGo ws n p (max ws.length 4 - 3) 3 [] = match numOf ws (3 + k) (leastOf acc) (n - 1) with
            | none => .error (3 + k)
            | some s => stepsGo ws n p m (3 + k + 1) (acc ++ [s]) := by
          rw [hgo]
          conv => lhs; unfold stepsGo
          rw [if_neg hal2]
          all_goals (cases numOf ws (3 + k) (leastOf acc) (n - 1) <;> rfl)
        have en : (n : Int) - 1 = ((n - 1 : Nat) : Int) := by omega
        refine ⟨_, rfl, _, rfl, _, rfl, _, rfl, (n : Int), 1, rfl, rfl, a, ws, 3 + k, leastOf acc, n - 1, S, ?_, f.b, hw, by omega, hle, by omega, by omega, fun s hs => ?_, fun hno d H2 f2 ed => ?_⟩
        · show [V.ref a, V.int (3 + (k : Int)), vn (leastOf acc), V.int ((n : Int) - 1)] ++ [] = _
          rw [ei, en]
          rfl
        · have hsl := numOf_le hs
          rw [hs] at hstep
          refine ⟨_, rfl, .inl ⟨rfl, _, SqL.of est⟩, _, rfl, st, _, _, rfl, rfl, est, szl100 (by rw [List.length_map]; split at hk <;> omega), ?_⟩
          refine ⟨_, rfl, (s : Int), 1, rfl, rfl, acc ++ [s], some (.int (3 + (k : Int))), some (.int (s : Int)), ?_, ?_, by rw [List.length_append, List.length_singleton]; omega, by rw [leastOf_snoc]; omega, f.mut hstS (.inr hst), hk2, ?_⟩
          · rw [leastOf_snoc]
            rfl
          · rw [upd_same, List.map_append]
            rfl
          · rw [hstep, show max ws.length 4 - 3 - (k + 1) = m by omega]
            rfl
        · rw [hno] at hstep
          rw [ei] at *
          exact q2 _ hstep d H2 (f.trans f2) ed
    · rintro σ H' ⟨acc, c5, c6, rfl, est, hal, hle, f, hkm, hgo⟩
      have e0 : max ws.length 4 - 3 - ((if (3 : Int) + 1 > ((ws.map V.str).length : Int) then (3 : Int) + 1 else ((ws.map V.str).length : Int)) - 3).toNat = 0 := by
        split <;> omega
      rw [e0] at hgo
      have hok : stepsGo ws n p (max ws.length 4 - 3) 3 [] = .ok acc := hgo
      refine ⟨_, rfl, st, _, rfl, .inl ⟨SqL.of est, fun u hu => ?_⟩⟩
      exact q1 _ hok u _ _ (f.imm hu) (SqT.of upd_same)
end
end Sw
set_option maxRecDepth 100000
set_option maxHeartbeats 4000000
namespace Sw
open PySem L2
open C8 (pss_cut tCut pe_c pe_mk pe_mt pe_mt0 pe_gc Cal Mak Met InsC call_isC)
section
variable {P : Program} {w : World} {K : PySem.W.Frag} {mg : Str → Option Value} {base : Heap}
def toldWn : Option Nat → V
  | none => .non
  | some i => .int (i : Int)
/-- a text, or a value that is none -/
def ReadV (K : PySem.W.Frag) (S : Hp) (v : V) (r : Option (Except Nat G)) : Prop := (∃ x : Str, v = .str x ∧ x.length ≤ 80000 ∧ r = some (readW (Txt.split x " "))) ∨ (r = none ∧ ∃ t, PySem.W.kitOne K t (.type "str") = some false ∧ ∀ H', Same S H' → TyX K H' v t)
def spRead (K : PySem.W.Frag) (C CT : Addr) : Sp := fun vs H Q E => ∃ (v : V) (S : Hp) (r : Option (Except Nat G)), vs = [v] ∧ Same S H ∧ ReadV K S v r ∧
  (∀ g, r = some (.ok g) → ∀ x S' H', Fr M0 S H S' H' → GAt K C S' x g → Q (.ref x) H') ∧
  (∀ i, (r = none ∧ i = none ∨ ∃ k, r = some (.error k) ∧ i = some k) → ∀ d H', Fr M0 S H S H' → H' d = some (.xd [("word", toldWn i)]) → E (.ref CT) (some d) H')
theorem spl_len (sep : List Nat) : ∀ (l : List Nat) (k : Nat) (acc : List Nat), (TL.spl sep k acc l).length ≤ l.length + 1 ∧ 0 < (TL.spl sep k acc l).length
  | [], k, acc => by rw [TL.spl_nil]; exact ⟨Nat.le_refl 1, Nat.zero_lt_one⟩
  | c :: r, 0, acc => by
    by_cases h : TL.pre sep (c :: r) = true
    · rw [TL.spl_hit h]
      have := spl_len sep r (sep.length - 1) []
      simp only [List.length_cons]
      omega
    · rw [TL.spl_miss (Bool.eq_false_iff.mpr h)]
      have := spl_len sep r 0 (acc ++ [c])
      simp only [List.length_cons]
      omega
  | c :: r, k + 1, acc => by
    have := spl_len sep r k acc
    show (TL.spl sep k acc r).length ≤ _ ∧ 0 < (TL.spl sep k acc r).length
    simp only [List.length_cons]
    omega
theorem split_S1 (x : Str) : Txt.split x " " = (TL.spl [32] 0 [] x.cps.toList).map SX.S := by
  have e : (" " : Str) = SX.S [32] := by decide +kernel
  rw [e, ← SX.split_S (by decide) (by decide), SX.S_tl]
theorem split_len (x : Str) (h : x.length ≤ 80000) : (Txt.split x " ").length ≤ 90000 := by
  rw [split_S1, List.length_map]
  have := (spl_len [32] x.cps.toList 0 []).1
  have e : x.cps.toList.length = x.length := by rw [Array.length_toList]; rfl
  omega
theorem split_pos (x : Str) : 0 < (Txt.split x " ").length := by
  rw [split_S1, List.length_map]
  exact (spl_len [32] x.cps.toList 0 []).2
theorem stepsGo_ok {ws : List Str} {n p : Nat} : ∀ (k i : Nat) (acc ss : List Nat), stepsGo ws n p k i acc = .ok ss → acc.length < p → acc.Pairwise (· < ·) → (∀ s ∈ acc, 1 ≤ s ∧ s < leastOf acc) → (∀ s ∈ acc, s ≤ n - 1) →
    ss.length < p ∧ ss.Pairwise (· < ·) ∧ (∀ s ∈ ss, 1 ≤ s) ∧ (∀ s ∈ ss, s ≤ n - 1) ∧ (0 < k → 0 < ss.length) ∧ acc.length ≤ ss.length
  | 0, i, acc, ss, h, h1, h2, h3, h4 => by
    have e : acc = ss := Except.ok.inj h
    subst e
    exact ⟨h1, h2, fun s hs => (h3 s hs).1, h4, fun z => absurd z (Nat.lt_irrefl 0), Nat.le_refl _⟩
  | k + 1, i, acc, ss, h, h1, h2, h3, h4 => by
    unfold stepsGo at h
    split at h
    · cases h
    · rename_i hl
      cases e : numOf ws i (leastOf acc) (n - 1) with
      | none => rw [e] at h; cases h
      | some s =>
        rw [e] at h
        have hs := numOf_le e
        have l1 : 1 ≤ leastOf acc := by
          unfold leastOf
          split <;> omega
        have := stepsGo_ok k (i + 1) (acc ++ [s]) ss h (by rw [List.length_append, List.length_singleton]; omega) (List.pairwise_append.mpr ⟨h2, List.pairwise_singleton _ _, fun a ha b hb => by rw [List.mem_singleton.mp hb]; have := (h3 a ha).2; omega⟩)
          (fun a ha => by
            rw [leastOf_snoc]
            rcases List.mem_append.mp ha with ha | ha
            · have := h3 a ha; omega
            · rw [List.mem_singleton.mp ha]; omega)
          (fun a ha => by
            rcases List.mem_append.mp ha with ha | ha
            · exact h4 a ha
            · rw [List.mem_singleton.mp ha]; exact hs.2)
        obtain ⟨g1, g2, g3, g4, g5, g6⟩ := this
        rw [List.length_append, List.length_singleton] at g6
        exact ⟨g1, g2, g3, g4, fun _ => by omega, by omega⟩
theorem readOk {ws : List Str} {n p : Nat} {ss : List Nat} (hn : 2 ≤ n ∧ n ≤ 12) (hp : 2 ≤ p ∧ p ≤ 9) (_ : ws.length ≤ 90000) (h : stepsGo ws n p (max ws.length 4 - 3) 3 [] = .ok ss) : GOk ⟨n, p, ss⟩ := by
  obtain ⟨g1, g2, g3, g4, g5, _⟩ := stepsGo_ok _ _ _ _ h (by show 0 < p; omega) .nil (fun s hs => absurd hs (by simp)) (fun s hs => absurd hs (by simp))
  exact ⟨hn.1, hn.2, hp.1, hp.2, g5 (by omega), g1, g2, g3, fun s hs => by show s < n; have := g4 s hs; omega⟩
theorem readW_e1 {ws : List Str} (h0 : ws.getD 0 "" = "ring") (h : numOf ws 1 2 12 = none) : readW ws = .error 1 := by
  unfold readW
  rw [if_neg (by rw [h0]; simp), h]
theorem readW_e2 {ws : List Str} {n : Nat} (h0 : ws.getD 0 "" = "ring") (h1 : numOf ws 1 2 12 = some n) (h : numOf ws 2 2 9 = none) : readW ws = .error 2 := by
  unfold readW
  rw [if_neg (by rw [h0]; simp), h1]
  dsimp only
  rw [h]
theorem readW_e3 {ws : List Str} {n p i : Nat} (h0 : ws.getD 0 "" = "ring") (h1 : numOf ws 1 2 12 = some n) (h2 : numOf ws 2 2 9 = some p) (h : stepsGo ws n p (max ws.length 4 - 3) 3 [] = .error i) : readW ws = .error i := by
  unfold readW
  rw [if_neg (by rw [h0]; simp), h1]
  dsimp only
  rw [h2]
  dsimp only
  rw [h]
theorem readW_ok {ws : List Str} {n p : Nat} {ss : List Nat} (h0 : ws.getD 0 "" = "ring") (h1 : numOf ws 1 2 12 = some n) (h2 : numOf ws 2 2 9 = some p) (h : stepsGo ws n p (max ws.length 4 - 3) 3 [] = .ok ss) : readW ws = .ok ⟨n, p, ss⟩ := by
  unfold readW
  rw [if_neg (by rw [h0]; simp), h1]
  dsimp only
  rw [h2]
  dsimp only
  rw [h]
theorem ok_read_x {f C CX_BadText : Addr} {fd : FuncData} (F : Fun K "read" "read" s_read f fd) (T : Txt K mg) (EX_BadText : SwV.ExF P w K mg base "BadText" CX_BadText "word") (cx_read_number : SwV.CalX P w K mg base 3 "read_number" (spReadNum K CX_BadText) [])
    (cx_read_steps : SwV.CalX P w K mg base 4 "read_steps" (spReadSteps K CX_BadText) []) (m_Game : Mak P w K mg base 4 "Game" C (spGame K C) []) : FnOk P w K mg base (L2.CX P w) 6 f fd ["text"] (spRead K C CX_BadText) := by
  refine F.okX sc_read (fun vs H Q E h => ?_) (fun cdv A outer s H vs Q E hr h => ?_)
  · obtain ⟨v, S, r, rfl, _⟩ := h
    rfl
  · obtain ⟨v, S, r, rfl, hS, hv, q1, q2⟩ := h
    refine ⟨_, (pss_cons (ps_if (pt_not (pt_val (pe_callB call_isi (by rfl) T.z_isinstance (by decide +kernel) (pa_cons (pv 0) (pa_cons (pe_bltn (v := .ty "str") (by rfl) T.z_str (by decide +kernel) rfl) pa_nil))))) (pss_one (ps_raise rfl (L2.takes_of rfl rfl rfl rfl) (SwV.pmk_exf EX_BadText hr (by decide) (by rfl) (pa_cons pe_non pa_nil)))) pss_nil)
      (pss_cons (ps_set (i := 1) sc_read.nd rfl (Or.inl rfl) (pe_split (pv 0) pe_str))
      (pss_cons (ps_if (pt_cmpR op_ne (pe_ix (r := rIxL K) ix_list (pv 1) pe_int (fun _ _ => rfl)) (pe_gc (by rfl) T.v_FIRST_WORD) (nomark _)) (pss_one (ps_raise rfl (L2.takes_of rfl rfl rfl rfl) (SwV.pmk_exf EX_BadText hr (by decide) (by rfl) (pa_cons pe_int pa_nil)))) pss_nil)
      (pss_cons (ps_set (i := 2) sc_read.nd rfl (Or.inl rfl) (SwV.pe_cx cx_read_number hr (by decide) (by rfl) (L2.takes_of rfl rfl rfl rfl) (pa_cons (pv 1) (pa_cons pe_int (pa_cons (pe_gc (by rfl) T.v_LEAST_CHILDREN) (pa_cons (pe_gc (by rfl) T.v_MOST_CHILDREN) pa_nil))))))
      (pss_cons (ps_set (i := 3) sc_read.nd rfl (Or.inl rfl) (SwV.pe_cx cx_read_number hr (by decide) (by rfl) (L2.takes_of rfl rfl rfl rfl) (pa_cons (pv 1) (pa_cons pe_int (pa_cons (pe_gc (by rfl) T.v_LEAST_PARTS) (pa_cons (pe_gc (by rfl) T.v_MOST_PARTS) pa_nil))))))
      (pss_one (ps_ret (pe_mk m_Game hr (by decide) (by rfl) (pa_cons (pv 2) (pa_cons (pv 3) (pa_cons (SwV.pe_cx cx_read_steps hr (by decide) (by rfl) (L2.takes_of rfl rfl rfl rfl) (pa_cons (pv 1) (pa_cons (pv 2) (pa_cons (pv 3) pa_nil)))) pa_nil))))))))))), ?_⟩
    rcases hv with ⟨x, rfl, hxl, rfl⟩ | ⟨rfl, ty, hk, hty⟩
    · refine ⟨_, rfl, _, _, _, _, true, rfl, .ty _, .base (.str x), kit_ty (by decide +kernel), true, rfl, iteF ?_⟩
      refine ⟨_, rfl, ⟨_, rfl⟩, x, " ", rfl, rfl, by decide +kernel, Nat.le_trans (show x.length + 2 ≤ 100000 by omega) (by decide), fun wl hwl => ?_⟩
      have f1 := (Fr.refl (M := M0) hS).imm (o := .lst ((Txt.split x " ").map V.str)) hwl
      have hw : SqL K (upd S wl (.lst ((Txt.split x " ").map V.str))) wl ((Txt.split x " ").map V.str) := SqL.of upd_same
      have hlen := split_len x hxl
      have hpos := split_pos x
      generalize Txt.split x " " = ws at f1 hw hlen hpos q1 q2
      generalize upd S wl _ = S1 at f1 hw
      generalize upd H wl _ = H1 at f1 ⊢
      have wH := f1.b.seq hw
      have hat0 : (ws.map V.str)[0]? = some (.str (ws.getD 0 "")) := by
        rw [List.getElem?_map, List.getD_eq_getElem?_getD, List.getElem?_eq_getElem hpos]
        rfl
      have err : ∀ k, readW ws = .error k → ∀ d H', Fr M0 S1 H1 S1 H' → H' d = some (.xd [("word", .int (k : Int))]) → E (.ref CX_BadText) (some d) H' := fun k hk d H' f ed =>
        q2 (some k) (.inr ⟨k, by rw [hk], rfl⟩) d H' (f1.trans f).still ed
      refine ⟨_, rfl, wl, _, 0, _, rfl, rfl, wH, atI_nat (j := 0) hat0, rfl, _, rfl, ?_⟩
      by_cases h0 : ws.getD 0 "" = "ring"
      · refine iteNS (congrArg V.str h0) ?_
        refine ⟨_, rfl, wl, ws, 1, 2, 12, S1, rfl, f1.b, hw, by omega, by decide, by decide, by decide, fun n hn => ?_, fun hno d H2 f2 ed => ?_⟩
        · refine ⟨_, rfl, wl, ws, 2, 2, 9, S1, rfl, f1.b, hw, by omega, by decide, by decide, by decide, fun p hp => ?_, fun hno d H2 f2 ed => ?_⟩
          · have hnl := numOf_le hn
            have hpl := numOf_le hp
            refine ⟨_, rfl, _, rfl, _, rfl, _, rfl, _, rfl, wl, ws, n, p, S1, rfl, f1.b, hw, hlen, hnl.1, hnl.2, hpl.1, hpl.2, fun ss hss t S2 H2 f2 ht => ?_, fun i hi d H2 f2 ed => ?_⟩
            · have hg : GOk ⟨n, p, ss⟩ := readOk hnl hpl hlen hss
              intro y dy hy hdy hyd
              refine ⟨⟨n, p, ss⟩, t, y, dy, S2, rfl, hg, (game_in f2.b hy hdy hyd).b, ht, upd_same, f2.b.free hy, fun H3 f3 e3 => ⟨rfl, ?_⟩⟩
              obtain ⟨fg, hG2⟩ := game_out f2.b hy hdy hyd ht f3 e3
              exact q1 ⟨n, p, ss⟩ (by rw [readW_ok h0 hn hp hss]) y _ H3 ((f1.trans f2).trans fg) hG2
            · exact err i (readW_e3 h0 hn hp hi) d H2 f2 ed
          · exact err 2 (readW_e2 h0 hn hno) d H2 f2 ed
        · exact err 1 (readW_e1 h0 hno) d H2 f2 ed
      · refine SwV.iteNT (fun z => h0 (V.str.inj z)) ⟨.int 0, rfl, fun d nd => ?_⟩
        have : readW ws = .error 0 := by
          unfold readW
          rw [if_pos h0]
        exact err 0 this d _ ((Fr.refl f1.b).new nd) upd_same
    · refine ⟨_, rfl, _, _, _, _, false, rfl, .ty _, hty H hS, hk, false, rfl, iteT ⟨.non, rfl, fun d nd => ?_⟩⟩
      exact q2 none (.inl ⟨rfl, rfl⟩) d _ ((Fr.refl hS).new nd) upd_same
end
end Sw
set_option maxRecDepth 100000
set_option maxHeartbeats 4000000
namespace Sw
open PySem L2
open C8 (pss_cut tCut pe_c pe_mk pe_mt pe_mt0 pe_gc Cal Mak Met InsC call_isC)
/-! ### the words of a text, read by an own look -/
/-- a text of these laws: not too long, its signs are signs -/
abbrev TxN (n : Nat) (x : Str) : Prop := x.length ≤ n ∧ ∀ c ∈ x.cps.toList, c < 1114112
abbrev TxOk (x : Str) : Prop := TxN 70000 x
theorem TxN.le {m n : Nat} {x : Str} (h : TxN m x) (l : m ≤ n) : TxN n x := ⟨Nat.le_trans h.1 l, h.2⟩
def numW (x : Str) (lo hi : Nat) : Option Nat := (List.range (hi + 1 - lo)).find? (fun k => decide (x = wordG (lo + k))) |>.map (lo + ·)
theorem numOf_W (ws : List Str) (i lo hi : Nat) : numOf ws i lo hi = if i < ws.length then numW (ws.getD i "") lo hi else none := rfl
def optV : Option Nat → V
  | none => .non
  | some n => vn n
theorem word_codes (n : Nat) : (wordG n).cps.toList = TL.numL n := rfl
theorem numW_none {x : Str} {lo hi : Nat} (hi12 : hi ≤ 12) (h : ¬ (NumText.AllDigits x.cps.toList ∧ x.cps.toList ≠ [] ∧ x.cps.toList.length ≤ 2)) : numW x lo hi = none := by
  unfold numW
  rw [List.find?_eq_none.mpr]
  · rfl
  · intro k hk z
    rw [List.mem_range] at hk
    have z := of_decide_eq_true z
    refine h ?_
    rw [z, word_codes]
    exact ⟨TL.numL_digits _, TL.numL_ne _, TL.numL_len (by decide) (Nat.lt_of_le_of_lt (show lo + k ≤ 12 by omega) (by decide))⟩
theorem word_val {x : Str} {n : Nat} (h : x = wordG n) : NumText.digitsVal x.cps.toList = n := by
  rw [h, word_codes, TL.numL_val]
theorem numW_hit {x : Str} {lo hi v : Nat} (hx : wordG v = x) (h1 : lo ≤ v) (h2 : v ≤ hi) : numW x lo hi = some v := by
  unfold numW
  have e1 : lo + (v - lo) = v := by omega
  have h0 : ∀ k, k < v - lo → decide (x = wordG (lo + k)) = false := fun k hk => decide_eq_false fun z => by
    have a := word_val z
    have b := word_val hx.symm
    omega
  rw [find_hit (i := v - lo) (by omega) h0 (decide_eq_true (by rw [e1]; exact hx.symm))]
  show some (lo + (v - lo)) = some v
  rw [e1]
theorem numW_miss {x : Str} {lo hi : Nat} (h : ∀ v, lo ≤ v → v ≤ hi → x ≠ wordG v) : numW x lo hi = none := by
  unfold numW
  rw [List.find?_eq_none.mpr]
  · rfl
  · intro k hk z
    rw [List.mem_range] at hk
    exact h (lo + k) (by omega) (by omega) (of_decide_eq_true z)
theorem digits_in {c : Nat} : c ∈ ("0123456789" : Str).cps.toList ↔ 48 ≤ c ∧ c ≤ 57 := by
  have e : ("0123456789" : Str).cps.toList = [48, 49, 50, 51, 52, 53, 54, 55, 56, 57] := by decide +kernel
  rw [e]
  simp only [List.mem_cons, List.not_mem_nil, or_false]
  omega
/-- the signs that are no figures -/
def oddS (x : Str) (i : Nat) : List Nat := (x.cps.toList.take i).filter fun c => !decide (c ∈ ("0123456789" : Str).cps.toList)
def sgn (c : Nat) : Str := ⟨#[c]⟩
theorem two_val {l : List Nat} (h : l.length ≤ 2) (hd : NumText.AllDigits l) : NumText.digitsVal l < 1000 := by
  match l, h with
  | [], _ => decide
  | [a], _ =>
    have := hd a (by simp)
    show 0 * 10 + (a - 48) < 1000
    omega
  | [a, b], _ =>
    have h1 := hd a (by simp)
    have h2 := hd b (by simp)
    show (0 * 10 + (a - 48)) * 10 + (b - 48) < 1000
    omega
theorem if_word {b : Bool} {ta : TE} {s x : Str} {σ : L2.St} {H : Hp} {Q : VK} (hA : b = true → ∀ Q' : VK, Q' (.str x) H → ta σ H Q') (hB : b = false → x = s) (key : Q (.str x) H) : if b = true then ta σ H Q else tC (.str s) σ H Q := by
  cases b
  · rw [if_neg (by decide)]
    show Q (.str s) H
    rw [← hB rfl]
    exact key
  · rw [if_pos rfl]
    exact hA rfl Q key
section
variable {P : Program} {w : World} {K : PySem.W.Frag} {mg : Str → Option Value} {base : Heap}
def spNum (K : PySem.W.Frag) : Sp := fun vs H Q _ => ∃ (a : Addr) (ws : List Str) (i lo hi : Nat) (S : Hp), vs = [.ref a, vn i, vn lo, vn hi] ∧ Same S H ∧ SqL K S a (ws.map V.str) ∧ ws.length ≤ 100000 ∧ (∀ x ∈ ws, TxOk x) ∧ hi ≤ 12 ∧ ∀ H', Fr M0 S H S H' → Q (optV (numOf ws i lo hi)) H'
theorem ok_law_number {f : Addr} {fd : FuncData} (F : Fun K "_law_number" "_law_number" s_law_number f fd) (T : Txt K mg) : FnOk P w K mg base CX0 1 f fd ["_law_words_so", "_law_at", "_law_low", "_law_high"] (spNum K) := by
  refine F.ok sc_law_number (fun vs H Q E h => ?_) (fun cdv A outer s H vs Q E hr h => ?_)
  · obtain ⟨a, ws, i, lo, hi, S, rfl, _⟩ := h
    rfl
  · obtain ⟨a, ws, i, lo, hi, S, rfl, hS, hw, hwl, hws, hhi, q⟩ := h
    refine ⟨_, (pss_cons (ps_set (i := 4) sc_law_number.nd rfl (Or.inl rfl) (pe_ifExp (pt_cmpR op_lt (pv 1) (pe_callB call_len_seq (by rfl) T.z_len (by decide +kernel) (pa_cons (pv 0) pa_nil)) (nomark _)) (pe_ix (r := rIxL K) ix_list (pv 0) (pv 1) (fun _ _ => rfl)) pe_str))
      (pss_cons (ps_if (PW.pt (pw_or (pt_cmpR op_eq (pv 4) pe_str (nomark _)) (pw_or (pt_cmpR op_gt (pe_callB call_len_str (by rfl) T.z_len (by decide +kernel) (pa_cons (pv 4) pa_nil)) pe_int (nomark _)) (pw_or1 (pt_cmpR (r := rNeD K) (op_neD hr.units) (pe_lc (own := [("_law_sign", 5)]) rfl sc_law_number.nd (pi_str (pv 4)) (blkOk_by (own := [("_law_sign", 5)]) (N := ["_law_words_so", "_law_at", "_law_low", "_law_high", "_law_word", "_law_sign"]) (sc := defScope s_law_number) (by decide +kernel)) (fun _ _ _ _ _ => pg_name (i := 5) sc_law_number.nd rfl (Or.inl rfl)) (fun _ _ _ _ _ => pts_one (pt_cmpR op_notIn_sign (pv 5) pe_str (by rfl))) (fun _ _ _ _ _ => (pv 5))) (pe_lst pa_nil) (nomark _)))))) (pss_one (ps_ret pe_non)) pss_nil)
      (pss_one (ps_ret (pe_ifExp (PW.pt (pw_and (pt_cmpR op_eq (pe_callTy call_str_int (by rfl) T.z_str (by decide +kernel) (pa_cons (pe_callTy call_int_str (by rfl) T.z_int (by decide +kernel) (pa_cons (pv 4) pa_nil)) pa_nil)) (pv 4) (nomark _)) (pw_and1 (pt_chain op_le op_le (pv 2) (pe_callTy call_int_str (by rfl) T.z_int (by decide +kernel) (pa_cons (pv 4) pa_nil)) (pv 3))))) (pe_callTy call_int_str (by rfl) T.z_int (by decide +kernel) (pa_cons (pv 4) pa_nil)) pe_non))))), ?_⟩
    have wH := hS.seq hw
    refine ⟨_, rfl, _, rfl, a, _, rfl, .inl wH, (i : Int), _, rfl, rfl, _, rfl, ?_⟩
    obtain ⟨x, hx, h1, h2, hnum⟩ : ∃ x, TxOk x ∧ (i < ws.length → (ws.map V.str)[i]? = some (.str x)) ∧ (¬ i < ws.length → x = "") ∧ numOf ws i lo hi = numW x lo hi := by
      by_cases hil : i < ws.length
      · refine ⟨ws.getD i "", hws _ ?_, fun _ => ?_, fun z => absurd hil z, by rw [numOf_W, if_pos hil]⟩
        · rw [List.getD_eq_getElem?_getD, List.getElem?_eq_getElem hil]
          exact List.getElem_mem hil
        · rw [List.getElem?_map, List.getD_eq_getElem?_getD, List.getElem?_eq_getElem hil]
          rfl
      · refine ⟨"", ⟨by decide, fun c hc => by
          have e : ("" : Str).cps.toList = [] := by decide +kernel
          rw [e] at hc
          cases hc⟩, fun z => absurd z hil, fun _ => rfl, ?_⟩
        rw [numOf_W, if_neg hil, numW_none hhi]
        exact fun z => z.2.1 (by decide +kernel)
    refine if_word (x := x) (fun z Q' k => ?_) (fun z => h2 fun y => ?_) ?_
    · have hil : i < ws.length := by
        have := of_decide_eq_true z
        rw [List.length_map] at this
        omega
      exact ⟨_, rfl, _, rfl, a, _, (i : Int), _, rfl, rfl, wH, at_of rfl (h1 hil), k⟩
    · exact absurd (of_decide_eq_false z) (fun k => k (by rw [List.length_map]; omega))
    have hxl : x.cps.toList.length = x.length := by rw [Array.length_toList]; rfl
    have nothing : ¬ (NumText.AllDigits x.cps.toList ∧ x.cps.toList ≠ [] ∧ x.cps.toList.length ≤ 2) → ∀ H', Fr M0 S H S H' → Q .non H' := fun z H' f => by
      have := q H' f
      rw [hnum, numW_none hhi z] at this
      exact this
    have none_at : ∀ H', Fr M0 S H S H' → ¬ (NumText.AllDigits x.cps.toList ∧ x.cps.toList ≠ [] ∧ x.cps.toList.length ≤ 2) → Q .non H' := fun H' f z => nothing z H' f
    -- no sign at all
    refine ⟨_, rfl, rfl, _, rfl, ite2 (fun h => iteT ?_) (fun h => ?_)⟩
    · refine none_at H (Fr.refl hS) fun z => z.2.1 ?_
      have e : x = "" := V.str.inj (of_decide_eq_true h)
      rw [e]
      decide +kernel
    have hne : x.cps.toList ≠ [] := fun z => h (decide_eq_true (congrArg V.str (by
      rw [← SX.S_tl x, z]
      decide +kernel)))
    -- too many signs
    refine ⟨_, rfl, x, rfl, Nat.le_trans hx.1 (by decide), (x.length : Int), 2, rfl, rfl, _, rfl, ite2 (fun h2 => iteT ?_) (fun h2 => ?_)⟩
    · exact none_at H (Fr.refl hS) fun z => absurd (show (x.length : Int) > 2 from of_decide_eq_true h2) (by have := z.2.2; omega)
    have hle : x.cps.toList.length ≤ 2 := by
      have : ¬ (x.length : Int) > 2 := fun z => h2 (decide_eq_true z)
      omega
    clear h h2
    -- a sign that is no figure
    refine ⟨_, rfl, x, rfl, fun D hD => ?_⟩
    have hDS := hS.free hD
    have f0 := (Fr.refl (M := M0) hS).new (o := .lst []) hD
    refine lc_it walk_str (fun i H' => H' D = some (.lst ((oddS x i).map fun c => V.str (sgn c))) ∧ Fr M0 S H S H') ⟨upd_same, f0⟩ (fun _ _ _ _ => trivial) ?_ ?_
    · rintro j v H1 H2 hj ⟨eD, f⟩ ⟨rfl, c, hc, rfl⟩
      have hc2 : x.cps.toList[j]? = some c := by rw [Array.getElem?_toList]; exact hc
      have htk : oddS x (j + 1) = oddS x j ++ [c].filter fun c => !decide (c ∈ ("0123456789" : Str).cps.toList) := by
        unfold oddS
        rw [take_snoc hc2, List.filter_append]
      refine ⟨rfl, _, rfl, c, _, rfl, rfl, _, rfl, ?_⟩
      by_cases hd : c ∈ ("0123456789" : Str).cps.toList
      · refine iteNS hd ?_
        refine ⟨?_, f⟩
        rw [htk, List.filter_cons_of_neg (by rw [decide_eq_true hd]; decide), List.filter_nil, List.append_nil]
        exact eD
      · refine SwV.iteNT hd ?_
        refine ⟨_, rfl, _, eD, szl100 (by rw [List.length_map]; have : (oddS x j).length ≤ x.cps.toList.length := Nat.le_trans (List.length_filter_le _ _) (by rw [List.length_take]; omega); omega), ?_, f.mut hDS (.inr hD)⟩
        rw [upd_same, htk, List.filter_cons_of_pos (by rw [decide_eq_false hd]; rfl), List.filter_nil, List.map_append]
        rfl
    · rintro H1 ⟨eD, f⟩
      have htake : oddS x x.cps.size = x.cps.toList.filter fun c => !decide (c ∈ ("0123456789" : Str).cps.toList) := by
        unfold oddS
        rw [List.take_of_length_le (by rw [Array.length_toList]; exact Nat.le_refl _)]
      rw [htake] at eD
      generalize hodd : x.cps.toList.filter (fun c => !decide (c ∈ ("0123456789" : Str).cps.toList)) = odd at eD
      refine ⟨Nat.zero_le _, fun e he => ?_⟩
      have f1 := f.new (o := .lst []) he
      have eD1 : (upd H1 e (.lst [])) D = some (.lst (odd.map fun c => V.str (sgn c))) := by rw [upd_ne (ne_of_none eD he)]; exact eD
      have hodd2 : ∀ c ∈ odd, c ∈ x.cps.toList ∧ ¬ (48 ≤ c ∧ c ≤ 57) := fun c hc => by
        rw [← hodd] at hc
        have h1 := List.mem_filter.mp hc
        refine ⟨h1.1, fun z => ?_⟩
        rw [decide_eq_true (digits_in.mpr z)] at h1
        exact absurd h1.2 (by decide)
      refine ⟨SwU.dS (odd.map sgn), .list [], ?_, .lst (SqL.of upd_same) .nil, SwU.dS_shaped _ ?_, by decide +kernel, _, rfl, ?_⟩
      · have : ∀ l : List Nat, DpAll K (upd H1 e (.lst [])) (l.map fun c => V.str (sgn c)) ((l.map sgn).map .str) := fun l => by
          induction l with
          | nil => exact .nil
          | cons c r ih => exact .cons (.str _) ih
        exact .lst (SqL.of eD1) (this odd)
      · intro y hy
        obtain ⟨c, hc, rfl⟩ := List.mem_map.mp hy
        have := hx.2 c (hodd2 c hc).1
        show (#[c] : Array Nat).all (· < 0x110000) = true
        simp [this]
      rw [SwU.dS_nil]
      have f1 := f1.still
      cases odd with
      | cons c r =>
        refine iteT (none_at _ f1 fun z => ?_)
        have := hodd2 c (List.mem_cons_self ..)
        exact this.2 (z.1 c this.1)
      | nil =>
        refine iteF ?_
        clear eD eD1 hodd2
        generalize upd H1 e _ = H5 at f1
        have hdig : NumText.AllDigits x.cps.toList := fun c hc => by
          refine digits_in.mp (Decidable.byContradiction fun z => ?_)
          have : c ∈ x.cps.toList.filter fun c => !decide (c ∈ ("0123456789" : Str).cps.toList) := List.mem_filter.mpr ⟨hc, by rw [decide_eq_false z]; rfl⟩
          rw [hodd] at this
          cases this
        have hint := intText_digits hdig hne (Nat.le_trans (show x.length ≤ 2 by omega) (by decide))
        have hv := two_val hle hdig
        have hval : ∀ n, x = wordG n → NumText.digitsVal x.cps.toList = n := fun n z => word_val z
        generalize NumText.digitsVal x.cps.toList = v at hint hv hval
        have hlog : (v : Int).natAbs.log2 < 1920 := Nat.lt_of_le_of_lt (Nat.log2_le_self _) (by omega)
        have hlen : x.length ≤ 640 := by omega
        have hq := q _ f1
        rw [hnum] at hq
        refine ⟨_, rfl, x, (v : Int), rfl, hint, hlen, (v : Int), rfl, hlog, ?_⟩
        rw [str_num]
        refine ⟨_, rfl, rfl, _, rfl, ite2 (fun h => ?_) (fun h => iteF ?_)⟩
        · have hw := V.str.inj (of_decide_eq_true h)
          refine ⟨_, rfl, _, rfl, x, (v : Int), rfl, hint, hlen, (lo : Int), (v : Int), rfl, rfl, _, rfl, ite2 (fun h3 => ?_) (fun h3 => ?_)⟩
          · have h3 : (lo : Int) ≤ (v : Int) := of_decide_eq_true h3
            refine ⟨_, rfl, (v : Int), (hi : Int), rfl, rfl, _, rfl, ite2 (fun h4 => ?_) (fun h4 => ?_)⟩
            · have h4 : (v : Int) ≤ (hi : Int) := of_decide_eq_true h4
              rw [numW_hit hw (by omega) (by omega)] at hq
              exact ⟨_, rfl, x, (v : Int), rfl, hint, hlen, hq⟩
            · have h4 : ¬ (v : Int) ≤ (hi : Int) := fun z => h4 (decide_eq_true z)
              rw [numW_miss fun n _ n2 z => by have := hval n z; omega] at hq
              exact hq
          · have h3 : ¬ (lo : Int) ≤ (v : Int) := fun z => h3 (decide_eq_true z)
            rw [numW_miss fun n n1 _ z => by have := hval n z; omega] at hq
            exact ⟨_, rfl, iteF hq⟩
        · rw [numW_miss fun n _ _ z => h (decide_eq_true (congrArg V.str (by rw [hval n z, z])))] at hq
          exact hq
end
end Sw
set_option maxRecDepth 100000
set_option maxHeartbeats 4000000
namespace Sw
open PySem L2
open C8 (pss_cut tCut pe_c pe_mk pe_mt pe_mt0 pe_gc Cal Mak Met InsC call_isC)
section
variable {P : Program} {w : World} {K : PySem.W.Frag} {mg : Str → Option Value} {base : Heap}
theorem words_ok {x : Str} (h : TxOk x) : ∀ y ∈ Txt.split x " ", TxOk y := by
  intro y hy
  rw [split_S1] at hy
  obtain ⟨p, hp, rfl⟩ := List.mem_map.mp hy
  have h1 := SwU.spl_each 32 x.cps.toList [] p hp
  have e : x.cps.toList.length = x.length := by rw [Array.length_toList]; rfl
  refine ⟨?_, fun c hc => ?_⟩
  · rw [SX.S_len]
    have := h1.1
    have := h.1
    simp only [List.length_nil] at *
    omega
  · rcases h1.2 c hc with z | z
    · cases z
    · exact h.2 c z
def wrongOf (x : Str) : Option Nat := match readW (Txt.split x " ") with
  | .ok _ => none
  | .error i => some i
theorem stepsGo_next {ws : List Str} {n p k i s : Nat} {acc : List Nat} (hl : ¬ acc.length = p - 1) (hs : numOf ws i (leastOf acc) (n - 1) = some s) : stepsGo ws n p (k + 1) i acc = stepsGo ws n p k (i + 1) (acc ++ [s]) := by
  rw [stepsGo, if_neg hl, hs]
def spWrong (K : PySem.W.Frag) : Sp := fun vs H Q _ => ∃ (x : Str) (S : Hp), vs = [.str x] ∧ Same S H ∧ TxOk x ∧ ∀ H', Fr M0 S H S H' → Q (toldW (wrongOf x)) H'
theorem ok_law_wrong {f : Addr} {fd : FuncData} (F : Fun K "_law_wrong" "_law_wrong" s_law_wrong f fd) (T : Txt K mg) (c_law_number : Cal P w K mg base 1 "_law_number" (spNum K) []) : FnOk P w K mg base CX0 2 f fd ["_law_text"] (spWrong K) := by
  refine F.ok sc_law_wrong (fun vs H Q E h => ?_) (fun cdv A outer s H vs Q E hr h => ?_)
  · obtain ⟨x, S, rfl, _⟩ := h
    rfl
  · obtain ⟨x, S, rfl, hS, hx, q⟩ := h
    refine ⟨_, (pss_cons (ps_set (i := 1) sc_law_wrong.nd rfl (Or.inl rfl) (pe_split (pv 0) pe_str))
      (pss_cons (ps_if (pt_cmpR op_ne (pe_ix (r := rIxL K) ix_list (pv 1) pe_int (fun _ _ => rfl)) pe_str (nomark _)) (pss_one (ps_ret pe_int)) pss_nil)
      (pss_cons (ps_par (i := 2) (j := 3) (by rfl) sc_law_wrong.nd rfl rfl (by decide) rfl rfl (pa_cons (pe_c c_law_number hr (by decide) (by rfl) (pa_cons (pv 1) (pa_cons pe_int (pa_cons pe_int (pa_cons pe_int pa_nil))))) (pa_cons (pe_c c_law_number hr (by decide) (by rfl) (pa_cons (pv 1) (pa_cons pe_int (pa_cons pe_int (pa_cons pe_int pa_nil))))) pa_nil)) (by rfl))
      (pss_cons (ps_if (pt_cmpR op_isN (pv 2) pe_non (nomark _)) (pss_one (ps_ret pe_int)) pss_nil)
      (pss_cons (ps_if (pt_cmpR op_isN (pv 3) pe_non (nomark _)) (pss_one (ps_ret pe_int)) pss_nil)
      (pss_cons (ps_set (i := 4) sc_law_wrong.nd rfl (Or.inl rfl) pe_int)
      (pss_cons (ps_for PassesOwn.never rfl (pi_range2 (by rfl) T.z_range (pa_cons pe_int (pa_cons (pe_callB (cr_max rfl) (by rfl) T.z_max (by decide +kernel) (pa_cons (pe_lst (pa_cons pe_int (pa_cons (pe_callB call_len_seq (by rfl) T.z_len (by decide +kernel) (pa_cons (pv 1) pa_nil)) pa_nil))) pa_nil)) pa_nil))) (pg_name (i := 5) sc_law_wrong.nd rfl (Or.inl rfl))
      (pss_cons (ps_set (i := 6) sc_law_wrong.nd rfl (Or.inl rfl) (pe_c c_law_number hr (by decide) (by rfl) (pa_cons (pv 1) (pa_cons (pv 5) (pa_cons (pe_op op_add (pv 4) pe_int) (pa_cons (pe_op op_sub (pv 2) pe_int) pa_nil))))))
      (pss_cons (ps_if (PW.pt (pw_or (pt_cmpR op_isN (pv 6) pe_non (nomark _)) (pw_or1 (pt_cmpR op_eq (pe_op op_sub (pv 5) pe_int) (pe_op op_sub (pv 3) pe_int) (nomark _))))) (pss_one (ps_ret (pv 5))) pss_nil)
      (pss_one (ps_set (i := 4) sc_law_wrong.nd rfl (Or.inl rfl) (pv 6))))))
      (pss_one (ps_ret pe_non))))))))), ?_⟩
    refine ⟨_, rfl, ⟨_, rfl⟩, x, " ", rfl, rfl, by decide +kernel, Nat.le_trans (show x.length + 2 ≤ 100000 by have := hx.1; omega) (by decide), fun wl hwl => ?_⟩
    have f1 := (Fr.refl (M := M0) hS).imm (o := .lst ((Txt.split x " ").map V.str)) hwl
    have hw : SqL K (upd S wl (.lst ((Txt.split x " ").map V.str))) wl ((Txt.split x " ").map V.str) := SqL.of upd_same
    have hlen := split_len x (by have := hx.1; omega)
    have hpos := split_pos x
    have hok := words_ok hx
    have q : ∀ (r : Option Nat) H', wrongOf x = r → Fr M0 S H S H' → Q (toldW r) H' := fun r H' e f => by rw [← e]; exact q H' f
    unfold wrongOf at q
    generalize Txt.split x " " = ws at f1 hw hlen hpos hok q
    generalize upd S wl _ = S1 at f1 hw
    generalize upd H wl _ = H1 at f1 ⊢
    have wH := f1.b.seq hw
    have hat0 : (ws.map V.str)[0]? = some (.str (ws.getD 0 "")) := by
      rw [List.getElem?_map, List.getD_eq_getElem?_getD, List.getElem?_eq_getElem hpos]
      rfl
    have qe : ∀ (k : Nat) H', readW ws = .error k → Fr M0 S1 H1 S1 H' → Q (.int (k : Int)) H' := fun k H' e f => q (some k) H' (by rw [e]) (f1.trans f).still
    have qo : ∀ g H', readW ws = .ok g → Fr M0 S1 H1 S1 H' → Q .non H' := fun k H' e f => q none H' (by rw [e]) (f1.trans f).still
    clear q
    refine ⟨_, rfl, wl, _, 0, _, rfl, rfl, wH, atI_nat (j := 0) hat0, rfl, _, rfl, ?_⟩
    by_cases h0 : ws.getD 0 "" = "ring"
    · refine iteNS (congrArg V.str h0) ?_
      refine ⟨_, rfl, wl, ws, 1, 2, 12, S1, rfl, f1.b, hw, by omega, hok, by decide, fun H2 f2 => ?_⟩
      refine ⟨_, rfl, wl, ws, 2, 2, 9, S1, rfl, f2.b, hw, by omega, hok, by decide, fun H3 f3 => ?_⟩
      have f13 := f2.trans f3
      clear f2 f3
      refine ⟨_, _, rfl, ?_⟩
      cases hn : numOf ws 1 2 12 with
      | none => exact ⟨_, rfl, rfl, _, rfl, ite2 (fun _ => qe 1 _ (readW_e1 h0 hn) f13) (fun z => absurd (decide_eq_true rfl) z)⟩
      | some n =>
        refine ⟨_, rfl, rfl, _, rfl, ite2 (fun z => absurd (of_decide_eq_true z) (fun y => by cases y)) (fun _ => ?_)⟩
        cases hp : numOf ws 2 2 9 with
        | none => exact ⟨_, rfl, rfl, _, rfl, ite2 (fun _ => qe 2 _ (readW_e2 h0 hn hp) f13) (fun z => absurd (decide_eq_true rfl) z)⟩
        | some p =>
          refine ⟨_, rfl, rfl, _, rfl, ite2 (fun z => absurd (of_decide_eq_true z) (fun y => by cases y)) (fun _ => ?_)⟩
          have hnl := numOf_le hn
          have hpl := numOf_le hp
          have ml : ((ws.map V.str).length : Int) = (ws.length : Int) := by rw [List.length_map]
          refine ⟨_, rfl, wl, _, rfl, .inl (f13.b.seq hw), by show 2 ≤ sizeLine; decide, fun u hu => ?_⟩
          have f4 := f13.new (o := .lst [.int 4, .int ((ws.map V.str).length : Nat)]) hu
          refine ⟨u, [4, ((ws.map V.str).length : Int)], rfl, SqL.of upd_same, by show 0 < 2; decide, fun m hm hm2 => ?_⟩
          obtain ⟨M, rfl, hM⟩ : ∃ M : Nat, m = (M : Int) ∧ M = max ws.length 4 := by
            have h1 := hm2 4 (by simp)
            have h2 := hm2 _ (List.mem_cons_of_mem _ (List.mem_cons_self ..))
            rw [ml] at h2
            rcases List.mem_cons.mp hm with e | e
            · exact ⟨4, e, by omega⟩
            · have e := List.mem_singleton.mp e
              rw [ml] at e
              exact ⟨ws.length, e, by omega⟩
          clear hm hm2
          have f4 := f4.still
          clear f13
          generalize upd H3 u _ = H4 at f4
          have hMl : 4 ≤ M ∧ M ≤ 90000 := by omega
          have hread : ∀ r, stepsGo ws n p (M - 3) 3 [] = r → stepsGo ws n p (max ws.length 4 - 3) 3 [] = r := fun r e => by rw [← hM]; exact e
          refine ⟨3, (M : Int), rfl, ⟨by decide, by decide, by omega, by omega⟩, for_range (lo := 3) (n := ((M : Int) - 3).toNat) (fun k σ H' => ∃ (acc : List Nat) (c5 c6 : Option V), σ = [some (.str x), some (.ref wl), some (vn n), some (vn p), some (.int ((leastOf acc : Int) - 1)), c5, c6] ∧
              acc.length = k ∧ leastOf acc ≤ 13 ∧ Fr M0 S1 H1 S1 H' ∧ k ≤ M - 3 ∧ stepsGo ws n p (M - 3) 3 [] = stepsGo ws n p (M - 3 - k) (3 + k) acc)
            ⟨[], none, none, rfl, rfl, by decide, f4, Nat.zero_le _, rfl⟩ ?_ ?_⟩
          · rintro k σ H5 hk ⟨acc, c5, c6, rfl, hal, hle, f5, hkm, hgo⟩
            have hk2 : k < M - 3 := by omega
            obtain ⟨m, hm⟩ : ∃ m, M - 3 - k = m + 1 := ⟨M - 3 - k - 1, by omega⟩
            rw [hm] at hgo
            have ei : V.int (3 + (k : Int)) = vn (3 + k) := congrArg V.int (by omega)
            have el : V.int ((leastOf acc : Int) - 1 + 1) = vn (leastOf acc) := congrArg V.int (by omega)
            have en : V.int ((n : Int) - 1) = vn (n - 1) := congrArg V.int (by omega)
            refine ⟨_, rfl, _, rfl, _, rfl, (leastOf acc : Int) - 1, 1, rfl, rfl, _, rfl, (n : Int), 1, rfl, rfl, wl, ws, 3 + k, leastOf acc, n - 1, S1, ?_, f5.b, hw, by omega, hok, by omega, fun H6 f6 => ?_⟩
            · show [V.ref wl, V.int (3 + (k : Int)), V.int ((leastOf acc : Int) - 1 + 1), V.int ((n : Int) - 1)] = _
              rw [ei, el, en]
            · have f56 := f5.trans f6
              have herr : stepsGo ws n p (m + 1) (3 + k) acc = .error (3 + k) → Q (V.int (3 + (k : Int))) H6 := fun e => by
                rw [ei]
                exact qe (3 + k) _ (readW_e3 h0 hn hp (hread _ (by rw [hgo, e]))) f56
              cases hs : numOf ws (3 + k) (leastOf acc) (n - 1) with
              | none =>
                refine ⟨_, rfl, rfl, _, rfl, ite2 (fun _ => iteT ⟨_, rfl, herr ?_⟩) (fun z => absurd (decide_eq_true rfl) z)⟩
                unfold stepsGo
                by_cases hl : acc.length = p - 1
                · rw [if_pos hl]
                · rw [if_neg hl, hs]
              | some st =>
                refine ⟨_, rfl, rfl, _, rfl, ite2 (fun z => absurd (of_decide_eq_true z) (fun y => by cases y)) (fun _ => ?_)⟩
                refine ⟨_, rfl, 3 + (k : Int), 3, rfl, rfl, _, rfl, (p : Int), 1, rfl, rfl, rfl, _, rfl, ite2 (fun h => ?_) (fun h => ?_)⟩
                · have hl : acc.length = p - 1 := by
                    have := V.int.inj (of_decide_eq_true h)
                    omega
                  refine ⟨_, rfl, herr ?_⟩
                  unfold stepsGo
                  rw [if_pos hl]
                · have hl : ¬ acc.length = p - 1 := fun z => h (decide_eq_true (congrArg V.int (by omega)))
                  have hsl := numOf_le hs
                  refine ⟨_, rfl, acc ++ [st], some (.int (3 + (k : Int))), some (vn st), ?_, by rw [List.length_append, hal]; rfl, by rw [leastOf_snoc]; omega, f56, by omega, ?_⟩
                  · rw [leastOf_snoc]
                    have e : V.int (((st + 1 : Nat) : Int) - 1) = vn st := congrArg V.int (by omega)
                    rw [e]
                    rfl
                  · rw [hgo, stepsGo_next hl hs, show M - 3 - (k + 1) = m by omega]
                    rfl
          · rintro σ H5 ⟨acc, c5, c6, rfl, hal, hle, f5, hkm, hgo⟩
            have e0 : M - 3 - ((M : Int) - 3).toNat = 0 := by omega
            rw [e0] at hgo
            exact qo _ _ (readW_ok h0 hn hp (hread _ hgo)) f5
    · refine SwV.iteNT (fun z => h0 (V.str.inj z)) ?_
      refine qe 0 _ ?_ (Fr.refl f1.b)
      unfold readW
      rw [if_pos h0]
end
end Sw
set_option maxRecDepth 100000
set_option maxHeartbeats 4000000
namespace Sw
open PySem L2
open C8 (pss_cut tCut pe_c pe_mk pe_mt pe_mt0 pe_gc Cal Mak Met InsC call_isC)
section
variable {P : Program} {w : World} {K : PySem.W.Frag} {mg : Str → Option Value} {base : Heap}
theorem codes_cat (a b : Str) : (a ++ b).cps.toList = a.cps.toList ++ b.cps.toList := TL.tl_append a b
theorem len_codes (a : Str) : a.length = a.cps.toList.length := by rw [Array.length_toList]; rfl
theorem cat_ok {m n : Nat} {a b : Str} (ha : TxN m a) (hb : TxN n b) : TxN (m + n) (a ++ b) := by
  refine ⟨?_, fun c hc => ?_⟩
  · have h1 := ha.1
    have h2 := hb.1
    rw [len_codes] at h1 h2
    rw [len_codes, codes_cat, List.length_append]
    omega
  · rw [codes_cat] at hc
    rcases List.mem_append.mp hc with h | h
    · exact ha.2 c h
    · exact hb.2 c h
theorem cut_ok {n : Nat} {z : Str} (h : TxN n z) (lo hi : Option Int) : TxN n (cutS z lo hi) := by
  have e : (cutS z lo hi).cps.toList = (z.cps.toList.drop (HT.sIx z.length 0 lo)).take (HT.sIx z.length z.length hi - HT.sIx z.length 0 lo) := rfl
  refine ⟨?_, fun c hc => ?_⟩
  · have h1 := h.1
    rw [len_codes] at h1 ⊢
    rw [e, List.length_take, List.length_drop]
    omega
  · rw [e] at hc
    exact h.2 c (List.mem_of_mem_drop (List.mem_of_mem_take hc))
def spSpoilt : Sp := fun vs H Q _ => ∃ (d : Addr) (x : Str) (S : Hp), vs = [.ref d, .str x] ∧ Same S H ∧ S d = none ∧ DS d H ∧ TxN 1000 x ∧ ∀ (y : Str) (H' : Hp), TxN 4000 y → Fr (M1 d) S H S H' → DS d H' → Q (.str y) H'
theorem ok_law_spoilt {f : Addr} {fd : FuncData} (F : Fun K "_law_spoilt" "_law_spoilt" s_law_spoilt f fd) (T : Txt K mg) (c_law_below : Cal P w K mg base 1 "_law_below" spBelow []) (c_law_pick : Cal P w K mg base 2 "_law_pick" spPick []) :
    FnOk P w K mg base CX0 3 f fd ["_law_d", "_law_text"] spSpoilt := by
  refine F.ok sc_law_spoilt (fun vs H Q E h => ?_) (fun cdv A outer s H vs Q E hr h => ?_)
  · obtain ⟨d, x, S, rfl, _⟩ := h
    rfl
  · obtain ⟨d, x, S, rfl, hS, hd, ds, hx, q⟩ := h
    refine ⟨_, (pss_cons (ps_par (i := 2) (j := 3) (by rfl) sc_law_spoilt.nd rfl rfl (by decide) rfl rfl (pa_cons (pe_c c_law_below hr (by decide) (by rfl) (pa_cons (pv 0) (pa_cons pe_int pa_nil))) (pa_cons (pe_c c_law_below hr (by decide) (by rfl) (pa_cons (pv 0) (pa_cons (pe_op op_add (pe_callB call_len_str (by rfl) T.z_len (by decide +kernel) (pa_cons (pv 1) pa_nil)) pe_int) pa_nil))) pa_nil)) (by rfl))
      (pss_cons (ps_set (i := 4) sc_law_spoilt.nd rfl (Or.inl rfl) (pe_c c_law_pick hr (by decide) (by rfl) (pa_cons (pv 0) (pa_cons (pe_callTy (SwU.call_list_str rfl) (by rfl) T.z_list (by decide +kernel) (pa_cons pe_str pa_nil)) pa_nil))))
      (pss_cons (ps_if (pt_cmpR op_eq (pv 2) pe_int (nomark _)) (pss_one (ps_ret (pe_slice sl_str (pv 1) po_none (po_some (pv 3))))) pss_nil)
      (pss_cons (ps_if (pt_cmpR op_eq (pv 2) pe_int (nomark _)) (pss_one (ps_ret (pe_op op_add_str (pe_slice sl_str (pv 1) po_none (po_some (pv 3))) (pe_slice sl_str (pv 1) (po_some (pe_op op_add (pv 3) pe_int)) po_none)))) pss_nil)
      (pss_cons (ps_if (pt_cmpR op_eq (pv 2) pe_int (nomark _)) (pss_one (ps_ret (pe_op op_add_str (pe_op op_add_str (pe_slice sl_str (pv 1) po_none (po_some (pv 3))) (pv 4)) (pe_slice sl_str (pv 1) (po_some (pe_op op_add (pv 3) pe_int)) po_none)))) pss_nil)
      (pss_cons (ps_if (pt_cmpR op_eq (pv 2) pe_int (nomark _)) (pss_one (ps_ret (pe_op op_add_str (pe_op op_add_str (pe_slice sl_str (pv 1) po_none (po_some (pv 3))) (pe_slice sl_str (pv 1) (po_some (pv 3)) (po_some (pe_op op_add (pv 3) pe_int)))) (pe_slice sl_str (pv 1) (po_some (pv 3)) po_none)))) pss_nil)
      (pss_one (ps_ret (pe_op op_add_str (pe_op op_add_str (pe_slice sl_str (pv 1) po_none (po_some (pv 3))) (pv 4)) (pe_slice sl_str (pv 1) (po_some (pv 3)) po_none)))))))))), ?_⟩
    refine ⟨_, rfl, d, 5, S, rfl, hS, hd, ds, by decide, by decide, fun kd H1 _ _ f1 ds1 => ?_⟩
    have hd1 := f1.d d ds.nn hd
    refine ⟨_, rfl, _, rfl, x, rfl, Nat.le_trans hx.1 (by decide), (x.length : Int), 1, rfl, rfl, d, _, S, rfl, f1.b, hd1, ds1, by omega, ?_, fun at' H2 a0 a1 f2 ds2 => ?_⟩
    · have := hx.1
      show (x.length : Int) + 1 < 2 ^ 200
      exact Int.lt_of_le_of_lt (show (x.length : Int) + 1 ≤ 2000 by omega) (by decide +kernel)
    refine ⟨_, _, rfl, ?_⟩
    refine ⟨_, rfl, " 01239r", rfl, by decide, fun l hl => ?_⟩
    have hd2 := f2.d d ds1.nn hd1
    have f12 := (f1.trans f2).new (o := .lst (SwU.signs " 01239r")) hl
    have e7 : SwU.signs " 01239r" = [.str ⟨#[32]⟩, .str ⟨#[48]⟩, .str ⟨#[49]⟩, .str ⟨#[50]⟩, .str ⟨#[51]⟩, .str ⟨#[57]⟩, .str ⟨#[114]⟩] := by decide +kernel
    refine ⟨d, l, _, S, rfl, f12.b, hd2, ds2.new hl, ds2.ne hl, upd_same, by rw [e7]; decide, by rw [e7]; decide, fun i v H3 hv f3 ds3 => ?_⟩
    obtain ⟨c, rfl, hc⟩ : ∃ c : Str, v = .str c ∧ TxN 1 c := by
      rw [e7] at hv
      have hm := List.mem_of_getElem? hv
      simp only [List.mem_cons, List.not_mem_nil, or_false] at hm
      rcases hm with rfl | rfl | rfl | rfl | rfl | rfl | rfl <;> exact ⟨_, rfl, by decide, fun c hc => by rw [List.mem_singleton.mp hc]; decide⟩
    have f13 := f12.trans f3
    have hz : x.length ≤ sizeLine := Nat.le_trans hx.1 (by decide)
    have done : ∀ y : Str, TxN 4000 y → Q (.str y) H3 := fun y hy => q y H3 hy f13 ds3
    have bigS : ∀ {m n : Nat} {a b : Str}, TxN m a → TxN n b → m + n ≤ 4000 → a.length + b.length ≤ sizeLine := fun {m n a b} ha hb h => Nat.le_trans (show a.length + b.length ≤ 4000 by have := ha.1; have := hb.1; omega) (by decide)
    clear e7 hv f3 f12 f2 f1 ds2 ds1
    have k1 := cut_ok hx none (some at')
    have k2 := cut_ok hx (some (at' + 1)) none
    have k3 := cut_ok hx (some at') (some (at' + 1))
    have k4 := cut_ok hx (some at') none
    refine ⟨_, rfl, rfl, _, rfl, ite2 (fun _ => ?_) (fun _ => ?_)⟩
    · exact ⟨_, rfl, _, rfl, at', rfl, x, rfl, hz, done _ (k1.le (by decide))⟩
    refine ⟨_, rfl, rfl, _, rfl, ite2 (fun _ => ?_) (fun _ => ?_)⟩
    · refine ⟨_, rfl, _, rfl, at', rfl, x, rfl, hz, _, rfl, _, rfl, at', 1, rfl, rfl, at' + 1, rfl, x, rfl, hz, _, _, rfl, rfl, bigS k1 k2 (by decide), done _ ((cat_ok k1 k2).le (by decide))⟩
    refine ⟨_, rfl, rfl, _, rfl, ite2 (fun _ => ?_) (fun _ => ?_)⟩
    · refine ⟨_, rfl, _, rfl, at', rfl, x, rfl, hz, _, rfl, _, _, rfl, rfl, bigS k1 hc (by decide), _, rfl, _, rfl, at', 1, rfl, rfl, at' + 1, rfl, x, rfl, hz, _, _, rfl, rfl, bigS (cat_ok k1 hc) k2 (by decide), done _ ((cat_ok (cat_ok k1 hc) k2).le (by decide))⟩
    refine ⟨_, rfl, rfl, _, rfl, ite2 (fun _ => ?_) (fun _ => ?_)⟩
    · refine ⟨_, rfl, _, rfl, at', rfl, x, rfl, hz, _, rfl, _, rfl, at', rfl, _, rfl, at', 1, rfl, rfl, at' + 1, rfl, x, rfl, hz, _, _, rfl, rfl, bigS k1 k3 (by decide), _, rfl, _, rfl, at', rfl, x, rfl, hz, _, _, rfl, rfl, bigS (cat_ok k1 k3) k4 (by decide), done _ ((cat_ok (cat_ok k1 k3) k4).le (by decide))⟩
    · refine ⟨_, rfl, _, rfl, at', rfl, x, rfl, hz, _, rfl, _, _, rfl, rfl, bigS k1 hc (by decide), _, rfl, _, rfl, at', rfl, x, rfl, hz, _, _, rfl, rfl, bigS (cat_ok k1 hc) k4 (by decide), done _ ((cat_ok (cat_ok k1 hc) k4).le (by decide))⟩
end
end Sw
set_option maxRecDepth 100000
set_option maxHeartbeats 4000000
namespace Sw
open PySem L2
open C8 (pss_cut tCut pe_c pe_mk pe_mt pe_mt0 pe_gc Cal Mak Met InsC call_isC)
section
variable {P : Program} {w : World} {K : PySem.W.Frag} {mg : Str → Option Value} {base : Heap}
def toldD : Option (Except Nat G) → List PyData
  | none => [.none]
  | some (.ok _) => []
  | some (.error i) => [.int (i : Int)]
/-- what is told of a text or a value that is none, in a list -/
def spToldT (K : PySem.W.Frag) : Sp := fun vs H Q _ => ∃ (v : V) (S : Hp) (r : Option (Except Nat G)), vs = [v] ∧ Same S H ∧ ReadV K S v r ∧ ∀ p S' H', Fr M0 S H S' H' → Dp K S' (.ref p) (.list (toldD r)) → Q (.ref p) H'
theorem ok_law_told {f C CX_BadText : Addr} {fd : FuncData} (F : Fun K "_law_told" "_law_told" s_law_told f fd) (T : Txt K mg) (EX_BadText : SwV.ExF P w K mg base "BadText" CX_BadText "word") (cx_read : SwV.CalX P w K mg base 6 "read" (spRead K C CX_BadText) []) :
    FnOk P w K mg base CX0 7 f fd ["_law_text"] (spToldT K) := by
  refine F.ok sc_law_told (fun vs H Q E h => ?_) (fun cdv A outer s H vs Q E hr h => ?_)
  · obtain ⟨v, S, r, rfl, _⟩ := h
    rfl
  · obtain ⟨v, S, r, rfl, hS, hv, q⟩ := h
    refine ⟨_, (pss_cons (ps_set (i := 1) sc_law_told.nd rfl (Or.inl rfl) (pe_lst pa_nil))
      (pss_cons (SwV.ps_try_mix (l := [(.ref CX_BadText, some 2, fun a cls d => tDrop (tBM K "list" rAppend (tVar 1) (tCons (tXf a cls d CX_BadText "word" (tVar 2)) tNil)))]) (Wout := fun _ _ _ _ => False) rfl rfl takes0 (by exact (fun W pn xe tk _ => (pss_one (ps_expr (SwV.pe_cx cx_read hr (by decide) (by rfl) tk (pa_cons (pv 0) pa_nil))))))
      (by exact (.named (i := 2) ⟨rfl, by decide, Or.inl EX_BadText.g⟩ sc_law_told.nd rfl rfl (fun a oe cls d pn hz hf => by exact (pss_one (ps_expr (pe_bm PySem.F.plainAttrs_list PySem.F.slot_list_append PySem.F.type_list_append mt_append (pv 1) (pa_cons (by exact (pe_xf EX_BadText.x EX_BadText.no hz hf (pv 2))) pa_nil)))))
        .nil)))
      (pss_one (ps_ret (pv 1))))), ?_⟩
    refine ⟨Nat.zero_le _, fun fn hfn => ?_⟩
    have ff := (Fr.refl (M := M0) hS).new (o := .lst []) hfn
    have hfS := hS.free hfn
    refine ⟨_, rfl, v, S, r, rfl, ff.b, hv, fun g hg x S1 H1 f1 hG => ?_, fun i hi d H1 f1 ed => ?_⟩
    · have ef := f1.c fn _ (fun z => z) upd_same
      refine ⟨_, rfl, ?_⟩
      have f2 := (ff.trans f1).still
      have hd : toldD r = [] := by rw [hg]; rfl
      rw [hd] at q
      exact q fn _ _ (f2.seal ef hfS hfn) (.lst (SqL.of upd_same) .nil)
    · have ef := f1.c fn _ (fun z => z) upd_same
      refine ⟨true, EX_BadText.e, fun _ a na => ?_, fun z => Bool.noConfusion z⟩
      refine ⟨_, rfl, .inl ⟨rfl, _, SqL.of ef⟩, _, rfl, rfl, rfl, d, _, toldWn i, rfl, ed, by simp [List.lookup], ?_⟩
      refine ⟨fn, _, _, rfl, rfl, ef, by show 0 < sizeLine; decide, ?_⟩
      refine ⟨_, rfl, ?_⟩
      have f2 := (ff.trans f1).mut (o := .lst [toldWn i]) hfS (.inr hfn)
      refine q fn _ _ (f2.seal upd_same hfS hfn) (.lst (SqL.of upd_same) ?_)
      rcases hi with ⟨rfl, rfl⟩ | ⟨k, rfl, rfl⟩
      · exact .cons .non .nil
      · exact .cons (.int _) .nil
end
end Sw
set_option maxRecDepth 100000
set_option maxHeartbeats 4000000
namespace Sw
open PySem L2
open C8 (pss_cut tCut pe_c pe_mk pe_mt pe_mt0 pe_gc Cal Mak Met InsC call_isC)
section
variable {P : Program} {w : World} {K : PySem.W.Frag} {mg : Str → Option Value} {base : Heap}
def spLaw (K : PySem.W.Frag) : Sp := fun vs H Q _ => ∃ (a : Addr) (ns : List Int), vs = [.ref a] ∧ SqL K H a (ns.map V.int) ∧ ns.length ≤ 63 ∧ ∀ H', Q (.bl true) H'
theorem numOf_at {ws : List Str} {i lo hi n : Nat} (h : numOf ws i lo hi = some n) : i < ws.length ∧ ws.getD i "" = wordG n := by
  unfold numOf at h
  split at h
  · rename_i hi2
    refine ⟨hi2, ?_⟩
    cases e : (List.range (hi + 1 - lo)).find? (fun k => decide (ws.getD i "" = wordG (lo + k))) with
    | none => rw [e] at h; cases h
    | some k =>
      rw [e] at h
      have e2 : lo + k = n := Option.some.inj h
      have h2 := List.find?_some e
      have := of_decide_eq_true h2
      rw [e2] at this
      exact this
  · cases h
theorem getD_drop {ws : List Str} {i : Nat} (h : i < ws.length) : ws.drop i = ws.getD i "" :: ws.drop (i + 1) := by
  rw [List.drop_eq_getElem_cons h, List.getD_eq_getElem?_getD, List.getElem?_eq_getElem h]
  rfl
theorem stepsGo_inv {ws : List Str} {n p : Nat} : ∀ (k i : Nat) (acc ss : List Nat), stepsGo ws n p k i acc = .ok ss → ∃ r, ss = acc ++ r ∧ r.map wordG = (ws.drop i).take k ∧ r.length = k
  | 0, i, acc, ss, h => ⟨[], by rw [← Except.ok.inj h, List.append_nil], by rw [List.take_zero]; rfl, rfl⟩
  | k + 1, i, acc, ss, h => by
    unfold stepsGo at h
    split at h
    · cases h
    · cases e : numOf ws i (leastOf acc) (n - 1) with
      | none => rw [e] at h; cases h
      | some s =>
        rw [e] at h
        obtain ⟨r, h1, h2, h3⟩ := stepsGo_inv k (i + 1) (acc ++ [s]) ss h
        have ha := numOf_at e
        refine ⟨s :: r, by rw [h1, List.append_assoc]; rfl, ?_, by rw [List.length_cons, h3]⟩
        rw [getD_drop ha.1, List.take_succ_cons, List.map_cons, h2, ha.2]
theorem readW_words {ws : List Str} {g : G} (h : readW ws = .ok g) : ws = wordsG g := by
  unfold readW at h
  split at h
  · cases h
  · rename_i h0
    have h0 : ws.getD 0 "" = "ring" := Decidable.byContradiction h0
    cases hn : numOf ws 1 2 12 with
    | none => rw [hn] at h; cases h
    | some n =>
      rw [hn] at h
      cases hp : numOf ws 2 2 9 with
      | none => rw [hp] at h; cases h
      | some p =>
        rw [hp] at h
        dsimp only at h
        cases hs : stepsGo ws n p (max ws.length 4 - 3) 3 [] with
        | error i => rw [hs] at h; cases h
        | ok ss =>
          rw [hs] at h
          have e := Except.ok.inj h
          subst e
          obtain ⟨r, h1, h2, h3⟩ := stepsGo_inv _ _ _ _ hs
          rw [List.nil_append] at h1
          subst h1
          have a1 := numOf_at hn
          have a2 := numOf_at hp
          have hl := congrArg List.length h2
          rw [List.length_map, List.length_take, List.length_drop, h3] at hl
          rw [List.take_of_length_le (by rw [List.length_drop]; omega)] at h2
          have e0 : ws = ws.drop 0 := rfl
          unfold wordsG
          rw [e0, getD_drop (by omega), getD_drop (by omega), getD_drop (by omega), h0, a1.2, a2.2, ← h2]
          rfl
theorem readW_gok {ws : List Str} {g : G} (h : readW ws = .ok g) : GOk g := by
  unfold readW at h
  split at h
  · cases h
  · cases hn : numOf ws 1 2 12 with
    | none => rw [hn] at h; cases h
    | some n =>
      rw [hn] at h
      cases hp : numOf ws 2 2 9 with
      | none => rw [hp] at h; cases h
      | some p =>
        rw [hp] at h
        dsimp only at h
        cases hs : stepsGo ws n p (max ws.length 4 - 3) 3 [] with
        | error i => rw [hs] at h; cases h
        | ok ss =>
          rw [hs] at h
          have e := Except.ok.inj h
          subst e
          obtain ⟨g1, g2, g3, g4, g5, _⟩ := stepsGo_ok _ _ _ _ hs (by have := (numOf_le hp).1; show 0 < p; omega) .nil (fun s hs => absurd hs (by simp)) (fun s hs => absurd hs (by simp))
          have hn2 := numOf_le hn
          have hp2 := numOf_le hp
          exact ⟨hn2.1, hn2.2, hp2.1, hp2.2, g5 (by omega), g1, g2, g3, fun s hs => by show s < n; have := g4 s hs; omega⟩
theorem txt_words {x : Str} {g : G} (h : readW (Txt.split x " ") = .ok g) : txtG g = x := by
  unfold txtG
  rw [← readW_words h, split_S1]
  have e : (" " : Str) = SX.S [32] := by decide +kernel
  rw [e, SX.join_S, SwU.join_spl, List.nil_append, SX.S_tl]
theorem wordsG_S (g : G) : wordsG g = ([114, 105, 110, 103] :: (g.n :: g.p :: g.ss).map TL.numL).map SX.S := by
  have e : ([114, 105, 110, 103] :: (g.n :: g.p :: g.ss).map TL.numL).map SX.S = SX.S [114, 105, 110, 103] :: ((g.n :: g.p :: g.ss).map TL.numL).map SX.S := rfl
  have r : ("ring" : Str) = SX.S [114, 105, 110, 103] := by decide +kernel
  rw [e, ← r, List.map_map]
  rfl
theorem join_all {n : Nat} : ∀ ws : List (List Nat), (∀ w ∈ ws, w.length ≤ n ∧ ∀ c ∈ w, c < 1114112) → (TL.joinL [32] ws).length ≤ (n + 1) * ws.length ∧ ∀ c ∈ TL.joinL [32] ws, c < 1114112
  | [], _ => ⟨Nat.zero_le _, fun c hc => by cases hc⟩
  | [p], h => ⟨by have := (h p (by simp)).1; show p.length ≤ (n + 1) * 1; omega, (h p (by simp)).2⟩
  | p :: q :: r, h => by
    have h1 := h p (List.mem_cons_self ..)
    have h2 := join_all (q :: r) fun w hw => h w (List.mem_cons_of_mem _ hw)
    have e : TL.joinL [32] (p :: q :: r) = p ++ ([32] ++ TL.joinL [32] (q :: r)) := rfl
    rw [e]
    refine ⟨?_, fun c hc => ?_⟩
    · have e2 : (n + 1) * (p :: q :: r).length = (n + 1) * (q :: r).length + (n + 1) := by rw [List.length_cons, Nat.mul_succ]
      rw [e2, List.length_append, List.length_append]
      have := h2.1
      have := h1.1
      simp only [List.length_singleton]
      omega
    · rcases List.mem_append.mp hc with z | z
      · exact h1.2 c z
      · rcases List.mem_append.mp z with z | z
        · rw [List.mem_singleton.mp z]; decide
        · exact h2.2 c z
theorem txt_ok {g : G} (hg : GOk g) : TxN 1000 (txtG g) := by
  have e : (" " : Str) = SX.S [32] := by decide +kernel
  have h := join_all (n := 4) ([114, 105, 110, 103] :: (g.n :: g.p :: g.ss).map TL.numL) fun w hw => by
    rcases List.mem_cons.mp hw with rfl | hw
    · exact ⟨by decide, by decide⟩
    · obtain ⟨n, hn, rfl⟩ := List.mem_map.mp hw
      have n12 := num_le hg hn
      have := TL.numL_len (n := n) (k := 2) (by decide) (Nat.lt_of_le_of_lt n12 (by decide))
      exact ⟨by omega, fun c hc => by have := TL.numL_digits n c hc; omega⟩
  unfold txtG
  rw [e, wordsG_S, SX.join_S]
  refine ⟨?_, h.2⟩
  have l2 := hg.l2
  have p2 := hg.p2
  have h1 := h.1
  rw [SX.S_len]
  simp only [List.length_cons, List.length_map] at h1
  omega
theorem eqv_refl_ints (l : List Int) : PyData.eqv (dL l) (dL l) = true := by rw [dL_eqv, decide_eq_true rfl]
theorem odd_str {K : PySem.W.Frag} {S : Hp} {v : V} {b : String} (h : ∀ H', Same S H' → TyX K H' v (.type b)) (hk : PySem.W.kitOne K (.type b) (.type "str") = some false) : ReadV K S v none := .inr ⟨rfl, _, hk, h⟩
def odds1 : List Str := ["", "ring", "ring 3", "ring 3 2", "ring 1 2 1", "ring 13 2 1", "ring 3 1 1", "ring 3 10 1", "ring 3 2 0"]
def odds2 : List Str := ["ring 3 2 3", "ring 3 2 1 2", "ring 3 3 1 2", "ring 5 3 1 2 3", "ring 5 4 2 1", "ring 5 4 2 2"]
def odds3 : List Str := ["ring 5 4 1 ", "ring 05 4 1", " ring 3 2 1", "Ring 3 2 1", "ring  3 2 1"]
def odds4 : List Str := ["ring 3 2 -1", "ring 3 3 2 1"]
theorem odds_ok : ∀ x ∈ ((odds1 ++ odds2) ++ odds3) ++ odds4, TxOk x := by decide +kernel
theorem ok_law {f C CX_BadText : Addr} {fd : FuncData} (F : Fun K "law" "law" s_law f fd) (T : Txt K mg) (c_law_random : Cal P w K mg base 1 "_law_random" (spRandom K) []) (c_law_game : Cal P w K mg base 6 "_law_game" (spLawGame K C) [])
    (c_law_wrong : Cal P w K mg base 2 "_law_wrong" (spWrong K) []) (c_law_spoilt : Cal P w K mg base 3 "_law_spoilt" spSpoilt []) (c_law_told : Cal P w K mg base 7 "_law_told" (spToldT K) []) (p_children : Prp P w K mg base 1 C "children" "_children") (p_parts : Prp P w K mg base 1 C "parts" "_parts") (p_steps : Prp P w K mg base 1 C "steps" "_steps")
    (c_write : Cal P w K mg base 3 "write" (spWrite K C) []) (cx_read : SwV.CalX P w K mg base 6 "read" (spRead K C CX_BadText) []) : FnOk P w K mg base CX0 8 f fd ["_law_script"] (spLaw K) := by
  refine F.ok sc_law (fun vs H Q E h => ?_) (fun cdv A outer s H vs Q E hr h => ?_)
  · obtain ⟨a, ns, rfl, _⟩ := h
    rfl
  · obtain ⟨a, ns, rfl, hS, hl, q⟩ := h
    refine ⟨_, (pss_cons (ps_set (i := 1) sc_law.nd rfl (Or.inl rfl) (pe_c c_law_random hr (by decide) (by rfl) (pa_cons (pv 0) (pa_cons pe_int pa_nil))))
      (pss_cons (ps_for PassesOwn.never rfl (pi_range1 (by rfl) T.z_range (pa_cons pe_int pa_nil)) (pg_name (i := 2) sc_law.nd rfl (Or.inl rfl))
      (pss_cons (ps_set (i := 3) sc_law.nd rfl (Or.inl rfl) (pe_c c_law_game hr (by decide) (by rfl) (pa_cons (pv 1) (pa_cons pe_int pa_nil))))
      (pss_cons (ps_set (i := 4) sc_law.nd rfl (Or.inl rfl) (pe_op op_catF (pe_tup (pa_cons (pe_pr p_children hr (by decide) (pv 3)) (pa_cons (pe_pr p_parts hr (by decide) (pv 3)) pa_nil))) (pe_pr p_steps hr (by decide) (pv 3))))
      (pss_cons (ps_set (i := 6) sc_law.nd rfl (Or.inl rfl) (pe_c c_law_spoilt hr (by decide) (by rfl) (pa_cons (pv 1) (pa_cons (pe_join pe_str (pe_op op_cat (pe_lst (pa_cons pe_str pa_nil)) (pe_lc (own := [("_law_number_here", 5)]) rfl sc_law.nd (pi_tup (pv 4)) (blkOk_by (own := [("_law_number_here", 5)]) (N := ["_law_script", "_law_d", "_law_turn", "_law_game_here", "_law_numbers", "_law_number_here", "_law_text", "_law_due", "_law_odd", "_law_value"]) (sc := defScope s_law) (by decide +kernel)) (fun _ _ _ _ _ => pg_name (i := 5) sc_law.nd rfl (Or.inl rfl)) (fun _ _ _ _ _ => pts_nil) (fun _ _ _ _ _ => (pe_callTy call_str_int (by rfl) T.z_str (by decide +kernel) (pa_cons (pv 5) pa_nil)))))) pa_nil))))
      (pss_cons (ps_set (i := 7) sc_law.nd rfl (Or.inl rfl) (pe_c c_law_wrong hr (by decide) (by rfl) (pa_cons (pv 6) pa_nil)))
      (pss_one (ps_if (PW.pt (pw_or (pt_cmpR (r := rNeD K) (op_neD hr.units) (pe_c c_law_told hr (by decide) (by rfl) (pa_cons (pv 6) pa_nil)) (pe_ifExp (pt_cmpR op_isN (pv 7) pe_non (nomark _)) (pe_lst pa_nil) (pe_lst (pa_cons (pv 7) pa_nil))) (nomark _)) (pw_or1 (PW.pt (pw_and (pt_cmpR op_isN (pv 7) pe_non (nomark _)) (pw_and1 (pt_cmpR op_ne (pe_c c_write hr (by decide) (by rfl) (pa_cons (SwV.pe_cx cx_read hr (by decide) (by rfl) takes0 (pa_cons (pv 6) pa_nil)) pa_nil)) (pv 6) (nomark _)))))))) (pss_one (ps_ret pe_bl)) pss_nil)))))))
      (pss_cons (ps_set (i := 8) sc_law.nd rfl (Or.inl rfl) (pe_lst (pa_cons pe_str (pa_cons pe_str (pa_cons pe_str (pa_cons pe_str (pa_cons pe_str (pa_cons pe_str (pa_cons pe_str (pa_cons pe_str (pa_cons pe_str pa_nil)))))))))))
      (pss_cons (ps_set (i := 8) sc_law.nd rfl (Or.inl rfl) (pe_op op_cat (pv 8) (pe_lst (pa_cons pe_str (pa_cons pe_str (pa_cons pe_str (pa_cons pe_str (pa_cons pe_str (pa_cons pe_str pa_nil)))))))))
      (pss_cons (ps_set (i := 8) sc_law.nd rfl (Or.inl rfl) (pe_op op_cat (pv 8) (pe_lst (pa_cons pe_str (pa_cons pe_str (pa_cons pe_str (pa_cons pe_str (pa_cons pe_str pa_nil))))))))
      (pss_cons (ps_for PassesOwn.never rfl (pi_list (pe_op op_cat (pv 8) (pe_lst (pa_cons pe_str (pa_cons pe_str pa_nil))))) (pg_name (i := 6) sc_law.nd rfl (Or.inl rfl))
      (pss_cons (ps_set (i := 7) sc_law.nd rfl (Or.inl rfl) (pe_c c_law_wrong hr (by decide) (by rfl) (pa_cons (pv 6) pa_nil)))
      (pss_one (ps_if (pt_cmpR (r := rNeD K) (op_neD hr.units) (pe_c c_law_told hr (by decide) (by rfl) (pa_cons (pv 6) pa_nil)) (pe_ifExp (pt_cmpR op_isN (pv 7) pe_non (nomark _)) (pe_lst pa_nil) (pe_lst (pa_cons (pv 7) pa_nil))) (nomark _)) (pss_one (ps_ret pe_bl)) pss_nil))))
      (pss_one (ps_ret (pe_cmpR (r := rEqD K) (op_eqD hr.units) (pe_lc (own := [("_law_value", 9)]) rfl sc_law.nd (pi_list (pe_lst (pa_cons pe_non (pa_cons pe_int (pa_cons pe_bl (pa_cons (pe_lst pa_nil) (pa_cons (pe_tup pa_nil) (pa_cons pe_dnewK (pa_cons (pe_lst (pa_cons pe_str pa_nil)) pa_nil))))))))) (blkOk_by (own := [("_law_value", 9)]) (N := ["_law_script", "_law_d", "_law_turn", "_law_game_here", "_law_numbers", "_law_number_here", "_law_text", "_law_due", "_law_odd", "_law_value"]) (sc := defScope s_law) (by decide +kernel)) (fun _ _ _ _ _ => pg_name (i := 9) sc_law.nd rfl (Or.inl rfl)) (fun _ _ _ _ _ => pts_one (pt_cmpR (r := rNeD K) (op_neD hr.units) (pe_c c_law_told hr (by decide) (by rfl) (pa_cons (pv 9) pa_nil)) (pe_lst (pa_cons pe_non pa_nil)) (nomark _))) (fun _ _ _ _ _ => (pv 9))) (pe_lst pa_nil) (nomark _)))))))))), ?_⟩
    refine ⟨_, rfl, a, ns, 2718, rfl, hS, hl, by decide, by decide, fun d H1 hd s1 ds => ?_⟩
    refine ⟨6, rfl, by decide, by decide, for_range (lo := 0) (n := (6 : Int).toNat) (fun i σ H' => ∃ (c2 c3 c4 c5 c6 c7 c8 c9 : Option V) (S : Hp), σ = [some (.ref a), some (.ref d), c2, c3, c4, c5, c6, c7, c8, c9] ∧ Same S H' ∧ S d = none ∧ DS d H')
      ⟨none, none, none, none, none, none, none, none, H, rfl, s1, hd, ds⟩ ?_ ?_⟩
    · rintro i σ H2 hi ⟨c2, c3, c4, c5, c6, c7, c8, c9, S2, rfl, s2, hd2, ds2⟩
      -- a game
      refine ⟨_, rfl, d, 12, S2, rfl, s2, hd2, ds2, by decide, by decide, fun g x S3 H3 hg _ f3 ds3 hG => ?_⟩
      have hd3 := f3.d d ds2.nn hd2
      have b3 := f3.b
      clear f3 ds2 hd2 s2
      obtain ⟨dx, t, eG, hT⟩ := id hG
      have eH := b3 _ _ eG
      -- its numbers
      refine ⟨_, rfl, x, dx, _, rfl, eH, x, dx, _, _, rfl, eH, gf_c g t, _, rfl, x, dx, _, rfl, eH, x, dx, _, _, rfl, eH, gf_p g t, by show 2 ≤ sizeLine; decide, fun u hu => ?_⟩
      have q2 := (Fr.refl (M := M0) b3).imm (o := .tup [vn g.n, vn g.p]) hu
      have eH1 := q2.b _ _ (q2.a _ _ eG)
      have l2 := hg.l2
      have p2 := hg.p2
      refine ⟨_, rfl, x, dx, _, rfl, eH1, x, dx, _, _, rfl, eH1, gf_s g t, _, u, t, _, _, rfl, rfl, q2.b, SqT.of upd_same, Same.seqT q2.a hT, sz100 (by rw [List.length_map]; show 2 + g.ss.length ≤ 100000; omega), fun p S4 H4 f4 t4 => ?_⟩
      have t4 : SqT K S4 p ((g.n :: g.p :: g.ss).map vn) := t4
      have q4 := q2.trans f4
      -- its text
      refine ⟨_, rfl, ⟨_, rfl⟩, by show 1 ≤ sizeLine; decide, fun l hl => ?_⟩
      have q5 := q4.new (o := .lst [.str "ring"]) hl
      refine ⟨_, rfl, p, rfl, ⟨_, Same.seqT q5.b t4⟩, fun D hD => ?_⟩
      have nlD : l ≠ D := ne_of_none upd_same hD
      have hDS : S4 D = none := q5.b.free hD
      have hD0 : H3 D = none := q5.back hD
      refine lc_tup (K := K) (a := p) (xs := (g.n :: g.p :: g.ss).map vn) (fun i H' => H' D = some (.lst ((((g.n :: g.p :: g.ss).take i).map wordG).map V.str)) ∧ H' l = some (.lst [.str "ring"]) ∧ Fr M0 S3 H3 S4 H')
        ⟨upd_same, by rw [upd_ne nlD]; exact upd_same, q5.new hD⟩ (fun i H' _ ⟨_, _, f⟩ => Same.seqT f.b t4) ?_ ?_
      · rintro i v H' hv ⟨eD, el, f⟩
        rw [List.getElem?_map] at hv
        cases en : (g.n :: g.p :: g.ss)[i]? with
        | none => rw [en] at hv; cases hv
        | some n =>
          rw [en] at hv
          have ev := (Option.some.inj hv).symm
          subst ev
          have hn : n ≤ 12 := num_le hg (List.mem_of_getElem? en)
          refine ⟨rfl, _, rfl, (n : Int), rfl, Nat.lt_of_le_of_lt (Nat.log2_le_self _) (by omega), ?_⟩
          rw [str_num]
          refine ⟨_, eD, szl100 (by simp only [List.length_map, List.length_take, List.length_cons]; omega), ?_, by rw [upd_ne nlD]; exact el, f.mut hDS (.inr hD0)⟩
          rw [upd_same, take_snoc en, List.map_append, List.map_append]
          rfl
      · rintro H5 ⟨eD, el, f5⟩
        rw [List.length_map, List.take_length] at eD
        refine ⟨l, D, _, _, rfl, rfl, el, eD, sz100 (by simp only [List.length_map, List.length_cons, List.length_nil]; omega), fun r hr => ?_⟩
        refine ⟨" ", r, wordsG g, rfl, rfl, .inl (SqL.of upd_same), words_size hg, ?_⟩
        have f6 := (f5.new (o := .lst ([V.str "ring"] ++ ((g.n :: g.p :: g.ss).map wordG).map V.str)) hr).still
        clear f5 q5 q4 f4 q2 el eD eH1 eH b3 hDS hD0 t4 nlD
        generalize upd H5 r _ = H6 at f6 ⊢
        have ds6 := ds3.keep f6 (fun z => z)
        -- spoilt
        refine ⟨d, _, S3, rfl, f6.b, hd3, ds6, txt_ok hg, fun y H7 hy f7 ds7 => ?_⟩
        have hd7 := f7.d d ds6.nn hd3
        have b7 := f7.b
        clear f7 f6 ds6 ds3
        refine ⟨_, rfl, y, S3, rfl, b7, hy.le (by decide), fun H8 f8 => ?_⟩
        have ds8 := ds7.keep f8 (fun z => z)
        have hd8 := hd7
        refine ⟨_, rfl, .str y, S3, _, rfl, f8.b, .inl ⟨y, rfl, Nat.le_trans hy.1 (by decide), rfl⟩, fun p S9 H9 f9 hp => ?_⟩
        have f89 := f8.trans f9
        have hw : wrongOf y = match readW (Txt.split y " ") with | .ok _ => none | .error i => some i := rfl
        cases er : readW (Txt.split y " ") with
        | error k =>
          rw [er] at hp hw
          rw [hw]
          refine ⟨_, rfl, rfl, _, rfl, ite2 (fun z => absurd (of_decide_eq_true z) (fun y => by cases y)) (fun _ => ?_)⟩
          refine ⟨_, rfl, by show 1 ≤ sizeLine; decide, fun u hu => ?_⟩
          refine ⟨.list [.int (k : Int)], dL [(k : Int)], dp_mono (f9.b.trans (same_new hu)) hp, .lst (SqL.of upd_same) (.cons (.int _) .nil), dL_shaped [(k : Int)], dL_shaped _, _, rfl, ?_⟩
          have e1 : PyData.eqv (.list [.int (k : Int)]) (dL [(k : Int)]) = true := eqv_refl_ints [(k : Int)]
          rw [e1]
          refine iteF ?_
          refine ⟨_, rfl, rfl, _, rfl, ite2 (fun z => absurd (of_decide_eq_true z) (fun y => by cases y)) (fun _ => iteF ?_)⟩
          have f10 := (f89.new (o := .lst [V.int (k : Int)]) hu).still
          exact ⟨_, _, _, _, _, _, _, _, S3, rfl, f10.b, hd3, ds7.keep f10 (fun z => z)⟩
        | ok g2 =>
          rw [er] at hp hw
          rw [hw]
          refine ⟨_, rfl, rfl, _, rfl, ite2 (fun _ => ?_) (fun z => absurd (decide_eq_true rfl) z)⟩
          refine ⟨Nat.zero_le _, fun u hu => ?_⟩
          refine ⟨.list [], .list [], dp_mono (f9.b.trans (same_new hu)) hp, .lst (SqL.of upd_same) .nil, by decide +kernel, by decide +kernel, _, rfl, iteF ?_⟩
          refine ⟨_, rfl, rfl, _, rfl, ite2 (fun _ => ?_) (fun z => absurd (decide_eq_true rfl) z)⟩
          have f10 := (f89.new (o := .lst []) hu).still
          refine ⟨_, rfl, .str y, S3, _, rfl, f10.b, .inl ⟨y, rfl, Nat.le_trans hy.1 (by decide), rfl⟩, fun g3 e3 x2 S11 H11 f11 hG2 => ?_, fun i hi => ?_⟩
          · rw [er] at e3
            have e3 := Except.ok.inj (Option.some.inj e3)
            subst e3
            refine ⟨x2, g2, S11, rfl, readW_gok er, f11.b, hG2, fun H12 f12 => ?_⟩
            refine ⟨_, rfl, rfl, _, rfl, iteNS (congrArg V.str (txt_words er)) ?_⟩
            have f13 := ((f10.trans f11).trans f12).still
            exact ⟨_, _, _, _, _, _, _, _, S3, rfl, f13.b, hd3, ds7.keep f13 (fun z => z)⟩
          · rcases hi with ⟨z, _⟩ | ⟨k, z, _⟩
            · cases z
            · rw [er] at z
              cases z
    · rintro σ H2 ⟨c2, c3, c4, c5, c6, c7, c8, c9, S2, rfl, s2, _⟩
      -- the strange ones
      refine ⟨by show 9 ≤ sizeLine; decide, fun v1 hv1 => ?_⟩
      have k1 := (Fr.refl (M := M0) s2).new (o := .lst [.str "", .str "ring", .str "ring 3", .str "ring 3 2", .str "ring 1 2 1", .str "ring 13 2 1", .str "ring 3 1 1", .str "ring 3 10 1", .str "ring 3 2 0"]) hv1
      have e1 : (upd H2 v1 (.lst [.str "", .str "ring", .str "ring 3", .str "ring 3 2", .str "ring 1 2 1", .str "ring 13 2 1", .str "ring 3 1 1", .str "ring 3 10 1", .str "ring 3 2 0"])) v1 = some (.lst [.str "", .str "ring", .str "ring 3", .str "ring 3 2", .str "ring 1 2 1", .str "ring 13 2 1", .str "ring 3 1 1", .str "ring 3 10 1", .str "ring 3 2 0"]) := upd_same
      generalize upd H2 v1 _ = A1 at k1 e1 ⊢
      refine ⟨_, rfl, by show 6 ≤ sizeLine; decide, fun v2 hv2 => ?_⟩
      have k2 := k1.new (o := .lst [.str "ring 3 2 3", .str "ring 3 2 1 2", .str "ring 3 3 1 2", .str "ring 5 3 1 2 3", .str "ring 5 4 2 1", .str "ring 5 4 2 2"]) hv2
      have e1 : (upd A1 v2 (.lst [.str "ring 3 2 3", .str "ring 3 2 1 2", .str "ring 3 3 1 2", .str "ring 5 3 1 2 3", .str "ring 5 4 2 1", .str "ring 5 4 2 2"])) v1 = some (.lst [.str "", .str "ring", .str "ring 3", .str "ring 3 2", .str "ring 1 2 1", .str "ring 13 2 1", .str "ring 3 1 1", .str "ring 3 10 1", .str "ring 3 2 0"]) := by rw [upd_ne (ne_of_none e1 hv2)]; exact e1
      have e2 : (upd A1 v2 (.lst [.str "ring 3 2 3", .str "ring 3 2 1 2", .str "ring 3 3 1 2", .str "ring 5 3 1 2 3", .str "ring 5 4 2 1", .str "ring 5 4 2 2"])) v2 = some (.lst [.str "ring 3 2 3", .str "ring 3 2 1 2", .str "ring 3 3 1 2", .str "ring 5 3 1 2 3", .str "ring 5 4 2 1", .str "ring 5 4 2 2"]) := upd_same
      generalize upd A1 v2 _ = A2 at k2 e1 e2 ⊢
      refine ⟨v1, v2, _, _, rfl, rfl, e1, e2, sz100 (by decide), fun v3 hv3 => ?_⟩
      have k3 := k2.new (o := .lst ([V.str "", .str "ring", .str "ring 3", .str "ring 3 2", .str "ring 1 2 1", .str "ring 13 2 1", .str "ring 3 1 1", .str "ring 3 10 1", .str "ring 3 2 0"] ++ [.str "ring 3 2 3", .str "ring 3 2 1 2", .str "ring 3 3 1 2", .str "ring 5 3 1 2 3", .str "ring 5 4 2 1", .str "ring 5 4 2 2"])) hv3
      have e3 : (upd A2 v3 (.lst ([V.str "", .str "ring", .str "ring 3", .str "ring 3 2", .str "ring 1 2 1", .str "ring 13 2 1", .str "ring 3 1 1", .str "ring 3 10 1", .str "ring 3 2 0"] ++ [.str "ring 3 2 3", .str "ring 3 2 1 2", .str "ring 3 3 1 2", .str "ring 5 3 1 2 3", .str "ring 5 4 2 1", .str "ring 5 4 2 2"]))) v3 = some (.lst ([V.str "", .str "ring", .str "ring 3", .str "ring 3 2", .str "ring 1 2 1", .str "ring 13 2 1", .str "ring 3 1 1", .str "ring 3 10 1", .str "ring 3 2 0"] ++ [.str "ring 3 2 3", .str "ring 3 2 1 2", .str "ring 3 3 1 2", .str "ring 5 3 1 2 3", .str "ring 5 4 2 1", .str "ring 5 4 2 2"])) := upd_same
      clear k1 k2 e1 e2
      generalize upd A2 v3 _ = A3 at k3 e3 ⊢
      refine ⟨_, rfl, by show 5 ≤ sizeLine; decide, fun v4 hv4 => ?_⟩
      have k4 := k3.new (o := .lst [.str "ring 5 4 1 ", .str "ring 05 4 1", .str " ring 3 2 1", .str "Ring 3 2 1", .str "ring  3 2 1"]) hv4
      have e3 : (upd A3 v4 (.lst [.str "ring 5 4 1 ", .str "ring 05 4 1", .str " ring 3 2 1", .str "Ring 3 2 1", .str "ring  3 2 1"])) v3 = some (.lst ([V.str "", .str "ring", .str "ring 3", .str "ring 3 2", .str "ring 1 2 1", .str "ring 13 2 1", .str "ring 3 1 1", .str "ring 3 10 1", .str "ring 3 2 0"] ++ [.str "ring 3 2 3", .str "ring 3 2 1 2", .str "ring 3 3 1 2", .str "ring 5 3 1 2 3", .str "ring 5 4 2 1", .str "ring 5 4 2 2"])) := by rw [upd_ne (ne_of_none e3 hv4)]; exact e3
      have e4 : (upd A3 v4 (.lst [.str "ring 5 4 1 ", .str "ring 05 4 1", .str " ring 3 2 1", .str "Ring 3 2 1", .str "ring  3 2 1"])) v4 = some (.lst [.str "ring 5 4 1 ", .str "ring 05 4 1", .str " ring 3 2 1", .str "Ring 3 2 1", .str "ring  3 2 1"]) := upd_same
      generalize upd A3 v4 _ = A4 at k4 e3 e4 ⊢
      refine ⟨v3, v4, _, _, rfl, rfl, e3, e4, sz100 (by decide), fun v5 hv5 => ?_⟩
      have k5 := k4.new (o := .lst (([V.str "", .str "ring", .str "ring 3", .str "ring 3 2", .str "ring 1 2 1", .str "ring 13 2 1", .str "ring 3 1 1", .str "ring 3 10 1", .str "ring 3 2 0"] ++ [.str "ring 3 2 3", .str "ring 3 2 1 2", .str "ring 3 3 1 2", .str "ring 5 3 1 2 3", .str "ring 5 4 2 1", .str "ring 5 4 2 2"]) ++ [.str "ring 5 4 1 ", .str "ring 05 4 1", .str " ring 3 2 1", .str "Ring 3 2 1", .str "ring  3 2 1"])) hv5
      have e5 : (upd A4 v5 (.lst (([V.str "", .str "ring", .str "ring 3", .str "ring 3 2", .str "ring 1 2 1", .str "ring 13 2 1", .str "ring 3 1 1", .str "ring 3 10 1", .str "ring 3 2 0"] ++ [.str "ring 3 2 3", .str "ring 3 2 1 2", .str "ring 3 3 1 2", .str "ring 5 3 1 2 3", .str "ring 5 4 2 1", .str "ring 5 4 2 2"]) ++ [.str "ring 5 4 1 ", .str "ring 05 4 1", .str " ring 3 2 1", .str "Ring 3 2 1", .str "ring  3 2 1"]))) v5 = some (.lst (([V.str "", .str "ring", .str "ring 3", .str "ring 3 2", .str "ring 1 2 1", .str "ring 13 2 1", .str "ring 3 1 1", .str "ring 3 10 1", .str "ring 3 2 0"] ++ [.str "ring 3 2 3", .str "ring 3 2 1 2", .str "ring 3 3 1 2", .str "ring 5 3 1 2 3", .str "ring 5 4 2 1", .str "ring 5 4 2 2"]) ++ [.str "ring 5 4 1 ", .str "ring 05 4 1", .str " ring 3 2 1", .str "Ring 3 2 1", .str "ring  3 2 1"])) := upd_same
      clear k3 k4 e3 e4
      generalize upd A4 v5 _ = A5 at k5 e5 ⊢
      refine ⟨_, rfl, by show 2 ≤ sizeLine; decide, fun v6 hv6 => ?_⟩
      have k6 := k5.new (o := .lst [.str "ring 3 2 -1", .str "ring 3 3 2 1"]) hv6
      have e5 : (upd A5 v6 (.lst [.str "ring 3 2 -1", .str "ring 3 3 2 1"])) v5 = some (.lst (([V.str "", .str "ring", .str "ring 3", .str "ring 3 2", .str "ring 1 2 1", .str "ring 13 2 1", .str "ring 3 1 1", .str "ring 3 10 1", .str "ring 3 2 0"] ++ [.str "ring 3 2 3", .str "ring 3 2 1 2", .str "ring 3 3 1 2", .str "ring 5 3 1 2 3", .str "ring 5 4 2 1", .str "ring 5 4 2 2"]) ++ [.str "ring 5 4 1 ", .str "ring 05 4 1", .str " ring 3 2 1", .str "Ring 3 2 1", .str "ring  3 2 1"])) := by rw [upd_ne (ne_of_none e5 hv6)]; exact e5
      have e6 : (upd A5 v6 (.lst [.str "ring 3 2 -1", .str "ring 3 3 2 1"])) v6 = some (.lst [.str "ring 3 2 -1", .str "ring 3 3 2 1"]) := upd_same
      generalize upd A5 v6 _ = A6 at k6 e5 e6 ⊢
      refine ⟨v5, v6, _, _, rfl, rfl, e5, e6, sz100 (by decide), fun v7 hv7 => ?_⟩
      have k7 := (k6.new (o := .lst ((([V.str "", .str "ring", .str "ring 3", .str "ring 3 2", .str "ring 1 2 1", .str "ring 13 2 1", .str "ring 3 1 1", .str "ring 3 10 1", .str "ring 3 2 0"] ++ [.str "ring 3 2 3", .str "ring 3 2 1 2", .str "ring 3 3 1 2", .str "ring 5 3 1 2 3", .str "ring 5 4 2 1", .str "ring 5 4 2 2"]) ++ [.str "ring 5 4 1 ", .str "ring 05 4 1", .str " ring 3 2 1", .str "Ring 3 2 1", .str "ring  3 2 1"]) ++ [.str "ring 3 2 -1", .str "ring 3 3 2 1"])) hv7).still
      have e7 : (upd A6 v7 (.lst ((([V.str "", .str "ring", .str "ring 3", .str "ring 3 2", .str "ring 1 2 1", .str "ring 13 2 1", .str "ring 3 1 1", .str "ring 3 10 1", .str "ring 3 2 0"] ++ [.str "ring 3 2 3", .str "ring 3 2 1 2", .str "ring 3 3 1 2", .str "ring 5 3 1 2 3", .str "ring 5 4 2 1", .str "ring 5 4 2 2"]) ++ [.str "ring 5 4 1 ", .str "ring 05 4 1", .str " ring 3 2 1", .str "Ring 3 2 1", .str "ring  3 2 1"]) ++ [.str "ring 3 2 -1", .str "ring 3 3 2 1"]))) v7 = some (.lst ((([V.str "", .str "ring", .str "ring 3", .str "ring 3 2", .str "ring 1 2 1", .str "ring 13 2 1", .str "ring 3 1 1", .str "ring 3 10 1", .str "ring 3 2 0"] ++ [.str "ring 3 2 3", .str "ring 3 2 1 2", .str "ring 3 3 1 2", .str "ring 5 3 1 2 3", .str "ring 5 4 2 1", .str "ring 5 4 2 2"]) ++ [.str "ring 5 4 1 ", .str "ring 05 4 1", .str " ring 3 2 1", .str "Ring 3 2 1", .str "ring  3 2 1"]) ++ [.str "ring 3 2 -1", .str "ring 3 3 2 1"])) := upd_same
      clear k5 k6 e5 e6
      generalize upd A6 v7 _ = H7 at k7 e7 ⊢
      have e7 : H7 v7 = some (.lst ((((odds1 ++ odds2) ++ odds3) ++ odds4).map V.str)) := e7
      clear hv1 hv2 hv3 hv4 hv5 hv6 hv7
      refine ⟨v7, rfl, ⟨_, SqL.of e7⟩, for_list (K := K) (a := v7) (xs := (((odds1 ++ odds2) ++ odds3) ++ odds4).map V.str) (fun i σ H' => ∃ (c2 c3 c4 c5 c6 c7 c8 c9 : Option V), σ = [some (.ref a), some (.ref d), c2, c3, c4, c5, c6, c7, c8, c9] ∧ Fr M0 S2 H7 S2 H')
        ⟨_, _, _, _, _, _, _, _, rfl, Fr.refl k7.b⟩ (fun i σ H' _ ⟨_, _, _, _, _, _, _, _, _, f⟩ => SqL.of (f.c v7 _ (fun z => z) e7)) ?_ ?_⟩
      · rintro i v σ H8 hv ⟨c2, c3, c4, c5, c6, c7, c8, c9, rfl, f8⟩
        obtain ⟨y, rfl, hy⟩ : ∃ y : Str, v = .str y ∧ TxOk y := by
          have hm := List.mem_of_getElem? hv
          obtain ⟨y, hy, rfl⟩ := List.mem_map.mp hm
          exact ⟨y, rfl, odds_ok y hy⟩
        refine ⟨_, rfl, y, S2, rfl, f8.b, hy, fun H9 f9 => ?_⟩
        have f79 := f8.trans f9
        refine ⟨_, rfl, .str y, S2, _, rfl, f9.b, .inl ⟨y, rfl, Nat.le_trans hy.1 (by decide), rfl⟩, fun p S10 H10 f10 hp => ?_⟩
        have f710 := f79.trans f10
        have hw : wrongOf y = match readW (Txt.split y " ") with | .ok _ => none | .error i => some i := rfl
        cases er : readW (Txt.split y " ") with
        | error k =>
          rw [er] at hp hw
          rw [hw]
          refine ⟨_, rfl, rfl, _, rfl, ite2 (fun z => absurd (of_decide_eq_true z) (fun y => by cases y)) (fun _ => ?_)⟩
          refine ⟨_, rfl, by show 1 ≤ sizeLine; decide, fun u hu => ?_⟩
          refine ⟨.list [.int (k : Int)], dL [(k : Int)], dp_mono (f10.b.trans (same_new hu)) hp, .lst (SqL.of upd_same) (.cons (.int _) .nil), dL_shaped [(k : Int)], dL_shaped _, _, rfl, ?_⟩
          have e1 : PyData.eqv (.list [.int (k : Int)]) (dL [(k : Int)]) = true := eqv_refl_ints [(k : Int)]
          rw [e1]
          exact iteF ⟨_, _, _, _, _, _, _, _, rfl, (f710.new (o := .lst [V.int (k : Int)]) hu).still⟩
        | ok g2 =>
          rw [er] at hp hw
          rw [hw]
          refine ⟨_, rfl, rfl, _, rfl, ite2 (fun _ => ?_) (fun z => absurd (decide_eq_true rfl) z)⟩
          refine ⟨Nat.zero_le _, fun u hu => ?_⟩
          refine ⟨.list [], .list [], dp_mono (f10.b.trans (same_new hu)) hp, .lst (SqL.of upd_same) .nil, by decide +kernel, by decide +kernel, _, rfl, iteF ?_⟩
          exact ⟨_, _, _, _, _, _, _, _, rfl, (f710.new (o := .lst []) hu).still⟩
      · rintro σ H8 ⟨c2, c3, c4, c5, c6, c7, c8, c9, rfl, f8⟩
        -- values that are no texts
        refine ⟨Nat.zero_le _, fun w1 hw1 => ⟨Nat.zero_le _, fun w2 hw2 => fun w3 hw3 => ⟨by show 1 ≤ sizeLine; decide, fun w4 hw4 => ⟨by show 7 ≤ sizeLine; decide, fun w5 hw5 => ?_⟩⟩⟩⟩
        have g1 := (Fr.refl (M := M0) f8.b).imm (o := .lst []) hw1
        have g2 := g1.imm (o := .tup []) hw2
        have g3 := g2.imm (o := .dK []) hw3
        have g4 := g3.imm (o := .lst [.str "ring 3 2 1"]) hw4
        have g5 := g4.imm (o := .lst [.non, .int 3, .bl true, .ref w1, .ref w2, .ref w3, .ref w4]) hw5
        have b2 := (Fr.refl (M := M0) g1.b).imm (o := .tup []) hw2
        have b3 := (Fr.refl (M := M0) g2.b).imm (o := .dK []) hw3
        have b4 := (Fr.refl (M := M0) g3.b).imm (o := .lst [.str "ring 3 2 1"]) hw4
        have b5 := (Fr.refl (M := M0) g4.b).imm (o := .lst [.non, .int 3, .bl true, .ref w1, .ref w2, .ref w3, .ref w4]) hw5
        have r1 : SqL K (upd S2 w1 (.lst [])) w1 [] := SqL.of upd_same
        have r1 := (b2.a.trans (b3.a.trans (b4.a.trans b5.a))).seq r1
        have r2 : SqT K (upd (upd S2 w1 (.lst [])) w2 (.tup [])) w2 [] := SqT.of upd_same
        have r2 := Same.seqT (b3.a.trans (b4.a.trans b5.a)) r2
        have r3 := (b4.a.trans b5.a) w3 _ (upd_same (H := upd (upd S2 w1 (.lst [])) w2 (.tup [])) (o := .dK []))
        have r4 : SqL K (upd (upd (upd (upd S2 w1 (.lst [])) w2 (.tup [])) w3 (.dK [])) w4 (.lst [.str "ring 3 2 1"])) w4 [.str "ring 3 2 1"] := SqL.of upd_same
        have r4 := b5.a.seq r4
        have r5 : SqL K (upd (upd (upd (upd (upd S2 w1 (.lst [])) w2 (.tup [])) w3 (.dK [])) w4 (.lst [.str "ring 3 2 1"])) w5 (.lst [.non, .int 3, .bl true, .ref w1, .ref w2, .ref w3, .ref w4])) w5 [.non, .int 3, .bl true, .ref w1, .ref w2, .ref w3, .ref w4] := SqL.of upd_same
        have g5 := g5.b
        clear g1 g2 g3 g4 b2 b3 b4 b5 hw1 hw2 hw3 hw4 hw5
        generalize upd (upd _ w4 _) w5 _ = S9 at g5 r1 r2 r3 r4 r5
        generalize upd (upd _ w4 _) w5 _ = H9 at g5 ⊢
        refine ⟨w5, rfl, ⟨_, g5.seq r5⟩, fun D hD => ?_⟩
        have g6 := (Fr.refl (M := M0) g5).new (o := .lst []) hD
        refine lc_list (K := K) (a := w5) (xs := [.non, .int 3, .bl true, .ref w1, .ref w2, .ref w3, .ref w4]) (fun i H' => H' D = some (.lst []) ∧ Fr M0 S9 (upd H9 D (.lst [])) S9 H') ⟨upd_same, Fr.refl g6.b⟩ (fun i H' _ ⟨_, f⟩ => f.b.seq r5) ?_ ?_
        · rintro i v H10 hv ⟨eD, f10⟩
          have hI : ReadV K S9 v none := by
            match i, hv with
            | 0, hv => rw [← Option.some.inj hv]; exact odd_str (fun H' _ => .base .non) (kit_ty (by decide +kernel))
            | 1, hv => rw [← Option.some.inj hv]; exact odd_str (fun H' _ => .base (.int _)) (kit_ty (by decide +kernel))
            | 2, hv => rw [← Option.some.inj hv]; exact odd_str (fun H' _ => .base (.bl _)) (kit_ty (by decide +kernel))
            | 3, hv => rw [← Option.some.inj hv]; exact odd_str (fun H' s => ty_lst (s.seq r1)) (kit_ty (by decide +kernel))
            | 4, hv => rw [← Option.some.inj hv]; exact odd_str (fun H' s => ty_tup (Same.seqT s r2)) (kit_ty (by decide +kernel))
            | 5, hv => rw [← Option.some.inj hv]; exact odd_str (fun H' s => .base (.dK (s _ _ r3))) (kit_ty (by decide +kernel))
            | 6, hv => rw [← Option.some.inj hv]; exact odd_str (fun H' s => ty_lst (s.seq r4)) (kit_ty (by decide +kernel))
            | i + 7, hv => simp at hv
          refine ⟨rfl, _, rfl, v, S9, none, rfl, f10.b, hI, fun p S11 H11 f11 hp => ?_⟩
          refine ⟨by show 1 ≤ sizeLine; decide, fun u hu => ?_⟩
          have f12 := ((f10.trans f11).new (o := .lst [.non]) hu).still
          refine ⟨.list [.none], .list [.none], dp_mono (f11.b.trans (same_new hu)) hp, .lst (SqL.of upd_same) (.cons .non .nil), by decide +kernel, by decide +kernel, _, rfl, ?_⟩
          exact iteF ⟨f12.c D _ (fun z => z) upd_same, f12⟩
        · rintro H10 ⟨eD, f10⟩
          refine ⟨Nat.zero_le _, fun u hu => ?_⟩
          refine ⟨.list [], .list [], .lst (SqL.of (by rw [upd_ne (ne_of_none eD hu)]; exact eD)) .nil, .lst (SqL.of upd_same) .nil, by decide +kernel, by decide +kernel, ?_⟩
          exact q _
end
end Sw
set_option maxRecDepth 100000
set_option maxHeartbeats 4000000
namespace Sw
open PySem L2
open C8 (pss_cut tCut pe_c pe_mk pe_mt pe_mt0 pe_gc Cal Mak Met InsC call_isC)
theorem all_mk {l : PySem.W.OpenLaw} {w : World} {K : PySem.W.Frag} {h : Heap} {mg : Str → Option Value} {fa : Addr} (X : K.In h) (G : h.Ns mainGlobals mg) (hfa : mg "law" = some (.ref fa))
    {CGame : Addr}
    {od1 an1 : Option Addr} {sl1 : Array (Option Value)} {oc1 kV1 dc1 pm1 cd1 ct1 : Value} {f1 : Addr}
    {od2 an2 : Option Addr} {sl2 : Array (Option Value)} {oc2 kV2 dc2 pm2 cd2 ct2 : Value} {f2 : Addr}
    {od3 an3 : Option Addr} {sl3 : Array (Option Value)} {oc3 kV3 dc3 pm3 cd3 ct3 : Value} {f3 : Addr}
    {od4 an4 : Option Addr} {sl4 : Array (Option Value)} {oc4 kV4 dc4 pm4 cd4 ct4 : Value} {f4 : Addr}
    {od5 an5 : Option Addr} {sl5 : Array (Option Value)} {oc5 kV5 dc5 pm5 cd5 ct5 : Value} {f5 : Addr}
    {p5 : Addr} {rs5 : List Value}
    {od6 an6 : Option Addr} {sl6 : Array (Option Value)} {oc6 kV6 dc6 pm6 cd6 ct6 : Value} {f6 : Addr}
    {p6 : Addr} {rs6 : List Value}
    {od7 an7 : Option Addr} {sl7 : Array (Option Value)} {oc7 kV7 dc7 pm7 cd7 ct7 : Value} {f7 : Addr}
    {p7 : Addr} {rs7 : List Value}
    {od8 an8 : Option Addr} {sl8 : Array (Option Value)} {oc8 kV8 dc8 pm8 cd8 ct8 : Value} {f8 : Addr}
    {od9 an9 : Option Addr} {sl9 : Array (Option Value)} {oc9 kV9 dc9 pm9 cd9 ct9 : Value} {f9 : Addr}
    {od10 an10 : Option Addr} {sl10 : Array (Option Value)} {oc10 kV10 dc10 pm10 cd10 ct10 : Value} {f10 : Addr}
    {od11 an11 : Option Addr} {sl11 : Array (Option Value)} {oc11 kV11 dc11 pm11 cd11 ct11 : Value} {f11 : Addr}
    {CX_BadText SX_BadText NX_BadText fX_BadText : Addr} {mX_BadText qX_BadText : Str} {bX_BadText uX_BadText : List Value} {nX_BadText : List Str} {aX_BadText : Bool} {oX_BadText : Option Bool} {dX_BadText eX_BadText yX_BadText : Option Addr} {m0X_BadText m1X_BadText m2X_BadText m3X_BadText m5X_BadText : Option Value} {vX_BadText kX_BadText iX_BadText jX_BadText tX_BadText wX_BadText : Value} {lX_BadText : Array (Option Value)}
    {od12 an12 : Option Addr} {sl12 : Array (Option Value)} {oc12 kV12 dc12 pm12 cd12 ct12 : Value} {f12 : Addr}
    {od13 an13 : Option Addr} {sl13 : Array (Option Value)} {oc13 kV13 dc13 pm13 cd13 ct13 : Value} {f13 : Addr}
    {od14 an14 : Option Addr} {sl14 : Array (Option Value)} {oc14 kV14 dc14 pm14 cd14 ct14 : Value} {f14 : Addr}
    {od15 an15 : Option Addr} {sl15 : Array (Option Value)} {oc15 kV15 dc15 pm15 cd15 ct15 : Value} {f15 : Addr}
    {od16 an16 : Option Addr} {sl16 : Array (Option Value)} {oc16 kV16 dc16 pm16 cd16 ct16 : Value} {f16 : Addr}
    {od17 an17 : Option Addr} {sl17 : Array (Option Value)} {oc17 kV17 dc17 pm17 cd17 ct17 : Value} {f17 : Addr}
    {od18 an18 : Option Addr} {sl18 : Array (Option Value)} {oc18 kV18 dc18 pm18 cd18 ct18 : Value} {f18 : Addr}
    {od19 an19 : Option Addr} {sl19 : Array (Option Value)} {oc19 kV19 dc19 pm19 cd19 ct19 : Value} {f19 : Addr}
    {od20 an20 : Option Addr} {sl20 : Array (Option Value)} {oc20 kV20 dc20 pm20 cd20 ct20 : Value} {f20 : Addr}
    {t_LEAST_CHILDREN : Tok}
    {t_MOST_CHILDREN : Tok}
    {t_LEAST_PARTS : Tok}
    {t_MOST_PARTS : Tok}
    {t_FIRST_WORD : Tok}
    {t_FIRST_STEP : Tok}
    (aCGame : PySem.W.nsIn K mainGlobals "Game" = some (some (.ref CGame)))
    (pgGame : PySem.W.plainGet K CGame Str.empty = true)
    (hdGame : PySem.W.hasDictIn K CGame = true)
    (poGame : PySem.W.plainOver K CGame = true)
    (saGame : PySem.W.findIn K (.ref CGame) "__setattr__" = some (some (.builtin "object.__setattr__")))
    (mkGame : PySem.W.makesIn K CGame = true)
    (kcGame : PySem.W.keepIn K (.ref CGame) = true)
    (nGame_children : PySem.W.findIn K (.ref CGame) "_children" = some none)
    (nGame_parts : PySem.W.findIn K (.ref CGame) "_parts" = some none)
    (nGame_steps : PySem.W.findIn K (.ref CGame) "_steps" = some none)
    (a1 : PySem.W.nsIn K mainGlobals "is_whole" = some (some (.ref f1)))
    (l1 : K.lookup f1 = some ⟨oc1, od1, .func (PySem.W.fnOf "is_whole" "is_whole" (defArgs s_is_whole) (defBody s_is_whole) (defScope s_is_whole) .none kV1 dc1 pm1 an1 cd1 ct1), sl1⟩)
    (c1 : PySem.W.codeIn K cd1 "is_whole" = true)
    (k1 : PySem.W.keepIn K (.ref f1) = true)
    (a2 : PySem.W.nsIn K mainGlobals "is_between" = some (some (.ref f2)))
    (l2 : K.lookup f2 = some ⟨oc2, od2, .func (PySem.W.fnOf "is_between" "is_between" (defArgs s_is_between) (defBody s_is_between) (defScope s_is_between) .none kV2 dc2 pm2 an2 cd2 ct2), sl2⟩)
    (c2 : PySem.W.codeIn K cd2 "is_between" = true)
    (k2 : PySem.W.keepIn K (.ref f2) = true)
    (a3 : PySem.W.nsIn K mainGlobals "check_steps" = some (some (.ref f3)))
    (l3 : K.lookup f3 = some ⟨oc3, od3, .func (PySem.W.fnOf "check_steps" "check_steps" (defArgs s_check_steps) (defBody s_check_steps) (defScope s_check_steps) .none kV3 dc3 pm3 an3 cd3 ct3), sl3⟩)
    (c3 : PySem.W.codeIn K cd3 "check_steps" = true)
    (k3 : PySem.W.keepIn K (.ref f3) = true)
    (a4 : PySem.W.findIn K (.ref CGame) "__init__" = some (some (.ref f4)))
    (l4 : K.lookup f4 = some ⟨oc4, od4, .func (PySem.W.fnOf "__init__" "Game.__init__" (defArgs s_Game_init) (defBody s_Game_init) (defScope s_Game_init) .none kV4 dc4 pm4 an4 cd4 ct4), sl4⟩)
    (c4 : PySem.W.codeIn K cd4 "Game.__init__" = true)
    (k4 : PySem.W.keepIn K (.ref f4) = true)
    (i4 : PySem.W.isFn K (.ref f4) = true)
    (pa5 : PySem.W.findIn K (.ref CGame) "children" = some (some (.ref p5)))
    (pb5 : PySem.W.specialIn K (.ref p5) "__get__" = some (some (.builtin "property.__get__")))
    (pc5 : PySem.W.takesIn K (.ref p5) = some true)
    (pd5 : PySem.W.recIn K p5 "property" = some (.ref f5 :: rs5))
    (pa6 : PySem.W.findIn K (.ref CGame) "parts" = some (some (.ref p6)))
    (pb6 : PySem.W.specialIn K (.ref p6) "__get__" = some (some (.builtin "property.__get__")))
    (pc6 : PySem.W.takesIn K (.ref p6) = some true)
    (pd6 : PySem.W.recIn K p6 "property" = some (.ref f6 :: rs6))
    (pa7 : PySem.W.findIn K (.ref CGame) "steps" = some (some (.ref p7)))
    (pb7 : PySem.W.specialIn K (.ref p7) "__get__" = some (some (.builtin "property.__get__")))
    (pc7 : PySem.W.takesIn K (.ref p7) = some true)
    (pd7 : PySem.W.recIn K p7 "property" = some (.ref f7 :: rs7))
    (a8 : PySem.W.nsIn K mainGlobals "_law_below" = some (some (.ref f8)))
    (l8 : K.lookup f8 = some ⟨oc8, od8, .func (PySem.W.fnOf "_law_below" "_law_below" (defArgs s_law_below) (defBody s_law_below) (defScope s_law_below) .none kV8 dc8 pm8 an8 cd8 ct8), sl8⟩)
    (c8 : PySem.W.codeIn K cd8 "_law_below" = true)
    (k8 : PySem.W.keepIn K (.ref f8) = true)
    (a9 : PySem.W.nsIn K mainGlobals "_law_pick" = some (some (.ref f9)))
    (l9 : K.lookup f9 = some ⟨oc9, od9, .func (PySem.W.fnOf "_law_pick" "_law_pick" (defArgs s_law_pick) (defBody s_law_pick) (defScope s_law_pick) .none kV9 dc9 pm9 an9 cd9 ct9), sl9⟩)
    (c9 : PySem.W.codeIn K cd9 "_law_pick" = true)
    (k9 : PySem.W.keepIn K (.ref f9) = true)
    (a10 : PySem.W.nsIn K mainGlobals "_law_random" = some (some (.ref f10)))
    (l10 : K.lookup f10 = some ⟨oc10, od10, .func (PySem.W.fnOf "_law_random" "_law_random" (defArgs s_law_random) (defBody s_law_random) (defScope s_law_random) .none kV10 dc10 pm10 an10 cd10 ct10), sl10⟩)
    (c10 : PySem.W.codeIn K cd10 "_law_random" = true)
    (k10 : PySem.W.keepIn K (.ref f10) = true)
    (a11 : PySem.W.nsIn K mainGlobals "_law_game" = some (some (.ref f11)))
    (l11 : K.lookup f11 = some ⟨oc11, od11, .func (PySem.W.fnOf "_law_game" "_law_game" (defArgs s_law_game) (defBody s_law_game) (defScope s_law_game) .none kV11 dc11 pm11 an11 cd11 ct11), sl11⟩)
    (c11 : PySem.W.codeIn K cd11 "_law_game" = true)
    (k11 : PySem.W.keepIn K (.ref f11) = true)
    (ru_BadText : PySem.W.nsIn K mainGlobals "BadText" = some (some (.ref CX_BadText)))
    (rl_BadText : K.lookup CX_BadText = some (excClassObj mX_BadText qX_BadText CX_BadText NX_BadText bX_BadText [.ref SX_BadText, .type "ValueError", .type "Exception", .type "BaseException", .type "object"] true nX_BadText uX_BadText aX_BadText oX_BadText dX_BadText m0X_BadText m1X_BadText m2X_BadText m3X_BadText m5X_BadText "ValueError.__new__"))
    (rs_BadText : PySem.W.findIn K (.ref CX_BadText) "__setattr__" = some (some (.builtin "object.__setattr__")))
    (rg_BadText : PySem.W.findIn K (.ref CX_BadText) "__getattribute__" = some (some (.builtin "BaseException.__getattribute__")))
    (ra_BadText : PySem.W.findIn K (.ref CX_BadText) "__getattr__" = some none)
    (rf_BadText : PySem.W.findIn K (.ref CX_BadText) "word" = some none)
    (ri_BadText : PySem.W.findIn K (.ref CX_BadText) "__init__" = some (some (.ref fX_BadText)))
    (rt_BadText : PySem.W.typeIn K (.ref fX_BadText) = some (.type "function"))
    (rn_BadText : K.lookup fX_BadText = some ⟨vX_BadText, eX_BadText, .func (PySem.W.fnOf "__init__" "BadText.__init__" (defArgs s_BadText_init) (defBody s_BadText_init) (defScope s_BadText_init) .none kX_BadText iX_BadText jX_BadText yX_BadText tX_BadText wX_BadText), lX_BadText⟩)
    (rc_BadText : PySem.W.codeIn K tX_BadText "BadText.__init__" = true)
    (rw_BadText : PySem.W.keepIn K (.ref fX_BadText) = true)
    (rk_BadText : PySem.W.keepIn K (.ref CX_BadText) = true)
    (rb_BadText : PySem.W.subIn K (.ref CX_BadText) (.type "BaseException") = some true)
    (ry_BadText : PySem.W.typeIn K (.ref CX_BadText) = some (.type "type"))
    (rh_BadText : PySem.W.hasDictIn K CX_BadText = true)
    (rx_BadText : PySem.W.isClsIn K CX_BadText = true)
    (rz_BadText : PySem.W.subIn K (.ref CX_BadText) (.ref CX_BadText) = some true)
    (a12 : PySem.W.nsIn K mainGlobals "write" = some (some (.ref f12)))
    (l12 : K.lookup f12 = some ⟨oc12, od12, .func (PySem.W.fnOf "write" "write" (defArgs s_write) (defBody s_write) (defScope s_write) .none kV12 dc12 pm12 an12 cd12 ct12), sl12⟩)
    (c12 : PySem.W.codeIn K cd12 "write" = true)
    (k12 : PySem.W.keepIn K (.ref f12) = true)
    (a13 : PySem.W.nsIn K mainGlobals "read_number" = some (some (.ref f13)))
    (l13 : K.lookup f13 = some ⟨oc13, od13, .func (PySem.W.fnOf "read_number" "read_number" (defArgs s_read_number) (defBody s_read_number) (defScope s_read_number) .none kV13 dc13 pm13 an13 cd13 ct13), sl13⟩)
    (c13 : PySem.W.codeIn K cd13 "read_number" = true)
    (k13 : PySem.W.keepIn K (.ref f13) = true)
    (a14 : PySem.W.nsIn K mainGlobals "read_steps" = some (some (.ref f14)))
    (l14 : K.lookup f14 = some ⟨oc14, od14, .func (PySem.W.fnOf "read_steps" "read_steps" (defArgs s_read_steps) (defBody s_read_steps) (defScope s_read_steps) .none kV14 dc14 pm14 an14 cd14 ct14), sl14⟩)
    (c14 : PySem.W.codeIn K cd14 "read_steps" = true)
    (k14 : PySem.W.keepIn K (.ref f14) = true)
    (a15 : PySem.W.nsIn K mainGlobals "read" = some (some (.ref f15)))
    (l15 : K.lookup f15 = some ⟨oc15, od15, .func (PySem.W.fnOf "read" "read" (defArgs s_read) (defBody s_read) (defScope s_read) .none kV15 dc15 pm15 an15 cd15 ct15), sl15⟩)
    (c15 : PySem.W.codeIn K cd15 "read" = true)
    (k15 : PySem.W.keepIn K (.ref f15) = true)
    (a16 : PySem.W.nsIn K mainGlobals "_law_number" = some (some (.ref f16)))
    (l16 : K.lookup f16 = some ⟨oc16, od16, .func (PySem.W.fnOf "_law_number" "_law_number" (defArgs s_law_number) (defBody s_law_number) (defScope s_law_number) .none kV16 dc16 pm16 an16 cd16 ct16), sl16⟩)
    (c16 : PySem.W.codeIn K cd16 "_law_number" = true)
    (k16 : PySem.W.keepIn K (.ref f16) = true)
    (a17 : PySem.W.nsIn K mainGlobals "_law_wrong" = some (some (.ref f17)))
    (l17 : K.lookup f17 = some ⟨oc17, od17, .func (PySem.W.fnOf "_law_wrong" "_law_wrong" (defArgs s_law_wrong) (defBody s_law_wrong) (defScope s_law_wrong) .none kV17 dc17 pm17 an17 cd17 ct17), sl17⟩)
    (c17 : PySem.W.codeIn K cd17 "_law_wrong" = true)
    (k17 : PySem.W.keepIn K (.ref f17) = true)
    (a18 : PySem.W.nsIn K mainGlobals "_law_spoilt" = some (some (.ref f18)))
    (l18 : K.lookup f18 = some ⟨oc18, od18, .func (PySem.W.fnOf "_law_spoilt" "_law_spoilt" (defArgs s_law_spoilt) (defBody s_law_spoilt) (defScope s_law_spoilt) .none kV18 dc18 pm18 an18 cd18 ct18), sl18⟩)
    (c18 : PySem.W.codeIn K cd18 "_law_spoilt" = true)
    (k18 : PySem.W.keepIn K (.ref f18) = true)
    (a19 : PySem.W.nsIn K mainGlobals "_law_told" = some (some (.ref f19)))
    (l19 : K.lookup f19 = some ⟨oc19, od19, .func (PySem.W.fnOf "_law_told" "_law_told" (defArgs s_law_told) (defBody s_law_told) (defScope s_law_told) .none kV19 dc19 pm19 an19 cd19 ct19), sl19⟩)
    (c19 : PySem.W.codeIn K cd19 "_law_told" = true)
    (k19 : PySem.W.keepIn K (.ref f19) = true)
    (a20 : PySem.W.nsIn K mainGlobals "law" = some (some (.ref f20)))
    (l20 : K.lookup f20 = some ⟨oc20, od20, .func (PySem.W.fnOf "law" "law" (defArgs s_law) (defBody s_law) (defScope s_law) .none kV20 dc20 pm20 an20 cd20 ct20), sl20⟩)
    (c20 : PySem.W.codeIn K cd20 "law" = true)
    (k20 : PySem.W.keepIn K (.ref f20) = true)
    (z_abs : PySem.W.nsIn K mainGlobals "abs" = some none)
    (z_bool : PySem.W.nsIn K mainGlobals "bool" = some none)
    (z_dict : PySem.W.nsIn K mainGlobals "dict" = some none)
    (z_enumerate : PySem.W.nsIn K mainGlobals "enumerate" = some none)
    (z_int : PySem.W.nsIn K mainGlobals "int" = some none)
    (z_isinstance : PySem.W.nsIn K mainGlobals "isinstance" = some none)
    (z_len : PySem.W.nsIn K mainGlobals "len" = some none)
    (z_list : PySem.W.nsIn K mainGlobals "list" = some none)
    (z_max : PySem.W.nsIn K mainGlobals "max" = some none)
    (z_range : PySem.W.nsIn K mainGlobals "range" = some none)
    (z_str : PySem.W.nsIn K mainGlobals "str" = some none)
    (z_tuple : PySem.W.nsIn K mainGlobals "tuple" = some none)
    (v_LEAST_CHILDREN : PySem.W.nsIn K mainGlobals "LEAST_CHILDREN" = some (some (.int 2 t_LEAST_CHILDREN)))
    (v_MOST_CHILDREN : PySem.W.nsIn K mainGlobals "MOST_CHILDREN" = some (some (.int 12 t_MOST_CHILDREN)))
    (v_LEAST_PARTS : PySem.W.nsIn K mainGlobals "LEAST_PARTS" = some (some (.int 2 t_LEAST_PARTS)))
    (v_MOST_PARTS : PySem.W.nsIn K mainGlobals "MOST_PARTS" = some (some (.int 9 t_MOST_PARTS)))
    (v_FIRST_WORD : PySem.W.nsIn K mainGlobals "FIRST_WORD" = some (some (.str "ring" t_FIRST_WORD)))
    (v_FIRST_STEP : PySem.W.nsIn K mainGlobals "FIRST_STEP" = some (some (.int 3 t_FIRST_STEP)))
    (l5 : K.lookup f5 = some ⟨oc5, od5, .func (PySem.W.fnOf "children" "Game.children" (defArgs s_Game_children) (defBody s_Game_children) (defScope s_Game_children) .none kV5 dc5 pm5 an5 cd5 ct5), sl5⟩)
    (c5 : PySem.W.codeIn K cd5 "Game.children" = true)
    (k5 : PySem.W.keepIn K (.ref f5) = true)
    (l6 : K.lookup f6 = some ⟨oc6, od6, .func (PySem.W.fnOf "parts" "Game.parts" (defArgs s_Game_parts) (defBody s_Game_parts) (defScope s_Game_parts) .none kV6 dc6 pm6 an6 cd6 ct6), sl6⟩)
    (c6 : PySem.W.codeIn K cd6 "Game.parts" = true)
    (k6 : PySem.W.keepIn K (.ref f6) = true)
    (l7 : K.lookup f7 = some ⟨oc7, od7, .func (PySem.W.fnOf "steps" "Game.steps" (defArgs s_Game_steps) (defBody s_Game_steps) (defScope s_Game_steps) .none kV7 dc7 pm7 an7 cd7 ct7), sl7⟩)
    (c7 : PySem.W.codeIn K cd7 "Game.steps" = true)
    (k7 : PySem.W.keepIn K (.ref f7) = true)
    : ∃ fd : FuncData, (∀ (s : Shared) (v : Value), BindsTo s fd ⟨[v], []⟩ [("_law_script", v)]) ∧ ∀ base : Heap, K.In base → base.Ns mainGlobals mg → FnOk l.prog w K mg base CX0 8 fa fd ["_law_script"] (spLaw K) := by
  have e := hfa.symm.trans (PySem.W.mg_of X G a20)
  cases e
  have T : Txt K mg := ⟨PySem.W.mg_none_of X G z_abs, PySem.W.mg_none_of X G z_bool, PySem.W.mg_none_of X G z_dict, PySem.W.mg_none_of X G z_enumerate, PySem.W.mg_none_of X G z_int, PySem.W.mg_none_of X G z_isinstance, PySem.W.mg_none_of X G z_len, PySem.W.mg_none_of X G z_list, PySem.W.mg_none_of X G z_max, PySem.W.mg_none_of X G z_range, PySem.W.mg_none_of X G z_str, PySem.W.mg_none_of X G z_tuple, ⟨_, PySem.W.mg_of X G v_LEAST_CHILDREN, ⟨_, rfl⟩⟩, ⟨_, PySem.W.mg_of X G v_MOST_CHILDREN, ⟨_, rfl⟩⟩, ⟨_, PySem.W.mg_of X G v_LEAST_PARTS, ⟨_, rfl⟩⟩, ⟨_, PySem.W.mg_of X G v_MOST_PARTS, ⟨_, rfl⟩⟩, ⟨_, PySem.W.mg_of X G v_FIRST_WORD, ⟨_, rfl⟩⟩, ⟨_, PySem.W.mg_of X G v_FIRST_STEP, ⟨_, rfl⟩⟩⟩
  have Z : GTxt K CGame := ⟨⟨pgGame, hdGame, poGame, saGame⟩, nGame_children, nGame_parts, nGame_steps⟩
  have F1 := fun_mk (st := s_is_whole) l1 c1 k1
  have b1 := F1.binds (ps := ["value"]) fun _ _ _ _ _ _ us hl => match us, hl with | [_], _ => rfl
  have F2 := fun_mk (st := s_is_between) l2 c2 k2
  have b2 := F2.binds (ps := ["value", "least", "most"]) fun _ _ _ _ _ _ us hl => match us, hl with | [_, _, _], _ => rfl
  have F3 := fun_mk (st := s_check_steps) l3 c3 k3
  have b3 := F3.binds (ps := ["children", "parts", "steps"]) fun _ _ _ _ _ _ us hl => match us, hl with | [_, _, _], _ => rfl
  have F4 := fun_mk (st := s_Game_init) l4 c4 k4
  have b4 := F4.binds (ps := ["self", "children", "parts", "steps"]) fun _ _ _ _ _ _ us hl => match us, hl with | [_, _, _, _], _ => rfl
  have F5 := fun_mk (st := s_Game_children) l5 c5 k5
  have b5 := F5.binds (ps := ["self"]) fun _ _ _ _ _ _ us hl => match us, hl with | [_], _ => rfl
  have F6 := fun_mk (st := s_Game_parts) l6 c6 k6
  have b6 := F6.binds (ps := ["self"]) fun _ _ _ _ _ _ us hl => match us, hl with | [_], _ => rfl
  have F7 := fun_mk (st := s_Game_steps) l7 c7 k7
  have b7 := F7.binds (ps := ["self"]) fun _ _ _ _ _ _ us hl => match us, hl with | [_], _ => rfl
  have F8 := fun_mk (st := s_law_below) l8 c8 k8
  have b8 := F8.binds (ps := ["_law_d", "_law_size"]) fun _ _ _ _ _ _ us hl => match us, hl with | [_, _], _ => rfl
  have F9 := fun_mk (st := s_law_pick) l9 c9 k9
  have b9 := F9.binds (ps := ["_law_d", "_law_items"]) fun _ _ _ _ _ _ us hl => match us, hl with | [_, _], _ => rfl
  have F10 := fun_mk (st := s_law_random) l10 c10 k10
  have b10 := F10.binds (ps := ["_law_script", "_law_salt"]) fun _ _ _ _ _ _ us hl => match us, hl with | [_, _], _ => rfl
  have F11 := fun_mk (st := s_law_game) l11 c11 k11
  have b11 := F11.binds (ps := ["_law_d", "_law_most"]) fun _ _ _ _ _ _ us hl => match us, hl with | [_, _], _ => rfl
  have FX_BadText := fun_mk (st := s_BadText_init) rn_BadText rc_BadText rw_BadText
  have BX_BadText := FX_BadText.binds (ps := ["self", "word"]) fun _ _ _ _ _ _ us hl => match us, hl with | [_, _], _ => rfl
  have OX_BadText : OexC K CX_BadText := ⟨⟨_, _, _, _, _, _, _, _, _, _, _, _, _, _, _, rl_BadText, rfl⟩, rs_BadText, rb_BadText, ry_BadText, rk_BadText⟩
  have F12 := fun_mk (st := s_write) l12 c12 k12
  have b12 := F12.binds (ps := ["game"]) fun _ _ _ _ _ _ us hl => match us, hl with | [_], _ => rfl
  have F13 := fun_mk (st := s_read_number) l13 c13 k13
  have b13 := F13.binds (ps := ["words", "index", "least", "most"]) fun _ _ _ _ _ _ us hl => match us, hl with | [_, _, _, _], _ => rfl
  have F14 := fun_mk (st := s_read_steps) l14 c14 k14
  have b14 := F14.binds (ps := ["words", "children", "parts"]) fun _ _ _ _ _ _ us hl => match us, hl with | [_, _, _], _ => rfl
  have F15 := fun_mk (st := s_read) l15 c15 k15
  have b15 := F15.binds (ps := ["text"]) fun _ _ _ _ _ _ us hl => match us, hl with | [_], _ => rfl
  have F16 := fun_mk (st := s_law_number) l16 c16 k16
  have b16 := F16.binds (ps := ["_law_words_so", "_law_at", "_law_low", "_law_high"]) fun _ _ _ _ _ _ us hl => match us, hl with | [_, _, _, _], _ => rfl
  have F17 := fun_mk (st := s_law_wrong) l17 c17 k17
  have b17 := F17.binds (ps := ["_law_text"]) fun _ _ _ _ _ _ us hl => match us, hl with | [_], _ => rfl
  have F18 := fun_mk (st := s_law_spoilt) l18 c18 k18
  have b18 := F18.binds (ps := ["_law_d", "_law_text"]) fun _ _ _ _ _ _ us hl => match us, hl with | [_, _], _ => rfl
  have F19 := fun_mk (st := s_law_told) l19 c19 k19
  have b19 := F19.binds (ps := ["_law_text"]) fun _ _ _ _ _ _ us hl => match us, hl with | [_], _ => rfl
  have F20 := fun_mk (st := s_law) l20 c20 k20
  have b20 := F20.binds (ps := ["_law_script"]) fun _ _ _ _ _ _ us hl => match us, hl with | [_], _ => rfl
  refine ⟨PySem.W.fnOf "law" "law" (defArgs s_law) (defBody s_law) (defScope s_law) .none kV20 dc20 pm20 an20 cd20 ct20, fun s v => .of_eq rfl, fun base _ _ => ?_⟩
  have c_is_whole : Cal l.prog w K mg base 1 "is_whole" (spWhole K) [] := ⟨f1, _, ["value"], [], ok_is_whole F1 T, PySem.W.mg_of X G a1, k1, b1, .nil⟩
  have c_is_between : Cal l.prog w K mg base 2 "is_between" (spBetween K) [] := ⟨f2, _, ["value", "least", "most"], [], ok_is_between F2 T c_is_whole, PySem.W.mg_of X G a2, k2, b2, .nil⟩
  have c_check_steps : Cal l.prog w K mg base 3 "check_steps" (spSteps K) [] := ⟨f3, _, ["children", "parts", "steps"], [], ok_check_steps F3 T c_is_between, PySem.W.mg_of X G a3, k3, b3, .nil⟩
  have m_Game : Mak l.prog w K mg base 4 "Game" CGame (spGame K CGame) [] := ⟨f4, _, ["self", "children", "parts", "steps"], [], ⟨mkGame, a4, i4, kcGame⟩, ok_Game_init F4 T Z c_is_between c_check_steps, PySem.W.mg_of X G aCGame, b4, .nil⟩
  have p_children : Prp l.prog w K mg base 1 CGame "children" "_children" := ⟨p5, f5, _, Z.cl, ⟨pa5, pb5, pc5, ⟨rs5, pd5⟩⟩, ok_children F5 Z, b5⟩
  have p_parts : Prp l.prog w K mg base 1 CGame "parts" "_parts" := ⟨p6, f6, _, Z.cl, ⟨pa6, pb6, pc6, ⟨rs6, pd6⟩⟩, ok_parts F6 Z, b6⟩
  have p_steps : Prp l.prog w K mg base 1 CGame "steps" "_steps" := ⟨p7, f7, _, Z.cl, ⟨pa7, pb7, pc7, ⟨rs7, pd7⟩⟩, ok_steps F7 Z, b7⟩
  have c_law_below : Cal l.prog w K mg base 1 "_law_below" (spBelow) [] := ⟨f8, _, ["_law_d", "_law_size"], [], ok_law_below F8 T, PySem.W.mg_of X G a8, k8, b8, .nil⟩
  have c_law_pick : Cal l.prog w K mg base 2 "_law_pick" (spPick) [] := ⟨f9, _, ["_law_d", "_law_items"], [], ok_law_pick F9 T c_law_below, PySem.W.mg_of X G a9, k9, b9, .nil⟩
  have c_law_random : Cal l.prog w K mg base 1 "_law_random" (spRandom K) [] := ⟨f10, _, ["_law_script", "_law_salt"], [], ok_law_random F10 T, PySem.W.mg_of X G a10, k10, b10, .nil⟩
  have c_law_game : Cal l.prog w K mg base 6 "_law_game" (spLawGame K CGame) [] := ⟨f11, _, ["_law_d", "_law_most"], [], ok_law_game F11 T c_law_below c_law_pick m_Game, PySem.W.mg_of X G a11, k11, b11, .nil⟩
  have EX_BadText : SwV.ExF l.prog w K mg base "BadText" CX_BadText "word" := ⟨OX_BadText, ⟨rg_BadText, ra_BadText, rb_BadText, rh_BadText⟩, rf_BadText, PySem.W.mg_of X G ru_BadText, exm_self rb_BadText rx_BadText ry_BadText rz_BadText, fX_BadText, _, ["self", "word"], ri_BadText, rt_BadText, ok_BadText_init FX_BadText OX_BadText rf_BadText, BX_BadText⟩
  have c_write : Cal l.prog w K mg base 3 "write" (spWrite K CGame) [] := ⟨f12, _, ["game"], [], ok_write F12 T p_children p_parts p_steps, PySem.W.mg_of X G a12, k12, b12, .nil⟩
  have cx_read_number : SwV.CalX l.prog w K mg base 3 "read_number" (spReadNum K CX_BadText) [] := ⟨f13, _, ["words", "index", "least", "most"], [], ok_read_number_x F13 T EX_BadText, PySem.W.mg_of X G a13, k13, b13, .nil⟩
  have cx_read_steps : SwV.CalX l.prog w K mg base 4 "read_steps" (spReadSteps K CX_BadText) [] := ⟨f14, _, ["words", "children", "parts"], [], ok_read_steps_x F14 T EX_BadText cx_read_number, PySem.W.mg_of X G a14, k14, b14, .nil⟩
  have cx_read : SwV.CalX l.prog w K mg base 6 "read" (spRead K CGame CX_BadText) [] := ⟨f15, _, ["text"], [], ok_read_x F15 T EX_BadText cx_read_number cx_read_steps m_Game, PySem.W.mg_of X G a15, k15, b15, .nil⟩
  have c_law_number : Cal l.prog w K mg base 1 "_law_number" (spNum K) [] := ⟨f16, _, ["_law_words_so", "_law_at", "_law_low", "_law_high"], [], ok_law_number F16 T, PySem.W.mg_of X G a16, k16, b16, .nil⟩
  have c_law_wrong : Cal l.prog w K mg base 2 "_law_wrong" (spWrong K) [] := ⟨f17, _, ["_law_text"], [], ok_law_wrong F17 T c_law_number, PySem.W.mg_of X G a17, k17, b17, .nil⟩
  have c_law_spoilt : Cal l.prog w K mg base 3 "_law_spoilt" (spSpoilt) [] := ⟨f18, _, ["_law_d", "_law_text"], [], ok_law_spoilt F18 T c_law_below c_law_pick, PySem.W.mg_of X G a18, k18, b18, .nil⟩
  have c_law_told : Cal l.prog w K mg base 7 "_law_told" (spToldT K) [] := ⟨f19, _, ["_law_text"], [], ok_law_told F19 T EX_BadText cx_read, PySem.W.mg_of X G a19, k19, b19, .nil⟩
  exact ok_law F20 T c_law_random c_law_game c_law_wrong c_law_spoilt c_law_told p_children p_parts p_steps c_write cx_read
theorem walk {l : PySem.W.OpenLaw} {q : Program} {loose : List Str} {XP : (Str → Option Value) → Heap → Prop} {YP : World → Heap → Prop} {d : DefRec} {K : Params → PySem.W.Frag} (hn : l.most = some 63) (hdf : d.params.defaults = [])
    (hY : ∀ (w : World) (h : Heap), YP w h → (K w.params).In h)
    (F : ∀ (w : World) (mg : Str → Option Value) (fa : Addr) (h : Heap), (K w.params).In h → h.Ns mainGlobals mg → mg d.name = some (.ref fa) →
      ∃ fd : FuncData, (∀ (s : Shared) (u : Value), BindsTo s fd ⟨[u], []⟩ [("_law_script", u)]) ∧ ∀ base : Heap, (K w.params).In base → base.Ns mainGlobals mg → FnOk l.prog w (K w.params) mg base CX0 8 fa fd ["_law_script"] (spLaw (K w.params))) :
    PySem.W.WalkO q loose XP YP l.row.toRowW d [] (fun f vs => PySem.call f vs) :=
  L2.walk_of (n := 63) (k := 8) (x := "_law_script") (CX := fun _ => CX0) (sp := fun w => spLaw (K w.params)) hn (by decide) hdf ⟨rfl, by decide, by decide⟩ hY F (fun _ _ a ns hl _ hS => ⟨a, ns, rfl, hS, hl, fun _ => rfl⟩) fun _ _ _ _ _ z => z
end Sw
open PySem PySem.W PyProof.Rows
set_option maxRecDepth 100000 in
set_option maxHeartbeats 0 in
theorem PySem.Challenge.cw_sweetsring_k18_whole_texts_refused_holds : PySem.Challenge.rw_sweetsring_k18_whole_texts_refused.Holds := by
  w_on; o_law; k_head; (case hw => w_witness2)
  k_fill
  refine Sw.walk (l := PySem.Challenge.rw_sweetsring_k18_whole_texts_refused) rfl rfl (fun w h Y => PySem.W.kIn_of Y) ?F
  case F =>
    intro w mg fa h KX G hmg
    refine' Sw.all_mk KX G hmg ?aCGame ?pgGame ?hdGame ?poGame ?saGame ?mkGame ?kcGame ?nGame_children ?nGame_parts ?nGame_steps ?a1 ?l1 ?c1 ?k1 ?a2 ?l2 ?c2 ?k2 ?a3 ?l3 ?c3 ?k3 ?a4 ?l4 ?c4 ?k4 ?i4 ?pa5 ?pb5 ?pc5 ?pd5 ?pa6 ?pb6 ?pc6 ?pd6 ?pa7 ?pb7 ?pc7 ?pd7 ?a8 ?l8 ?c8 ?k8 ?a9 ?l9 ?c9 ?k9 ?a10 ?l10 ?c10 ?k10 ?a11 ?l11 ?c11 ?k11 ?ru_BadText ?rl_BadText ?rs_BadText ?rg_BadText ?ra_BadText ?rf_BadText ?ri_BadText ?rt_BadText ?rn_BadText ?rc_BadText ?rw_BadText ?rk_BadText ?rb_BadText ?ry_BadText ?rh_BadText ?rx_BadText ?rz_BadText ?a12 ?l12 ?c12 ?k12 ?a13 ?l13 ?c13 ?k13 ?a14 ?l14 ?c14 ?k14 ?a15 ?l15 ?c15 ?k15 ?a16 ?l16 ?c16 ?k16 ?a17 ?l17 ?c17 ?k17 ?a18 ?l18 ?c18 ?k18 ?a19 ?l19 ?c19 ?k19 ?a20 ?l20 ?c20 ?k20 ?z_abs ?z_bool ?z_dict ?z_enumerate ?z_int ?z_isinstance ?z_len ?z_list ?z_max ?z_range ?z_str ?z_tuple ?v_LEAST_CHILDREN ?v_MOST_CHILDREN ?v_LEAST_PARTS ?v_MOST_PARTS ?v_FIRST_WORD ?v_FIRST_STEP ?l5 ?c5 ?k5 ?l6 ?c6 ?k6 ?l7 ?c7 ?k7
    (case aCGame => k_is)
    (case pgGame => k_is)
    (case hdGame => k_is)
    (case poGame => k_is)
    (case saGame => k_is)
    (case mkGame => k_is)
    (case kcGame => k_is)
    (case nGame_children => k_is)
    (case nGame_parts => k_is)
    (case nGame_steps => k_is)
    (case a1 => k_is)
    (case l1 => k_is)
    (case c1 => k_is)
    (case k1 => k_is)
    (case a2 => k_is)
    (case l2 => k_is)
    (case c2 => k_is)
    (case k2 => k_is)
    (case a3 => k_is)
    (case l3 => k_is)
    (case c3 => k_is)
    (case k3 => k_is)
    (case a4 => k_is)
    (case l4 => k_is)
    (case c4 => k_is)
    (case k4 => k_is)
    (case i4 => k_is)
    (case pa5 => k_is)
    (case pb5 => k_is)
    (case pc5 => k_is)
    (case pd5 => k_is)
    (case pa6 => k_is)
    (case pb6 => k_is)
    (case pc6 => k_is)
    (case pd6 => k_is)
    (case pa7 => k_is)
    (case pb7 => k_is)
    (case pc7 => k_is)
    (case pd7 => k_is)
    (case a8 => k_is)
    (case l8 => k_is)
    (case c8 => k_is)
    (case k8 => k_is)
    (case a9 => k_is)
    (case l9 => k_is)
    (case c9 => k_is)
    (case k9 => k_is)
    (case a10 => k_is)
    (case l10 => k_is)
    (case c10 => k_is)
    (case k10 => k_is)
    (case a11 => k_is)
    (case l11 => k_is)
    (case c11 => k_is)
    (case k11 => k_is)
    (case ru_BadText => k_is)
    (case rl_BadText => k_is)
    (case rs_BadText => k_is)
    (case rg_BadText => k_is)
    (case ra_BadText => k_is)
    (case rf_BadText => k_is)
    (case ri_BadText => k_is)
    (case rt_BadText => k_is)
    (case rn_BadText => k_is)
    (case rc_BadText => k_is)
    (case rw_BadText => k_is)
    (case rk_BadText => k_is)
    (case rb_BadText => k_is)
    (case ry_BadText => k_is)
    (case rh_BadText => k_is)
    (case rx_BadText => k_is)
    (case rz_BadText => first | rfl | k_is)
    (case a12 => k_is)
    (case l12 => k_is)
    (case c12 => k_is)
    (case k12 => k_is)
    (case a13 => k_is)
    (case l13 => k_is)
    (case c13 => k_is)
    (case k13 => k_is)
    (case a14 => k_is)
    (case l14 => k_is)
    (case c14 => k_is)
    (case k14 => k_is)
    (case a15 => k_is)
    (case l15 => k_is)
    (case c15 => k_is)
    (case k15 => k_is)
    (case a16 => k_is)
    (case l16 => k_is)
    (case c16 => k_is)
    (case k16 => k_is)
    (case a17 => k_is)
    (case l17 => k_is)
    (case c17 => k_is)
    (case k17 => k_is)
    (case a18 => k_is)
    (case l18 => k_is)
    (case c18 => k_is)
    (case k18 => k_is)
    (case a19 => k_is)
    (case l19 => k_is)
    (case c19 => k_is)
    (case k19 => k_is)
    (case a20 => k_is)
    (case l20 => k_is)
    (case c20 => k_is)
    (case k20 => k_is)
    (case z_abs => k_is)
    (case z_bool => k_is)
    (case z_dict => k_is)
    (case z_enumerate => k_is)
    (case z_int => k_is)
    (case z_isinstance => k_is)
    (case z_len => k_is)
    (case z_list => k_is)
    (case z_max => k_is)
    (case z_range => k_is)
    (case z_str => k_is)
    (case z_tuple => k_is)
    (case v_LEAST_CHILDREN => k_is)
    (case v_MOST_CHILDREN => k_is)
    (case v_LEAST_PARTS => k_is)
    (case v_MOST_PARTS => k_is)
    (case v_FIRST_WORD => k_is)
    (case v_FIRST_STEP => k_is)
    (case l5 => k_is)
    (case c5 => k_is)
    (case k5 => k_is)
    (case l6 => k_is)
    (case c6 => k_is)
    (case k6 => k_is)
    (case l7 => k_is)
    (case c7 => k_is)
    (case k7 => k_is)
