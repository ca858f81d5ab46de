import PyProof.Rows.All
import Wide.All
import OpenK.AllK
import Wide.FinOn
import HandS.Base
import HandS.Call
import HandS.List
import HandS.Ends
import HandS.Exc
import HandS.TryOnly
import HandS.ExcOwn
import HandS.Words
import HandS.Wide
import HandS.Gcd
import HandS.WordsExc
import HandS.Text
import HandS.StrMore
import HandS.Iter
import HandS.Comp
import HandS.Rev
import HandS.Conv
import HandS.Deep
import HandS.Style
import HandS.TupAny
import HandS.SortOrd
import HandS.SortRule
import KE.KSortTup
import KE.KSortTupAny
import KE.KDictPairs
import HandS.Dict
import HandS.Defaults
import PyProof.Rows.StrDigitsNeg
import HandS.SetBool
import HandS.Strs
import HandS.Star
import KE.KMathG
import HandS.Zip
import KE.GoesZip
import KE.GoesEnum
import KE.GoesMore
import PySem.Challenge.RW_surecues_k06_least_and_greatest_values
set_option Elab.async false
set_option linter.all false
set_option maxRecDepth 100000
set_option maxHeartbeats 4000000
/-! Heap-free words over the hand layer: what an expression is worth, as data; what a body does, over the data in its slots. -/
namespace DL
open PySem PySem.Spec PyProof.Rows L2

abbrev D := PyData
abbrev Fg := PySem.W.Frag

/-! ### heaps -/
def Ex (H H' : Hp) : Prop := ∀ a o, H a = some o → H' a = some o
theorem Ex.refl (H : Hp) : Ex H H := fun _ _ h => h
theorem Ex.trans {H H1 H2 : Hp} (a : Ex H H1) (b : Ex H1 H2) : Ex H H2 := fun x o h => b x o (a x o h)
theorem Ex.new {H H' : Hp} {p : Addr} {o : HO} (e : Ex H H') (h : H p = none) : Ex H (upd H' p o) := fun a u q => by
  rw [upd_ne (ne_of_none q h)]
  exact e a u q
theorem Ex.both {H H' : Hp} {p : Addr} {o : HO} (e : Ex H H') : Ex (upd H p o) (upd H' p o) := fun a u q => by
  by_cases h : a = p
  · subst h
    rw [upd_same] at q ⊢
    exact q
  · rw [upd_ne h] at q ⊢
    exact e a u q
theorem Ex.none {H H' : Hp} {p : Addr} (e : Ex H H') (h : H' p = none) : H p = none := by
  cases q : H p with
  | none => rfl
  | some o =>
    rw [e p o q] at h
    cases h
theorem Ex.rd {H H' : Hp} {a : Addr} {u : HO} (e : Ex H H') (h : Rd H a u) : Rd H' a u := by
  rcases h with h | ⟨o, h⟩
  · exact .inl (e a _ h)
  · exact .inr ⟨o, e a _ h⟩
theorem Ex.sqL {K : Fg} {H H' : Hp} {a : Addr} {xs : List V} (e : Ex H H') (h : SqL K H a xs) : SqL K H' a xs := h.imp e.rd id
/-- a tuple without a dict of its own: frozen, or the module's -/
def SqZ (K : Fg) (H : Hp) (a : Addr) (xs : List V) : Prop := (∃ o : Obj, H a = some (.frz o (.tup xs)) ∧ o.cls = .type "tuple" ∧ o.dict = none) ∨
  ∃ (o : Obj) (is : Array Value) (n : Nat), K.lookup a = some o ∧ (o.cls = .type "tuple" ∧ o.dict = none) ∧ o.data = .seq is n ∧ is.size ≤ sizeLine ∧ Vals xs is.toList
theorem SqZ.t {K : Fg} {H : Hp} {a : Addr} {xs : List V} (h : SqZ K H a xs) : SqT K H a xs := by
  rcases h with ⟨o, h, _⟩ | ⟨o, is, n, h1, h2, h3, h4, h5⟩
  · exact .inl (.inr ⟨o, h⟩)
  · exact .inr ⟨o, is, n, h1, h2.1, h3, h4, h5⟩
theorem SqZ.of {K : Fg} {H : Hp} {a : Addr} {xs : List V} {o : Obj} (h : H a = some (.frz o (.tup xs))) (h1 : o.cls = .type "tuple") (h2 : o.dict = none) : SqZ K H a xs := .inl ⟨o, h, h1, h2⟩
mutual
inductive Dp (K : Fg) (H : Hp) : V → D → Prop
  | non : Dp K H .non .none
  | bl (b : Bool) : Dp K H (.bl b) (.bool b)
  | int (i : Int) : Dp K H (.int i) (.int i)
  | str (x : Str) : Dp K H (.str x) (.str x)
  | lst {p : Addr} {vs : List V} {cs : List D} (h : SqL K H p vs) (hs : DpAll K H vs cs) : Dp K H (.ref p) (.list cs)
  | tup {p : Addr} {vs : List V} {cs : List D} (h : SqZ K H p vs) (hs : DpAll K H vs cs) : Dp K H (.ref p) (.tuple cs)
inductive DpAll (K : Fg) (H : Hp) : List V → List D → Prop
  | nil : DpAll K H [] []
  | cons {x : V} {xs : List V} {c : D} {cs : List D} (h : Dp K H x c) (hs : DpAll K H xs cs) : DpAll K H (x :: xs) (c :: cs)
end
mutual
theorem Dp.old {K : Fg} {H : Hp} : ∀ {d : D} {v : V}, Dp K H v d → L2.Dp K H v d
  | .none, _, h => by cases h; exact .non
  | .bool b, _, h => by cases h; exact .bl b
  | .int i, _, h => by cases h; exact .int i
  | .str x, _, h => by cases h; exact .str x
  | .list ds, _, h => by
    cases h with
    | lst hs ha => exact .lst hs (DpAll.old ha)
  | .tuple ds, _, h => by
    cases h with
    | tup hs ha => exact .tup hs.t (DpAll.old ha)
  | .dict _, _, h => by cases h
theorem DpAll.old {K : Fg} {H : Hp} : ∀ {ds : List D} {vs : List V}, DpAll K H vs ds → L2.DpAll K H vs ds
  | [], _, h => by cases h; exact .nil
  | d :: ds, _, h => by
    cases h with
    | cons h1 h2 => exact .cons (Dp.old h1) (DpAll.old h2)
end
theorem Ex.sqZ {K : Fg} {H H' : Hp} {a : Addr} {xs : List V} (e : Ex H H') (h : SqZ K H a xs) : SqZ K H' a xs := by
  rcases h with ⟨o, h, h1, h2⟩ | h
  · exact .inl ⟨o, e a _ h, h1, h2⟩
  · exact .inr h
theorem Ex.sqT {K : Fg} {H H' : Hp} {a : Addr} {xs : List V} (e : Ex H H') (h : SqT K H a xs) : SqT K H' a xs := h.imp e.rd id
mutual
theorem Ex.dp {K : Fg} {H H' : Hp} (e : Ex H H') : ∀ {d : D} {v : V}, Dp K H v d → Dp K H' v d
  | .none, _, h => by cases h; exact .non
  | .bool b, _, h => by cases h; exact .bl b
  | .int i, _, h => by cases h; exact .int i
  | .str x, _, h => by cases h; exact .str x
  | .list ds, _, h => by
    cases h with
    | lst hs ha => exact .lst (e.sqL hs) (Ex.dpAll e ha)
  | .tuple ds, _, h => by
    cases h with
    | tup hs ha => exact .tup (e.sqZ hs) (Ex.dpAll e ha)
  | .dict _, _, h => by cases h
theorem Ex.dpAll {K : Fg} {H H' : Hp} (e : Ex H H') : ∀ {ds : List D} {vs : List V}, DpAll K H vs ds → DpAll K H' vs ds
  | [], _, h => by cases h; exact .nil
  | d :: ds, _, h => by
    cases h with
    | cons h1 h2 => exact .cons (Ex.dp e h1) (Ex.dpAll e h2)
end
theorem DpAll.len {K : Fg} {H : Hp} : ∀ {ds : List D} {vs : List V}, DpAll K H vs ds → vs.length = ds.length
  | [], _, h => by cases h; rfl
  | d :: ds, _, h => by
    cases h with
    | cons h1 h2 => rw [List.length_cons, List.length_cons, DpAll.len h2]
theorem DpAll.get {K : Fg} {H : Hp} : ∀ {ds : List D} {vs : List V} {i : Nat} {d : D}, DpAll K H vs ds → ds[i]? = some d → ∃ v, vs[i]? = some v ∧ Dp K H v d
  | [], _, i, d, h, e => by simp at e
  | c :: ds, _, 0, d, h, e => by
    cases h with
    | cons h1 h2 =>
      have e' : c = d := Option.some.inj e
      subst e'
      exact ⟨_, rfl, h1⟩
  | c :: ds, _, i + 1, d, h, e => by
    cases h with
    | cons h1 h2 => exact DpAll.get (i := i) h2 e
theorem DpAll.getV {K : Fg} {H : Hp} : ∀ {ds : List D} {vs : List V} {i : Nat} {v : V}, DpAll K H vs ds → vs[i]? = some v → ∃ d, ds[i]? = some d ∧ Dp K H v d
  | [], _, i, d, h, e => by cases h; simp at e
  | c :: ds, _, 0, d, h, e => by
    cases h with
    | cons h1 h2 =>
      have e' := Option.some.inj e
      subst e'
      exact ⟨_, rfl, h1⟩
  | c :: ds, _, i + 1, d, h, e => by
    cases h with
    | cons h1 h2 => exact DpAll.getV (i := i) h2 e
theorem DpAll.snoc {K : Fg} {H : Hp} {v : V} {d : D} (h : Dp K H v d) : ∀ {ds : List D} {vs : List V}, DpAll K H vs ds → DpAll K H (vs ++ [v]) (ds ++ [d])
  | [], _, q => by cases q; exact .cons h .nil
  | c :: ds, _, q => by
    cases q with
    | cons h1 h2 => exact .cons h1 (DpAll.snoc h h2)
theorem DpAll.app {K : Fg} {H : Hp} {ws : List V} {es : List D} (h : DpAll K H ws es) : ∀ {ds : List D} {vs : List V}, DpAll K H vs ds → DpAll K H (vs ++ ws) (ds ++ es)
  | [], _, q => by cases q; exact h
  | c :: ds, _, q => by
    cases q with
    | cons h1 h2 => exact .cons h1 (DpAll.app h h2)
theorem dpAll_ints {K : Fg} {H : Hp} : ∀ ns : List Int, DpAll K H (ns.map V.int) (ns.map PyData.int)
  | [] => .nil
  | n :: ns => .cons (.int n) (dpAll_ints ns)

/-- the stable part and the whole, both grown -/
structure Ext (S H S' H' : Hp) : Prop where
  s : Ex S S'
  h : Ex H H'
  i : Ex S' H'
  n : ∀ a, S a = none → H a ≠ none → S' a = none
theorem Ext.refl {S H : Hp} (i : Ex S H) : Ext S H S H := ⟨Ex.refl S, Ex.refl H, i, fun _ h _ => h⟩
theorem Ext.trans {S H S1 H1 S2 H2 : Hp} (a : Ext S H S1 H1) (b : Ext S1 H1 S2 H2) : Ext S H S2 H2 :=
  ⟨a.s.trans b.s, a.h.trans b.h, b.i, fun x h1 h2 => b.n x (a.n x h1 h2) fun z => h2 (a.h.none z)⟩
/-- a new thing, in both -/
theorem Ext.add {S H S' H' : Hp} {p : Addr} {o : HO} (a : Ext S H S' H') (h : H' p = none) : Ext S H (upd S' p o) (upd H' p o) :=
  ⟨a.s.new (a.s.none (a.i.none h)), a.h.new (a.h.none h), a.i.both, fun x h1 h2 => by
    have ne : x ≠ p := fun z => by subst z; exact h2 (a.h.none h)
    rw [upd_ne ne]
    exact a.n x h1 h2⟩
/-- a new thing, in the whole alone -/
theorem Ext.own {S H S' H' : Hp} {p : Addr} {o : HO} (a : Ext S H S' H') (h0 : H p = none) (hs : S' p = none) : Ext S H S' (upd H' p o) :=
  ⟨a.s, a.h.new h0, a.i.new hs, a.n⟩
/-- what was the whole's alone becomes stable -/
theorem Ext.keep {S H S' H' : Hp} {p : Addr} {o : HO} (a : Ext S H S' H') (h0 : H p = none) (hs : S' p = none) (h : H' p = some o) : Ext S H (upd S' p o) H' :=
  ⟨a.s.new (a.s.none hs), a.h, fun x u q => by
    by_cases z : x = p
    · subst z
      rw [upd_same] at q
      rw [h]
      exact q
    · rw [upd_ne z] at q
      exact a.i x u q, fun x h1 h2 => by
    have ne : x ≠ p := fun z => by subst z; exact h2 h0
    rw [upd_ne ne]
    exact a.n x h1 h2⟩

/-! ### slots -/
/-- what a slot holds: nothing that is known; data; a list that it alone holds -/
inductive Ent where
  | no
  | im (d : D)
  | own (ds : List D)
abbrev Gam := List Ent
structure Hol (K : Fg) (H0 S H : Hp) (σ : L2.St) (G : Gam) : Prop where
  len : σ.length = G.length
  im : ∀ (i : Nat) (d : D), G[i]? = some (.im d) → ∃ v, σ[i]? = some (some v) ∧ Dp K S v d
  own : ∀ (i : Nat) (ds : List D), G[i]? = some (.own ds) → ∃ (p : Addr) (vs : List V), σ[i]? = some (some (.ref p)) ∧ H0 p = none ∧ S p = none ∧ H p = some (.lst vs) ∧ DpAll K S vs ds
  sep : ∀ (i j : Nat) (ds es : List D) (p : Addr), i ≠ j → G[i]? = some (.own ds) → G[j]? = some (.own es) → σ[i]? = some (some (.ref p)) → σ[j]? ≠ some (some (.ref p))
theorem Hol.ext {K : Fg} {H0 S H S' H' : Hp} {σ : L2.St} {G : Gam} (h : Hol K H0 S H σ G) (e : Ext S H S' H') : Hol K H0 S' H' σ G :=
  ⟨h.len, fun i d q => let ⟨v, a, b⟩ := h.im i d q; ⟨v, a, e.s.dp b⟩, fun i ds q => let ⟨p, vs, a, z, b, c, r⟩ := h.own i ds q
    ⟨p, vs, a, z, e.n p b (by rw [c]; exact fun z => nomatch z), e.h _ _ c, e.s.dpAll r⟩, h.sep⟩
theorem Hol.set_im {K : Fg} {H0 S H : Hp} {σ : L2.St} {G : Gam} {i : Nat} {v : V} {d : D} (h : Hol K H0 S H σ G) (q : Dp K S v d) : Hol K H0 S H (σ.set i (some v)) (G.set i (.im d)) := by
  refine ⟨by rw [List.length_set, List.length_set, h.len], fun j e hj => ?_, fun j es hj => ?_, fun j k es fs p hne hj hk hp => ?_⟩
  · by_cases c : i = j
    · subst c
      have l : i < G.length := by
        have := (List.getElem?_eq_some_iff.mp hj).1
        rw [List.length_set] at this
        exact this
      rw [List.getElem?_set_self l] at hj
      have e' : d = e := Ent.im.inj (Option.some.inj hj)
      subst e'
      exact ⟨v, List.getElem?_set_self (by rw [h.len]; exact l), q⟩
    · rw [List.getElem?_set_ne c] at hj ⊢
      exact h.im j e hj
  · by_cases c : i = j
    · subst c
      have l : i < G.length := by
        have := (List.getElem?_eq_some_iff.mp hj).1
        rw [List.length_set] at this
        exact this
      rw [List.getElem?_set_self l] at hj
      cases hj
    · rw [List.getElem?_set_ne c] at hj ⊢
      exact h.own j es hj
  · have nj : i ≠ j := fun c => by
      subst c
      have l : i < G.length := by
        have := (List.getElem?_eq_some_iff.mp hj).1
        rw [List.length_set] at this
        exact this
      rw [List.getElem?_set_self l] at hj
      cases hj
    have nk : i ≠ k := fun c => by
      subst c
      have l : i < G.length := by
        have := (List.getElem?_eq_some_iff.mp hk).1
        rw [List.length_set] at this
        exact this
      rw [List.getElem?_set_self l] at hk
      cases hk
    rw [List.getElem?_set_ne nj] at hj hp
    rw [List.getElem?_set_ne nk] at hk ⊢
    exact h.sep j k es fs p hne hj hk hp
/-- a slot takes a list that nothing else holds -/
theorem Hol.set_own {K : Fg} {H0 S H : Hp} {σ : L2.St} {G : Gam} {i : Nat} {p : Addr} {vs : List V} {ds : List D} (h : Hol K H0 S H σ G) (h0 : H0 p = none) (hs : S p = none) (hp : H p = some (.lst vs)) (q : DpAll K S vs ds)
    (hn : ∀ (j : Nat) (es : List D), j ≠ i → G[j]? = some (.own es) → σ[j]? ≠ some (some (.ref p))) : Hol K H0 S H (σ.set i (some (.ref p))) (G.set i (.own ds)) := by
  have lt : ∀ {j : Nat} {x : Ent}, (G.set i (.own ds))[j]? = some x → j < G.length := fun {j x} hj => by
    have := (List.getElem?_eq_some_iff.mp hj).1
    rw [List.length_set] at this
    exact this
  refine ⟨by rw [List.length_set, List.length_set, h.len], fun j e hj => ?_, fun j es hj => ?_, fun j k es fs r hne hj hk hr => ?_⟩
  · by_cases c : i = j
    · subst c
      rw [List.getElem?_set_self (lt hj)] at hj
      cases hj
    · rw [List.getElem?_set_ne c] at hj ⊢
      exact h.im j e hj
  · by_cases c : i = j
    · subst c
      have l := lt hj
      rw [List.getElem?_set_self l] at hj
      have e' : ds = es := Ent.own.inj (Option.some.inj hj)
      subst e'
      exact ⟨p, vs, List.getElem?_set_self (by rw [h.len]; exact l), h0, hs, hp, q⟩
    · rw [List.getElem?_set_ne c] at hj ⊢
      exact h.own j es hj
  · by_cases cj : i = j
    · subst cj
      have nk : i ≠ k := hne
      rw [List.getElem?_set_self (by rw [h.len]; exact lt hj)] at hr
      have er : p = r := V.ref.inj (Option.some.inj (Option.some.inj hr))
      subst er
      rw [List.getElem?_set_ne nk] at hk ⊢
      exact hn k fs (Ne.symm nk) hk
    · rw [List.getElem?_set_ne cj] at hj hr
      by_cases ck : i = k
      · subst ck
        rw [List.getElem?_set_self (by rw [h.len]; exact lt hk)]
        intro z
        have er : p = r := V.ref.inj (Option.some.inj (Option.some.inj z))
        subst er
        exact hn j es (Ne.symm cj) hj hr
      · rw [List.getElem?_set_ne ck] at hk ⊢
        exact h.sep j k es fs r hne hj hk hr
/-- a list that one slot holds becomes plain data -/
theorem Hol.keep {K : Fg} {H0 S H : Hp} {σ : L2.St} {G : Gam} {i : Nat} {ds : List D} (h : Hol K H0 S H σ G) (hi : G[i]? = some (.own ds)) : ∃ (p : Addr) (vs : List V), H0 p = none ∧ S p = none ∧ H p = some (.lst vs) ∧
    Hol K H0 (upd S p (.lst vs)) H σ (G.set i (.im (.list ds))) := by
  obtain ⟨p, vs, hp, z, hs, hh, q⟩ := h.own i ds hi
  have l : i < G.length := (List.getElem?_eq_some_iff.mp hi).1
  have e : Ex S (upd S p (.lst vs)) := (Ex.refl S).new hs
  have no : ∀ {j : Nat} {es : List D}, (G.set i (.im (.list ds)))[j]? = some (.own es) → i ≠ j ∧ G[j]? = some (.own es) := fun {j es} hj => by
    have c : i ≠ j := fun c => by
      subst c
      rw [List.getElem?_set_self l] at hj
      cases hj
    rw [List.getElem?_set_ne c] at hj
    exact ⟨c, hj⟩
  refine ⟨p, vs, z, hs, hh, by rw [List.length_set, h.len], fun j d hj => ?_, fun j es hj => ?_, fun j k es fs r hne hj hk hr => ?_⟩
  · by_cases c : i = j
    · subst c
      rw [List.getElem?_set_self l] at hj
      have e' : (.list ds : D) = d := Ent.im.inj (Option.some.inj hj)
      subst e'
      exact ⟨_, hp, .lst (SqL.of upd_same) (e.dpAll q)⟩
    · rw [List.getElem?_set_ne c] at hj
      obtain ⟨v, a, b⟩ := h.im j d hj
      exact ⟨v, a, e.dp b⟩
  · obtain ⟨c, hj⟩ := no hj
    obtain ⟨r, ws, a, z', b, b', q'⟩ := h.own j es hj
    refine ⟨r, ws, a, z', ?_, b', e.dpAll q'⟩
    rw [upd_ne fun y => h.sep i j ds es p c hi hj hp (by rw [← y]; exact a)]
    exact b
  · exact h.sep j k es fs r hne (no hj).2 (no hk).2 hr
/-- a slot is forgotten -/
theorem Hol.drop {K : Fg} {H0 S H : Hp} {σ : L2.St} {G : Gam} {i : Nat} (h : Hol K H0 S H σ G) : Hol K H0 S H σ (G.set i .no) := by
  have no : ∀ {j : Nat} {x : Ent}, (G.set i .no)[j]? = some x → x ≠ .no → i ≠ j ∧ G[j]? = some x := fun {j x} hj hx => by
    have c : i ≠ j := fun c => by
      subst c
      have l : i < G.length := by
        have := (List.getElem?_eq_some_iff.mp hj).1
        rw [List.length_set] at this
        exact this
      rw [List.getElem?_set_self l] at hj
      exact hx (Option.some.inj hj).symm
    rw [List.getElem?_set_ne c] at hj
    exact ⟨c, hj⟩
  exact ⟨by rw [List.length_set, h.len], fun j d hj => h.im j d (no hj (fun z => nomatch z)).2, fun j es hj => h.own j es (no hj (fun z => nomatch z)).2,
    fun j k es fs r hne hj hk => h.sep j k es fs r hne (no hj (fun z => nomatch z)).2 (no hk (fun z => nomatch z)).2⟩
/-- another value in a slot of which nothing is known -/
theorem Hol.set_no {K : Fg} {H0 S H : Hp} {σ : L2.St} {G : Gam} {i : Nat} {x : Option V} (h : Hol K H0 S H σ G) : Hol K H0 S H (σ.set i x) (G.set i .no) := by
  have no : ∀ {j : Nat} {x : Ent}, (G.set i .no)[j]? = some x → x ≠ .no → i ≠ j ∧ G[j]? = some x := fun {j x} hj hx => by
    have c : i ≠ j := fun c => by
      subst c
      have l : i < G.length := by
        have := (List.getElem?_eq_some_iff.mp hj).1
        rw [List.length_set] at this
        exact this
      rw [List.getElem?_set_self l] at hj
      exact hx (Option.some.inj hj).symm
    rw [List.getElem?_set_ne c] at hj
    exact ⟨c, hj⟩
  refine ⟨by rw [List.length_set, List.length_set, h.len], fun j d hj => ?_, fun j es hj => ?_, fun j k es fs r hne hj hk hr => ?_⟩
  · obtain ⟨c, hj⟩ := no hj (fun z => nomatch z)
    rw [List.getElem?_set_ne c]
    exact h.im j d hj
  · obtain ⟨c, hj⟩ := no hj (fun z => nomatch z)
    rw [List.getElem?_set_ne c]
    exact h.own j es hj
  · obtain ⟨cj, hj⟩ := no hj (fun z => nomatch z)
    obtain ⟨ck, hk⟩ := no hk (fun z => nomatch z)
    rw [List.getElem?_set_ne cj] at hr
    rw [List.getElem?_set_ne ck]
    exact h.sep j k es fs r hne hj hk hr
end DL

namespace DL
open PySem PySem.Spec PyProof.Rows L2
/-! starEach's step by the form of the expression, its parts unseen -/
section
variable {es : List Expr} {env : Env} {a b c : Expr} {xs : List Expr} {p : Pos}
theorem sk_const {c : Const} {k : Nat} : starEach (.Constant c k p :: es) env = (false, eval (.Constant c k p) env) :: starEach es env := rfl
theorem sk_name {x : Str} : starEach (.Name x p :: es) env = (false, eval (.Name x p) env) :: starEach es env := rfl
theorem sk_bin {op : Operator} : starEach (.BinOp a op b p :: es) env = (false, eval (.BinOp a op b p) env) :: starEach es env := rfl
theorem sk_un {op : UnaryOp} : starEach (.UnaryOp op a p :: es) env = (false, eval (.UnaryOp op a p) env) :: starEach es env := rfl
theorem sk_bool {op : BoolOp} : starEach (.BoolOp op xs p :: es) env = (false, eval (.BoolOp op xs p) env) :: starEach es env := rfl
theorem sk_cmp {ops : List CmpOp} : starEach (.Compare a ops xs p :: es) env = (false, eval (.Compare a ops xs p) env) :: starEach es env := rfl
theorem sk_call {ks : List Keyword} : starEach (.Call a xs ks p :: es) env = (false, eval (.Call a xs ks p) env) :: starEach es env := rfl
theorem sk_sub : starEach (.Subscript a b p :: es) env = (false, eval (.Subscript a b p) env) :: starEach es env := rfl
theorem sk_attr {x : Str} : starEach (.Attribute a x p :: es) env = (false, eval (.Attribute a x p) env) :: starEach es env := rfl
theorem sk_tup {k} : starEach (.Tuple xs k p :: es) env = (false, eval (.Tuple xs k p) env) :: starEach es env := rfl
theorem sk_lst : starEach (.List xs p :: es) env = (false, eval (.List xs p) env) :: starEach es env := rfl
theorem sk_if : starEach (.IfExp a b c p :: es) env = (false, eval (.IfExp a b c p) env) :: starEach es env := rfl
theorem sk_lc {gs : List Comprehension} {sc : Scope} : starEach (.ListComp a gs sc p :: es) env = (false, eval (.ListComp a gs sc p) env) :: starEach es env := rfl
end

/-! ### what syntax needs of its state -/
def WE (X : Cx) (e : Expr) : TE := fun σ H Q => ∀ (pins : List (Addr × Obj)) (s : Shared), Inv X pins σ H s → wpAny (model X.prog X.w) X.A (eval e X.env) (EP X pins σ Q) X.xe s
def WT (X : Cx) (e : Expr) : TT := fun σ H Q => ∀ (pins : List (Addr × Obj)) (s : Shared), Inv X pins σ H s → wpAny (model X.prog X.w) X.A (isTrue e X.env (eval e X.env)) (TP X pins σ Q) X.xe s
def WW (X : Cx) (e : Expr) : TT := fun σ H Q => ∀ (whole : Sem Value) (pins : List (Addr × Obj)) (s : Shared), Inv X pins σ H s → wpAny (model X.prog X.w) X.A (isTrue e X.env whole) (TP X pins σ Q) X.xe s
def WA (X : Cx) (es : List Expr) : TA := fun σ H Q => ∀ (pos : Pos) (pins : List (Addr × Obj)) (s : Shared), Inv X pins σ H s → wpAny (model X.prog X.w) X.A (spliced (backTo pos (starEach es X.env))) (AP X pins σ Q) X.xe s
def WS (X : Cx) (st : Stmt) : TS := fun D σ H => ∀ (pins : List (Addr × Obj)) (s : Shared), Inv X pins σ H s → wpAny (model X.prog X.w) X.A (exec st X.env) (SP X pins D) X.xe s
def WSs (X : Cx) (sts : List Stmt) : TS := fun D σ H => ∀ (pins : List (Addr × Obj)) (s : Shared), Inv X pins σ H s → wpAny (model X.prog X.w) X.A (execs sts X.env) (SP X pins D) X.xe s
section
variable {X : Cx} {e : Expr} {es : List Expr} {st : Stmt} {sts : List Stmt} {σ : L2.St} {H : Hp}
theorem pe_w : PE X e (WE X e) := ⟨fun pins s _ _ _ I h => h pins s I⟩
theorem pt_w : PT X e (WT X e) := ⟨fun pins s _ _ _ I h => h pins s I⟩
theorem pw_w : PW X e (WW X e) := ⟨fun whole pins s _ _ _ I h => h whole pins s I⟩
theorem pa_w : PA X es (WA X es) := ⟨fun pos pins s _ _ _ I h => h pos pins s I⟩
theorem ps_w : PS X st (WS X st) := ⟨fun pins s _ _ _ I h => h pins s I⟩
theorem pss_w : PSs X sts (WSs X sts) := ⟨fun pins s _ _ _ I h => h pins s I⟩
theorem we {t : TE} {Q : VK} (h : PE X e t) (q : t σ H Q) : WE X e σ H Q := fun pins s I => h.run pins s σ H Q I q
theorem wt {t : TT} {Q : Bool → Hp → Prop} (h : PT X e t) (q : t σ H Q) : WT X e σ H Q := fun pins s I => h.run pins s σ H Q I q
theorem ww {t : TT} {Q : Bool → Hp → Prop} (h : PW X e t) (q : t σ H Q) : WW X e σ H Q := fun whole pins s I => h.run whole pins s σ H Q I q
theorem wa {t : TA} {Q : List V → Hp → Prop} (h : PA X es t) (q : t σ H Q) : WA X es σ H Q := fun pos pins s I => h.run pos pins s σ H Q I q
theorem ws {t : TS} {E : Ends} (h : PS X st t) (q : t E σ H) : WS X st E σ H := fun pins s I => h.run pins s σ H E I q
theorem wss {t : TS} {E : Ends} (h : PSs X sts t) (q : t E σ H) : WSs X sts E σ H := fun pins s I => h.run pins s σ H E I q
end

/-! ### worth -/
/-- e is worth d where the slots hold G -/
def EvD (X : Cx) (e : Expr) (G : Gam) (d : D) : Prop := ∀ (H0 S H : Hp) (σ : L2.St), Hol X.K H0 S H σ G → Ex S H → ∀ Q : VK, (∀ v S' H', Ext S H S' H' → Dp X.K S' v d → Q v H') → WE X e σ H Q
def EvT (X : Cx) (e : Expr) (G : Gam) (b : Bool) : Prop := ∀ (H0 S H : Hp) (σ : L2.St), Hol X.K H0 S H σ G → Ex S H → ∀ Q : Bool → Hp → Prop, (∀ S' H', Ext S H S' H' → Q b H') → WT X e σ H Q
def EvW (X : Cx) (e : Expr) (G : Gam) (b : Bool) : Prop := ∀ (H0 S H : Hp) (σ : L2.St), Hol X.K H0 S H σ G → Ex S H → ∀ Q : Bool → Hp → Prop, (∀ S' H', Ext S H S' H' → Q b H') → WW X e σ H Q
def EvA (X : Cx) (es : List Expr) (G : Gam) (ds : List D) : Prop := ∀ (H0 S H : Hp) (σ : L2.St), Hol X.K H0 S H σ G → Ex S H → ∀ Q : List V → Hp → Prop, (∀ vs S' H', Ext S H S' H' → DpAll X.K S' vs ds → Q vs H') → WA X es σ H Q
/-- e makes a new list -/
def EvN (X : Cx) (e : Expr) (G : Gam) (ds : List D) : Prop := ∀ (H0 S H : Hp) (σ : L2.St), Hol X.K H0 S H σ G → Ex S H → ∀ Q : VK,
  (∀ p vs S' H', Ext S H S' H' → H p = none → S' p = none → H' p = some (.lst vs) → DpAll X.K S' vs ds → Q (.ref p) H') → WE X e σ H Q

section
variable {X : Cx} {pins : List (Addr × Obj)} {σ : L2.St} {H : Hp} {s : Shared} {xs : List V} {its : List Value}
/-- the object of a new tuple -/
abbrev tzO (its : List Value) : Obj := { cls := .type "tuple", data := .seq its.toArray }
theorem tz_laid (I : Inv X pins σ H s) (r : Vals xs its) (z : xs.length ≤ sizeLine) :
    Inv X pins σ (upd H s.heap.objs.size (.frz (tzO its) (.tup xs))) { s with heap := s.heap.push (tzO its) } :=
  I.laid (t' := s.toks) (fun _ _ q => Heap.get?_push_of_some _ q) (Nat.le_refl _) ⟨Heap.get?_push_size _ rfl, z, its, r, _, Heap.get?_push_size _ rfl, rfl, _, rfl⟩
def tTupZ (t : TA) : TE := fun σ H Q => t σ H fun xs H1 => xs.length ≤ sizeLine ∧ ∀ (p : Addr) (o : Obj), H1 p = none → o.cls = .type "tuple" → o.dict = none → Q (.ref p) (upd H1 p (.frz o (.tup xs)))
theorem pe_tupZ {es : List Expr} {t : TA} {x1} {pos : Pos} (h : PA X es t) : PE X (.Tuple es x1 pos) (tTupZ t) :=
  ⟨fun pins s σ H Q I hq => wpAny_Tuple_spliced (thn (h.run pos pins s σ H _ I hq) fun us s1 ⟨ys, H1, I1, r, z, q⟩ =>
    ⟨by rw [← r.length]; exact z, .ref s1.heap.objs.size, _, tz_laid I1 r z, rfl, q _ _ (I1.hok.fresh (Nat.le_refl _)) rfl rfl⟩)⟩
end
section
variable {X : Cx} {e a b c : Expr} {es : List Expr} {G : Gam} {d da db : D} {ds : List D} {pos : Pos} {i j : Int} {x : Str}
theorem EvD.is {d' : D} (h : EvD X e G d) (q : d = d') : EvD X e G d' := q ▸ h
theorem EvT.is {b b' : Bool} (h : EvT X e G b) (q : b = b') : EvT X e G b' := q ▸ h
theorem EvN.im (h : EvN X e G ds) : EvD X e G (.list ds) := fun H0 S H σ o i Q q => h H0 S H σ o i Q fun p vs S' H' x h0 hs hp hd =>
  q _ _ _ (x.keep h0 hs hp) (.lst (SqL.of upd_same) (((Ex.refl S').new hs).dpAll hd))
theorem ev_var (n : Nat) (hN : X.N[n]? = some x := by rfl) (hG : G[n]? = some (.im d) := by rfl) (hv : Vis X.env.scope x := by first | exact Or.inl rfl | exact Or.inr (Or.inl rfl) | exact Or.inr (Or.inr rfl)) (hd : (x == ("__debug__" : Str)) = false := by decide)
    (hcd : (x == ("__classdict__" : Str)) = false := by decide) : EvD X (.Name x pos) G d := fun H0 S H σ o i Q q => by
  obtain ⟨v, h1, h2⟩ := o.im n d hG
  exact we (pe_var (i := n) hN hv hd hcd) ⟨v, h1, q v S H (Ext.refl i) h2⟩
theorem ev_int {k : Nat} : EvD X (.Constant (.int i) k pos) G (.int i) := fun H0 S H σ o e Q q => we pe_int (q _ S H (Ext.refl e) (.int i))
theorem ev_bl {k : Nat} {b : Bool} : EvD X (.Constant (.bool b) k pos) G (.bool b) := fun H0 S H σ o e Q q => we pe_bl (q _ S H (Ext.refl e) (.bl b))
theorem ev_non {k : Nat} : EvD X (.Constant .none k pos) G .none := fun H0 S H σ o e Q q => we pe_non (q _ S H (Ext.refl e) .non)
theorem ev_str {k : Nat} : EvD X (.Constant (.str x) k pos) G (.str x) := fun H0 S H σ o e Q q => we pe_str (q _ S H (Ext.refl e) (.str x))

/-- an operation on two values -/
def RD (K : Fg) (r : R2) (da db d : D) : Prop := ∀ (S H : Hp) (x y : V), Ex S H → Dp K S x da → Dp K S y db → ∀ Q : VK, (∀ v S' H', Ext S H S' H' → Dp K S' v d → Q v H') → r x y H Q
theorem ev_op2 {r : R2} (ht : PE X e (tOp r (WE X a) (WE X b))) (ha : EvD X a G da) (hb : EvD X b G db) (hr : RD X.K r da db d) : EvD X e G d := fun H0 S H σ o i Q q =>
  we ht (ha H0 S H σ o i _ fun x S1 H1 x1 d1 => hb H0 S1 H1 σ (o.ext x1) x1.i _ fun y S2 H2 x2 d2 => hr S2 H2 x y x2.i (x2.s.dp d1) d2 Q fun v S3 H3 x3 d3 => q v S3 H3 ((x1.trans x2).trans x3) d3)
theorem rd_I0 {f : Int → Int → V} {K : Fg} (h : ∀ S : Hp, Dp K S (f i j) d) : RD K (rI0 f) (.int i) (.int j) d := fun S H x y e h1 h2 Q q => by
  cases h1
  cases h2
  exact ⟨i, j, rfl, rfl, q _ S H (Ext.refl e) (h S)⟩
theorem rd_I {C : Int → Int → Prop} {f : Int → Int → V} {K : Fg} (hc : C i j) (h : ∀ S : Hp, Dp K S (f i j) d) : RD K (rI C f) (.int i) (.int j) d := fun S H x y e h1 h2 Q q => by
  cases h1
  cases h2
  exact ⟨i, j, rfl, rfl, hc, q _ S H (Ext.refl e) (h S)⟩
theorem ev_add (ha : EvD X a G (.int i)) (hb : EvD X b G (.int j)) : EvD X (.BinOp a .Add b pos) G (.int (i + j)) := ev_op2 (pe_op op_add pe_w pe_w) ha hb (rd_I0 fun _ => .int _)
theorem ev_sub (ha : EvD X a G (.int i)) (hb : EvD X b G (.int j)) : EvD X (.BinOp a .Sub b pos) G (.int (i - j)) := ev_op2 (pe_op op_sub pe_w pe_w) ha hb (rd_I0 fun _ => .int _)
/-- a product: of less than a million bits -/
def MulOk (i j : Int) : Prop := CMul i j ∨ CMulW i j
theorem op_mulD : OpR X (binaryOp .Mult) (rI MulOk fun i j => .int (i * j)) := opI fun _ _ _ _ _ _ _ hc q => by
  rcases hc with hc | hc
  · exact mul_int q hc.ok
  · exact mul_int q hc.ok
theorem ev_mul (ha : EvD X a G (.int i)) (hb : EvD X b G (.int j)) (h : MulOk i j) : EvD X (.BinOp a .Mult b pos) G (.int (i * j)) := ev_op2 (pe_op op_mulD pe_w pe_w) ha hb (rd_I h fun _ => .int _)
theorem ev_fdiv (ha : EvD X a G (.int i)) (hb : EvD X b G (.int j)) (h : CDivW i j) : EvD X (.BinOp a .FloorDiv b pos) G (.int (i / j)) := ev_op2 (pe_op op_fdivW pe_w pe_w) ha hb (rd_I h fun _ => .int _)
theorem ev_mod (ha : EvD X a G (.int i)) (hb : EvD X b G (.int j)) (h : 0 < j) : EvD X (.BinOp a .Mod b pos) G (.int (i % j)) := ev_op2 (pe_op op_mod pe_w pe_w) ha hb (rd_I (C := fun _ j => 0 < j) h fun _ => .int _)
theorem ev_pow (ha : EvD X a G (.int i)) (hb : EvD X b G (.int j)) (h : CPow i j) : EvD X (.BinOp a .Pow b pos) G (.int (i ^ j.toNat)) := ev_op2 (pe_op op_pow pe_w pe_w) ha hb (rd_I h fun _ => .int _)
theorem ev_neg (ha : EvD X a G (.int i)) : EvD X (.UnaryOp .USub a pos) G (.int (-i)) := fun H0 S H σ o e Q q =>
  we (pe_un un_neg pe_w) (ha H0 S H σ o e _ fun v S1 H1 x1 d1 => by
    cases d1
    exact ⟨i, rfl, q _ _ _ x1 (.int _)⟩)
/-! tests -/
theorem et_op2 {r : R2} {bb : Bool} (ht : PT X e (tTest (tOp r (WE X a) (WE X b)))) (ha : EvD X a G da) (hb : EvD X b G db) (hr : RD X.K r da db (.bool bb)) : EvT X e G bb := fun H0 S H σ o i Q q =>
  wt ht (ha H0 S H σ o i _ fun x S1 H1 x1 d1 => hb H0 S1 H1 σ (o.ext x1) x1.i _ fun y S2 H2 x2 d2 => hr S2 H2 x y x2.i (x2.s.dp d1) d2 _ fun v S3 H3 x3 d3 => by
    cases d3
    exact ⟨bb, rfl, q S3 H3 ((x1.trans x2).trans x3)⟩)
theorem et_lt (ha : EvD X a G (.int i)) (hb : EvD X b G (.int j)) : EvT X (.Compare a [.Lt] [b] pos) G (decide (i < j)) := et_op2 (pt_cmpR op_lt pe_w pe_w (nomark _)) ha hb (rd_I0 fun _ => .bl _)
theorem et_le (ha : EvD X a G (.int i)) (hb : EvD X b G (.int j)) : EvT X (.Compare a [.LtE] [b] pos) G (decide (i ≤ j)) := et_op2 (pt_cmpR op_le pe_w pe_w (nomark _)) ha hb (rd_I0 fun _ => .bl _)
theorem et_gt (ha : EvD X a G (.int i)) (hb : EvD X b G (.int j)) : EvT X (.Compare a [.Gt] [b] pos) G (decide (j < i)) := et_op2 (pt_cmpR op_gt pe_w pe_w (nomark _)) ha hb (rd_I0 fun _ => .bl _)
theorem et_ge (ha : EvD X a G (.int i)) (hb : EvD X b G (.int j)) : EvT X (.Compare a [.GtE] [b] pos) G (decide (j ≤ i)) := et_op2 (pt_cmpR op_ge pe_w pe_w (nomark _)) ha hb (rd_I0 fun _ => .bl _)
theorem rd_eqD {K : Fg} (h1 : SeqAt.shaped da = true) (h2 : SeqAt.shaped db = true) : RD K (rEqD K) da db (.bool (PyData.eqv da db)) := fun S H x y e d1 d2 Q q =>
  ⟨da, db, (e.dp d1).old, (e.dp d2).old, h1, h2, q _ S H (Ext.refl e) (.bl _)⟩
theorem rd_neD {K : Fg} (h1 : SeqAt.shaped da = true) (h2 : SeqAt.shaped db = true) : RD K (rNeD K) da db (.bool (!PyData.eqv da db)) := fun S H x y e d1 d2 Q q =>
  ⟨da, db, (e.dp d1).old, (e.dp d2).old, h1, h2, q _ S H (Ext.refl e) (.bl _)⟩
theorem et_eq (hu : X.A.units + 64 < cLine) (ha : EvD X a G da) (hb : EvD X b G db) (h1 : SeqAt.shaped da = true) (h2 : SeqAt.shaped db = true) : EvT X (.Compare a [.Eq] [b] pos) G (PyData.eqv da db) :=
  et_op2 (pt_cmpR (op_eqD hu) pe_w pe_w (nomark _)) ha hb (rd_eqD h1 h2)
theorem et_ne (hu : X.A.units + 64 < cLine) (ha : EvD X a G da) (hb : EvD X b G db) (h1 : SeqAt.shaped da = true) (h2 : SeqAt.shaped db = true) : EvT X (.Compare a [.NotEq] [b] pos) G (!PyData.eqv da db) :=
  et_op2 (pt_cmpR (op_neD hu) pe_w pe_w (nomark _)) ha hb (rd_neD h1 h2)
theorem ev_eq (hu : X.A.units + 64 < cLine) (ha : EvD X a G da) (hb : EvD X b G db) (h1 : SeqAt.shaped da = true) (h2 : SeqAt.shaped db = true) : EvD X (.Compare a [.Eq] [b] pos) G (.bool (PyData.eqv da db)) :=
  ev_op2 (pe_cmpR (op_eqD hu) pe_w pe_w (nomark _)) ha hb (rd_eqD h1 h2)
/-- ints -/
theorem rd_eqI {K : Fg} : RD K rEq (.int i) (.int j) (.bool (decide (i = j))) := fun S H x y e d1 d2 Q q => by
  cases d1
  cases d2
  refine ⟨rfl, ?_⟩
  have h : decide (V.int i = V.int j) = decide (i = j) := by
    by_cases c : i = j
    · subst c
      rw [decide_eq_true rfl, decide_eq_true rfl]
    · rw [decide_eq_false c, decide_eq_false fun z => c (V.int.inj z)]
  rw [h]
  exact q _ S H (Ext.refl e) (.bl _)
theorem rd_neI {K : Fg} : RD K rNe (.int i) (.int j) (.bool (!decide (i = j))) := fun S H x y e d1 d2 Q q => by
  cases d1
  cases d2
  refine ⟨rfl, ?_⟩
  have h : decide (V.int i = V.int j) = decide (i = j) := by
    by_cases c : i = j
    · subst c
      rw [decide_eq_true rfl, decide_eq_true rfl]
    · rw [decide_eq_false c, decide_eq_false fun z => c (V.int.inj z)]
  rw [h]
  exact q _ S H (Ext.refl e) (.bl _)
theorem et_eqI (ha : EvD X a G (.int i)) (hb : EvD X b G (.int j)) : EvT X (.Compare a [.Eq] [b] pos) G (decide (i = j)) := et_op2 (pt_cmpR op_eq pe_w pe_w (nomark _)) ha hb rd_eqI
theorem et_neI (ha : EvD X a G (.int i)) (hb : EvD X b G (.int j)) : EvT X (.Compare a [.NotEq] [b] pos) G (!decide (i = j)) := et_op2 (pt_cmpR op_ne pe_w pe_w (nomark _)) ha hb rd_neI
theorem ev_eqI (ha : EvD X a G (.int i)) (hb : EvD X b G (.int j)) : EvD X (.Compare a [.Eq] [b] pos) G (.bool (decide (i = j))) := ev_op2 (pe_cmpR op_eq pe_w pe_w (nomark _)) ha hb rd_eqI
theorem ev_lt (ha : EvD X a G (.int i)) (hb : EvD X b G (.int j)) : EvD X (.Compare a [.Lt] [b] pos) G (.bool (decide (i < j))) := ev_op2 (pe_cmpR op_lt pe_w pe_w (nomark _)) ha hb (rd_I0 fun _ => .bl _)
theorem ev_le (ha : EvD X a G (.int i)) (hb : EvD X b G (.int j)) : EvD X (.Compare a [.LtE] [b] pos) G (.bool (decide (i ≤ j))) := ev_op2 (pe_cmpR op_le pe_w pe_w (nomark _)) ha hb (rd_I0 fun _ => .bl _)
theorem et_val {bb : Bool} (h : EvD X e G (.bool bb)) (he : ∀ whole, isTrue e X.env whole = (do let v ← whole; standAt e.pos; holding [v] (truthy v)) := by intro _; rfl) : EvT X e G bb := fun H0 S H σ o i Q q =>
  wt (pt_val pe_w he) (h H0 S H σ o i _ fun v S1 H1 x1 d1 => by
    cases d1
    exact ⟨bb, rfl, q S1 H1 x1⟩)
theorem et_w {bb : Bool} (h : EvW X e G bb) : EvT X e G bb := fun H0 S H σ o i Q q => wt (PW.pt pw_w) (h H0 S H σ o i Q q)
theorem ew_and1 {bb : Bool} (h : EvT X a G bb) : EvW X (.BoolOp .And [a] pos) G bb := fun H0 S H σ o i Q q => ww (pw_and1 pt_w) (h H0 S H σ o i Q q)
theorem ew_or1 {bb : Bool} (h : EvT X a G bb) : EvW X (.BoolOp .Or [a] pos) G bb := fun H0 S H σ o i Q q => ww (pw_or1 pt_w) (h H0 S H σ o i Q q)
theorem ew_and {p q : Bool} (h : EvT X a G p) (k : p = true → EvW X (.BoolOp .And (b :: es) pos) G q) : EvW X (.BoolOp .And (a :: b :: es) pos) G (p && q) := fun H0 S H σ o i Q w =>
  ww (pw_and pt_w pw_w) (h H0 S H σ o i _ fun S1 H1 x1 => by
    cases p with
    | true =>
      rw [if_pos rfl]
      exact k rfl H0 S1 H1 σ (o.ext x1) x1.i Q fun S2 H2 x2 => w S2 H2 (x1.trans x2)
    | false =>
      rw [if_neg Bool.false_ne_true]
      exact w S1 H1 x1)
theorem ew_or {p q : Bool} (h : EvT X a G p) (k : p = false → EvW X (.BoolOp .Or (b :: es) pos) G q) : EvW X (.BoolOp .Or (a :: b :: es) pos) G (p || q) := fun H0 S H σ o i Q w =>
  ww (pw_or pt_w pw_w) (h H0 S H σ o i _ fun S1 H1 x1 => by
    cases p with
    | true =>
      rw [if_pos rfl]
      exact w S1 H1 x1
    | false =>
      rw [if_neg Bool.false_ne_true]
      exact k rfl H0 S1 H1 σ (o.ext x1) x1.i Q fun S2 H2 x2 => w S2 H2 (x1.trans x2))
theorem et_not {p : Bool} (h : EvT X a G p) : EvT X (.UnaryOp .Not a pos) G (!p) := fun H0 S H σ o i Q q => wt (pt_not pt_w) (h H0 S H σ o i _ q)
theorem ev_if {p : Bool} (h : EvT X c G p) (h1 : p = true → EvD X a G d) (h2 : p = false → EvD X b G d) : EvD X (.IfExp c a b pos) G d := fun H0 S H σ o i Q q =>
  we (pe_ifExp pt_w pe_w pe_w) (h H0 S H σ o i _ fun S1 H1 x1 => by
    cases p with
    | true =>
      rw [if_pos rfl]
      exact h1 rfl H0 S1 H1 σ (o.ext x1) x1.i Q fun v S2 H2 x2 => q v S2 H2 (x1.trans x2)
    | false =>
      rw [if_neg Bool.false_ne_true]
      exact h2 rfl H0 S1 H1 σ (o.ext x1) x1.i Q fun v S2 H2 x2 => q v S2 H2 (x1.trans x2))
/-! lists of expressions, displays, items -/
theorem ea_nil : EvA X [] G [] := fun H0 S H σ o i Q q => wa pa_nil (q [] S H (Ext.refl i) .nil)
theorem ea_cons (h : EvD X e G d) (hr : EvA X es G ds) (hs : starEach (e :: es) X.env = (false, eval e X.env) :: starEach es X.env := by first | exact sk_name | exact sk_const | exact sk_sub | exact sk_bin | exact sk_call | exact sk_tup | exact sk_lst | exact sk_cmp | exact sk_lc | exact sk_un | exact sk_bool | exact sk_attr | exact sk_if | rfl) : EvA X (e :: es) G (d :: ds) := fun H0 S H σ o i Q q =>
  wa (pa_cons pe_w pa_w hs) (h H0 S H σ o i _ fun v S1 H1 x1 d1 => hr H0 S1 H1 σ (o.ext x1) x1.i _ fun vs S2 H2 x2 d2 => q _ S2 H2 (x1.trans x2) (.cons (x2.s.dp d1) d2))
theorem ev_tup {x1} (h : EvA X es G ds) (hl : ds.length ≤ sizeLine := by exact Nat.le_of_ble_eq_true rfl) : EvD X (.Tuple es x1 pos) G (.tuple ds) := fun H0 S H σ o i Q q =>
  we (pe_tupZ pa_w) (h H0 S H σ o i _ fun vs S1 H1 x1 d1 => ⟨by rw [DpAll.len d1]; exact hl, fun p ob hp z1 z2 => q _ _ _ (x1.add hp) (.tup (SqZ.of upd_same z1 z2) (((Ex.refl S1).new (x1.i.none hp)).dpAll d1))⟩)
theorem en_lst (h : EvA X es G ds) (hl : ds.length ≤ sizeLine := by exact Nat.le_of_ble_eq_true rfl) : EvN X (.List es pos) G ds := fun H0 S H σ o i Q q =>
  we (pe_lst pa_w) (h H0 S H σ o i _ fun vs S1 H1 x1 d1 => ⟨by rw [DpAll.len d1]; exact hl, fun p hp => q p vs _ _ (x1.own (x1.h.none hp) (x1.i.none hp)) (x1.h.none hp) (x1.i.none hp) upd_same d1⟩)
theorem atI_len {α β : Type} {xs : List α} {ys : List β} (h : xs.length = ys.length) {k : Int} {y : β} (q : atI ys k = some y) : ∃ n : Nat, ixN xs.length k = some n ∧ ys[n]? = some y := by
  unfold atI at q
  rw [← h] at q
  cases c : ixN xs.length k with
  | none =>
    rw [c] at q
    cases q
  | some n =>
    rw [c] at q
    exact ⟨n, rfl, q⟩
theorem DpAll.at {K : Fg} {S : Hp} {vs : List V} {ds : List D} {k : Int} {d : D} (h : DpAll K S vs ds) (q : atI ds k = some d) : ∃ v, atI vs k = some v ∧ Dp K S v d := by
  obtain ⟨n, h1, h2⟩ := atI_len (xs := vs) (DpAll.len h) q
  obtain ⟨v, h3, h4⟩ := DpAll.get h h2
  refine ⟨v, ?_, h4⟩
  unfold atI
  rw [h1]
  exact h3
theorem ev_ixT {k : Int} (ha : EvD X a G (.tuple ds)) (hb : EvD X b G (.int k)) (h : atI ds k = some d) (hs : PlainIx b := by exact fun _ _ => rfl) : EvD X (.Subscript a b pos) G d :=
  ev_op2 (pe_ix ix_tup pe_w pe_w hs) ha hb fun S H x y e d1 d2 Q q => by
    cases d1 with
    | tup hq ha =>
      cases d2
      obtain ⟨v, h1, h2⟩ := DpAll.at ha h
      exact ⟨_, _, k, v, rfl, rfl, e.sqT hq.t, h1, q v S H (Ext.refl e) h2⟩
theorem ev_ixL {k : Int} (ha : EvD X a G (.list ds)) (hb : EvD X b G (.int k)) (h : atI ds k = some d) (hs : PlainIx b := by exact fun _ _ => rfl) : EvD X (.Subscript a b pos) G d :=
  ev_op2 (pe_ix ix_list pe_w pe_w hs) ha hb fun S H x y e d1 d2 Q q => by
    cases d1 with
    | lst hq ha =>
      cases d2
      obtain ⟨v, h1, h2⟩ := DpAll.at ha h
      exact ⟨_, _, k, v, rfl, rfl, e.sqL hq, h1, q v S H (Ext.refl e) h2⟩
/-! built-in calls -/
def CD (K : Fg) (r : List V → Hp → VK → Prop) (ds : List D) (d : D) : Prop := ∀ (S H : Hp) (vs : List V), Ex S H → DpAll K S vs ds → ∀ Q : VK, (∀ v S' H', Ext S H S' H' → Dp K S' v d → Q v H') → r vs H Q
theorem ev_cb {r : List V → Hp → VK → Prop} (ht : PE X e (tCB r (WA X es))) (ha : EvA X es G ds) (hr : CD X.K r ds d) : EvD X e G d := fun H0 S H σ o i Q q =>
  we ht (ha H0 S H σ o i _ fun vs S1 H1 x1 d1 => hr S1 H1 vs x1.i d1 Q fun v S2 H2 x2 d2 => q v S2 H2 (x1.trans x2) d2)
end
end DL

namespace DL
open PySem PySem.Spec PyProof.Rows L2

/-! ### errors, outcomes, promises -/
structure Exc where
  cls : Value
  fs : List (Str × D)
/-- the error's own dict, where it has one -/
def XDp (K : Fg) (S : Hp) (a : Option Addr) (fs : List (Str × D)) : Prop :=
  match a with
  | none => fs = []
  | some p => ∃ fv : List (Str × V), S p = some (.xd fv) ∧ fv.map (·.1) = fs.map (·.1) ∧ DpAll K S (fv.map (·.2)) (fs.map (·.2))
inductive Out where
  | val (d : D)
  | exc (x : Exc)
def spD (K : Fg) (R : List D → Out → Prop) : Sp := fun vs H Q E => ∃ (S : Hp) (ds : List D) (o : Out), Ex S H ∧ DpAll K S vs ds ∧ R ds o ∧
  match o with
  | .val d => ∀ v S' H', Ext S H S' H' → Dp K S' v d → Q v H'
  | .exc x => ∀ a S' H', Ext S H S' H' → XDp K S' a x.fs → E x.cls a H'

/-! ### what a statement does -/
structure Fin' where
  nx : Gam → Prop
  rt : D → Prop
  bk : Gam → Prop := fun _ => False
  ct : Gam → Prop := fun _ => False
  ex : Exc → Gam → Prop := fun _ _ => False
abbrev Fin := Fin'
structure Met (X : Cx) (W : WX) (S0 H0 : Hp) (F : DL.Fin) (E : Ends) : Prop where
  nx : ∀ (σ : L2.St) (S H : Hp) (G : Gam), Ext S0 H0 S H → Hol X.K H0 S H σ G → F.nx G → E.nx σ H
  rt : ∀ (v : V) (S H : Hp) (d : D), Ext S0 H0 S H → Dp X.K S v d → F.rt d → E.rt v H
  bk : ∀ (σ : L2.St) (S H : Hp) (G : Gam), Ext S0 H0 S H → Hol X.K H0 S H σ G → F.bk G → E.bk σ H
  ct : ∀ (σ : L2.St) (S H : Hp) (G : Gam), Ext S0 H0 S H → Hol X.K H0 S H σ G → F.ct G → E.ct σ H
  ex : ∀ (x : Exc) (σ : L2.St) (S H : Hp) (G : Gam) (a : Option Addr), Ext S0 H0 S H → Hol X.K H0 S H σ G → XDp X.K S a x.fs → F.ex x G → W x.cls a σ H
def GS (X : Cx) (W : WX) (st : Stmt) (F : DL.Fin) (G : Gam) : Prop := ∀ (S0 H0 S H : Hp) (σ : L2.St) (E : Ends), Ext S0 H0 S H → Hol X.K H0 S H σ G → Met X W S0 H0 F E → WS X st E σ H
def GSs (X : Cx) (W : WX) (sts : List Stmt) (F : DL.Fin) (G : Gam) : Prop := ∀ (S0 H0 S H : Hp) (σ : L2.St) (E : Ends), Ext S0 H0 S H → Hol X.K H0 S H σ G → Met X W S0 H0 F E → WSs X sts E σ H

section
variable {X : Cx} {W : WX} {F F' : DL.Fin} {G : Gam} {st : Stmt} {sts body els : List Stmt} {e a b c : Expr} {es : List Expr} {d da db : D} {ds : List D} {pos pos' : Pos} {x : Str}
theorem gs_nil (h : F.nx G) : GSs X W [] F G := fun S0 H0 S H σ E x o m => wss pss_nil (m.nx σ S H G x o h)
theorem gs_cons (h : GS X W st { F with nx := fun G' => GSs X W sts F G' } G) : GSs X W (st :: sts) F G := fun S0 H0 S H σ E x o m =>
  wss (pss_cons ps_w pss_w) (h S0 H0 S H σ { E with nx := WSs X sts E } x o ⟨fun σ' S' H' G' x' o' k => k S0 H0 S' H' σ' E x' o' m, m.rt, m.bk, m.ct, m.ex⟩)
theorem gs_imp (h : GS X W st F G) (n : ∀ G', F.nx G' → F'.nx G') (r : ∀ d, F.rt d → F'.rt d := by exact fun _ h => h) (bb : ∀ G', F.bk G' → F'.bk G' := by exact fun _ h => h) (cc : ∀ G', F.ct G' → F'.ct G' := by exact fun _ h => h) (xx : ∀ y G', F.ex y G' → F'.ex y G' := by exact fun _ _ h => h) : GS X W st F' G :=
  fun S0 H0 S H σ E x o m => h S0 H0 S H σ E x o ⟨fun σ' S' H' G' x' o' k => m.nx σ' S' H' G' x' o' (n _ k), fun v S' H' d x' o' k => m.rt v S' H' d x' o' (r _ k), fun σ' S' H' G' x' o' k => m.bk σ' S' H' G' x' o' (bb _ k), fun σ' S' H' G' x' o' k => m.ct σ' S' H' G' x' o' (cc _ k),
    fun y σ' S' H' G' a x' o' q k => m.ex y σ' S' H' G' a x' o' q (xx _ _ k)⟩
theorem gss_imp (h : GSs X W sts F G) (n : ∀ G', F.nx G' → F'.nx G') (r : ∀ d, F.rt d → F'.rt d := by exact fun _ h => h) (bb : ∀ G', F.bk G' → F'.bk G' := by exact fun _ h => h) (cc : ∀ G', F.ct G' → F'.ct G' := by exact fun _ h => h) (xx : ∀ y G', F.ex y G' → F'.ex y G' := by exact fun _ _ h => h) : GSs X W sts F' G :=
  fun S0 H0 S H σ E x o m => h S0 H0 S H σ E x o ⟨fun σ' S' H' G' x' o' k => m.nx σ' S' H' G' x' o' (n _ k), fun v S' H' d x' o' k => m.rt v S' H' d x' o' (r _ k), fun σ' S' H' G' x' o' k => m.bk σ' S' H' G' x' o' (bb _ k), fun σ' S' H' G' x' o' k => m.ct σ' S' H' G' x' o' (cc _ k),
    fun y σ' S' H' G' a x' o' q k => m.ex y σ' S' H' G' a x' o' q (xx _ _ k)⟩
/-- a statement, then the rest from M -/
theorem gs_cut (M : Gam → Prop) (h : GS X W st { F with nx := M } G) (k : ∀ G', M G' → GSs X W sts F G') : GSs X W (st :: sts) F G := gs_cons (gs_imp h k)
/-- what is known is made ready ahead of a statement -/
theorem gs_keep {i : Nat} (hi : G[i]? = some (.own ds) := by rfl) (h : GSs X W sts F (G.set i (.im (.list ds)))) : GSs X W sts F G := fun S0 H0 S H σ E x o m => by
  obtain ⟨p, vs, h0, hs, hp, o'⟩ := o.keep hi
  exact h S0 H0 (upd S p (.lst vs)) H σ E (x.keep h0 hs hp) o' m
theorem gs_drop (i : Nat) (h : GSs X W sts F (G.set i .no)) : GSs X W sts F G := fun S0 H0 S H σ E x o m => h S0 H0 S H σ E x o.drop m
/-- x = e -/
theorem gs_set (i : Nat) (he : EvD X e G d) (k : F.nx (G.set i (.im d))) (hi : X.N[i]? = some x := by rfl) (hN : X.N.Nodup := by assumption) (hx : Loc X.env.scope x := by first | exact Or.inl rfl | exact Or.inr rfl)
    (hs : swapsWith e (some (.Name x pos')) pos.line X.env = pure false := by rfl) (hf : X.fn x = true ∨ X.env.scope.names.lookup x = some .local := by first | exact .inl rfl | exact .inr rfl | assumption) : GS X W (.Assign [.Name x pos'] e pos) F G := fun S0 H0 S H σ E x o m =>
  ws (ps_set (i := i) hN hi hx pe_w hs hf) (he H0 S H σ o x.i _ fun v S1 H1 x1 d1 => m.nx _ S1 H1 _ (x.trans x1) ((o.ext x1).set_im d1) k)
/-- x = a new list -/
theorem gs_setN (i : Nat) (he : EvN X e G ds) (k : F.nx (G.set i (.own ds))) (hi : X.N[i]? = some x := by rfl) (hN : X.N.Nodup := by assumption) (hx : Loc X.env.scope x := by first | exact Or.inl rfl | exact Or.inr rfl)
    (hs : swapsWith e (some (.Name x pos')) pos.line X.env = pure false := by rfl) (hf : X.fn x = true ∨ X.env.scope.names.lookup x = some .local := by first | exact .inl rfl | exact .inr rfl | assumption) : GS X W (.Assign [.Name x pos'] e pos) F G := fun S0 H0 S H σ E x o m =>
  ws (ps_set (i := i) hN hi hx pe_w hs hf) (he H0 S H σ o x.i _ fun p vs S1 H1 x1 h0 hs1 hp d1 => m.nx _ S1 H1 _ (x.trans x1) ((o.ext x1).set_own (x.h.none h0) hs1 hp d1 fun j es hj hg hv => by
    obtain ⟨q, ws', a1, a2, a3, a4, a5⟩ := o.own j es hg
    rw [a1] at hv
    have z : q = p := V.ref.inj (Option.some.inj (Option.some.inj hv))
    subst z
    rw [a4] at h0
    cases h0) k)
/-- x, y = a, b -/
theorem gs_par {y : Str} {px py pt : Pos} {kt k2 pt2} (i j : Nat) (ha : EvA X [a, b] G [da, db]) (k : F.nx ((G.set i (.im da)).set j (.im db))) (hi : X.N[i]? = some x := by rfl) (hj : X.N[j]? = some y := by rfl) (hij : i ≠ j := by decide) (hN : X.N.Nodup := by assumption) (hc : X.calm = true := by rfl)
    (hx : X.env.scope.names.lookup x = some .local := by rfl) (hy : X.env.scope.names.lookup y = some .local := by rfl)
    (hw : swappedStores [.Tuple [.Name x px, .Name y py] kt pt] (.Tuple [a, b] k2 pt2) X.env = pure (some [x, y]) := by rfl)
    (hs : swapsWithSole [.Tuple [.Name x px, .Name y py] kt pt] (.Tuple [a, b] k2 pt2) pos.line X.env = pure false := by rfl) :
    GS X W (.Assign [.Tuple [.Name x px, .Name y py] kt pt] (.Tuple [a, b] k2 pt2) pos) F G := fun S0 H0 S H σ E x o m =>
  ws (ps_par (i := i) (j := j) hc hN hi hj hij hx hy pa_w hw hs) (ha H0 S H σ o x.i _ fun vs S1 H1 x1 d1 => by
    cases d1 with
    | cons d1 d2 =>
      cases d2 with
      | cons d2 d3 =>
        cases d3
        exact ⟨_, _, rfl, m.nx _ S1 H1 _ (x.trans x1) (((o.ext x1).set_im d1).set_im d2) k⟩)
theorem gs_if {p : Bool} (hc : EvT X c G p) (h1 : p = true → GSs X W body F G) (h2 : p = false → GSs X W els F G) : GS X W (.If c body els pos) F G := fun S0 H0 S H σ E x o m =>
  ws (ps_if pt_w pss_w pss_w) (hc H0 S H σ o x.i _ fun S1 H1 x1 => by
    cases p with
    | true =>
      rw [if_pos rfl]
      exact h1 rfl S0 H0 S1 H1 σ E (x.trans x1) (o.ext x1) m
    | false =>
      rw [if_neg Bool.false_ne_true]
      exact h2 rfl S0 H0 S1 H1 σ E (x.trans x1) (o.ext x1) m)
theorem gs_ret (he : EvD X e G d) (k : F.rt d) : GS X W (.Return (some e) pos) F G := fun S0 H0 S H σ E x o m =>
  ws (ps_ret pe_w) (he H0 S H σ o x.i _ fun v S1 H1 x1 d1 => m.rt v S1 H1 d (x.trans x1) d1 k)
theorem gs_retN (k : F.rt .none) : GS X W (.Return none pos) F G := fun S0 H0 S H σ E x o m => ws ps_retN (m.rt .non S H .none x .non k)
theorem gs_pass (k : F.nx G) : GS X W (.Pass pos) F G := fun S0 H0 S H σ E x o m => ws ps_pass (m.nx σ S H G x o k)
theorem gs_doc {j : Nat} (k : F.nx G) : GS X W (.Expr (.Constant (.str x) j pos) pos') F G := fun S0 H0 S H σ E x o m => ws ps_doc (m.nx σ S H G x o k)
theorem gs_break (k : F.bk G) : GS X W (.Break pos) F G := fun S0 H0 S H σ E x o m => ws ps_break (m.bk σ S H G x o k)
theorem gs_cont (k : F.ct G) : GS X W (.Continue pos) F G := fun S0 H0 S H σ E x o m => ws ps_continue (m.ct σ S H G x o k)
theorem gs_expr (he : EvD X e G d) (k : F.nx G) (hs : swapsWith e none pos.line X.env = pure false := by rfl) : GS X W (.Expr e pos) F G := fun S0 H0 S H σ E x o m =>
  ws (ps_expr pe_w hs) (he H0 S H σ o x.i _ fun v S1 H1 x1 d1 => m.nx σ S1 H1 G (x.trans x1) (o.ext x1) k)
end
end DL

namespace DL
open PySem PySem.Spec PyProof.Rows L2

/-! ### defs and their calls -/
structure DefOk (P : Program) (w : World) (K : Fg) (mg : Str → Option Value) (base : Heap) (CX : CXT) (k : Nat) (x : Str) (R : List D → Out → Prop) : Prop where
  ex : ∃ (f : Addr) (fd : FuncData) (ps : List Str), FnOk P w K mg base CX k f fd ps (spD K R) ∧ mg x = some (.ref f) ∧ PySem.W.keepIn K (.ref f) = true ∧ Binds K fd ps []
theorem DefOk.mono {P : Program} {w : World} {K : Fg} {mg : Str → Option Value} {base : Heap} {CX : CXT} {j k : Nat} {x : Str} {R : List D → Out → Prop} (F : DefOk P w K mg base CX j x R) (h : j ≤ k) : DefOk P w K mg base CX k x R :=
  let ⟨f, fd, ps, a, b⟩ := F.ex; ⟨f, fd, ps, a.mono h, b⟩
section
variable {X : Cx} {W : WX} {F : DL.Fin} {G : Gam} {e a b c : Expr} {es : List Expr} {d da db : D} {ds : List D} {pos pos' p : Pos} {x : Str} {k j : Nat} {R : List D → Out → Prop} {CX : CXT} {y : Exc}
theorem ev_call (Fn : DefOk X.prog X.w X.K X.mg X.base CX j x R) (hr : Room k X.A) (ha : EvA X (e :: es) G ds) (h : R ds (.val d)) (hj : j ≤ k := by decide) (hx : Passes CX X E0 := by first | exact pass0 | exact passL) (hg : Gl X x := by rfl)
    (hdb : (x == ("__debug__" : Str)) = false := by decide) (he : starEach (e :: es) X.env = (false, eval e X.env) :: starEach es X.env := by first | exact sk_name | exact sk_const | exact sk_sub | exact sk_bin | exact sk_call | exact sk_tup | exact sk_lst | exact sk_cmp | exact sk_lc | exact sk_un | exact sk_bool | exact sk_attr | exact sk_if | rfl) (hpl : (backTo pos (starEach es X.env)).any (·.1) = false := by rfl) :
    EvD X (.Call (.Name x p) (e :: es) [] pos) G d := fun H0 S H σ o i Q q => by
  obtain ⟨f, fd, ps, F, hm, hk, hb⟩ := Fn.ex
  refine we (pe_call F (hr.mono hj) hg hm hk hb .nil hx pa_w hdb he hpl) (ha H0 S H σ o i _ fun vs S1 H1 x1 d1 => ?_)
  rw [List.append_nil]
  exact ⟨S1, ds, .val d, x1.i, d1, h, fun v S2 H2 x2 d2 => q v S2 H2 (x1.trans x2) d2⟩
/-- e raises y -/
def EvX (X : Cx) (W : WX) (e : Expr) (G : Gam) (y : Exc) : Prop := ∀ (H0 S H : Hp) (σ : L2.St), Hol X.K H0 S H σ G → Ex S H → (∀ a S' H', Ext S H S' H' → XDp X.K S' a y.fs → W y.cls a σ H') → ∀ Q : VK, DL.WE X e σ H Q
theorem ex_call (tk : Takes X W) (Fn : DefOk X.prog X.w X.K X.mg X.base (L2.CX X.prog X.w) j x R) (hr : Room k X.A) (ha : EvA X (e :: es) G ds) (h : R ds (.exc y)) (hj : j ≤ k := by decide) (hg : Gl X x := by rfl)
    (hdb : (x == ("__debug__" : Str)) = false := by decide) (he : starEach (e :: es) X.env = (false, eval e X.env) :: starEach es X.env := by first | exact sk_name | exact sk_const | exact sk_sub | exact sk_bin | exact sk_call | exact sk_tup | exact sk_lst | exact sk_cmp | exact sk_lc | exact sk_un | exact sk_bool | exact sk_attr | exact sk_if | rfl) (hpl : (backTo pos (starEach es X.env)).any (·.1) = false := by rfl) :
    EvX X W (.Call (.Name x p) (e :: es) [] pos) G y := fun H0 S H σ o i w Q => by
  obtain ⟨f, fd, ps, F, hm, hk, hb⟩ := Fn.ex
  refine we (pe_callS F (hr.mono hj) hg hm hk hb (fun σ => passAt tk σ) pa_w hdb he hpl) (ha H0 S H σ o i _ fun vs S1 H1 x1 d1 => ?_)
  exact ⟨S1, ds, .exc y, x1.i, d1, h, fun aa S2 H2 x2 d2 => w aa S2 H2 (x1.trans x2) d2⟩
theorem Met.goes {S0 H0 S H : Hp} {σ : L2.St} {E : Ends} (m : Met X W S0 H0 F E) (x : Ext S0 H0 S H) (o : Hol X.K H0 S H σ G) (k : F.ex y G) : ∀ a S' H', Ext S H S' H' → XDp X.K S' a y.fs → W y.cls a σ H' :=
  fun aa S' H' x' q => m.ex y σ S' H' G aa (x.trans x') (o.ext x') q k
theorem gs_retX (he : EvX X W e G y) (k : F.ex y G) : GS X W (.Return (some e) pos) F G := fun S0 H0 S H σ E x o m => ws (ps_ret pe_w) (he H0 S H σ o x.i (m.goes x o k) _)
theorem gs_exprX (he : EvX X W e G y) (k : F.ex y G) (hs : swapsWith e none pos.line X.env = pure false := by rfl) : GS X W (.Expr e pos) F G := fun S0 H0 S H σ E x o m => ws (ps_expr pe_w hs) (he H0 S H σ o x.i (m.goes x o k) _)
theorem gs_setX {n : Str} (i : Nat) (he : EvX X W e G y) (k : F.ex y G) (hi : X.N[i]? = some n := by rfl) (hN : X.N.Nodup := by assumption) (hx : Loc X.env.scope n := by first | exact Or.inl rfl | exact Or.inr rfl)
    (hs : swapsWith e (some (.Name n pos')) pos.line X.env = pure false := by rfl) (hf : X.fn n = true ∨ X.env.scope.names.lookup n = some .local := by first | exact .inl rfl | exact .inr rfl | assumption) : GS X W (.Assign [.Name n pos'] e pos) F G := fun S0 H0 S H σ E x o m =>
  ws (ps_set (i := i) hN hi hx pe_w hs hf) (he H0 S H σ o x.i (m.goes x o k) _)
end

/-! ### an own error, raised and caught -/
section
variable {X : Cx} {W : WX} {F : DL.Fin} {G : Gam} {e : Expr} {x : Str} {C : Addr} {bmB : List Value} {B newId initId : String} {p pos pos' np : Pos} {body suite : List Stmt} {b₀ : Stmt} {c : Value}
theorem pmk_own0 (Fb : ExcBaseFacts B newId initId bmB) (q : PySem.W.excIn X.K C bmB newId = true) (gC : X.mg x = some (.ref C)) (kC : PySem.W.keepIn X.K (.ref C) = true) (r : Raises X (.ref C)) (hg : Gl X x)
    (hdb : (x == ("__debug__" : Str)) = false := by decide) : PMk X (.Call (.Name x p) [] [] pos) (fun σ H Q => Q (.ref C) none H) := by
  intro pins s σ H Q I h
  refine wpAny_Call_Name_kw (ld_glob I hg gC ?_ hdb)
  refine PySem.W.callWith_K0 I.kIn kC ?_
  show wpAny _ _ (call (.ref C) []) _ _ _
  obtain ⟨bm, N, nm, qn, bs, hdct, sn, sub, ab, col, dd, k0, k1, k2, k3, k5, mN, hC, hN, hni, T⟩ := exc_obj I.kIn q
  refine wpAny_call_exc_subT Fb T hC hN hni (fun h' e hm => ?_) (Nat.zero_le _)
  exact mk_of I hm r h (I.hok.gone hm.new)
/-- what stands of an own error class without more -/
structure ErrOk (K : Fg) (mg : Str → Option Value) (x : Str) (C : Addr) (bmB : List Value) (newId : String) : Prop where
  g : mg x = some (.ref C)
  e : PySem.W.excIn K C bmB newId = true
  k : PySem.W.keepIn K (.ref C) = true
  b : PySem.W.subIn K (.ref C) (.type "BaseException") = some true
  t : PySem.W.typeIn K (.ref C) = some (.type "type")
theorem gs_raise0 (tk : Takes X W) (Fb : ExcBaseFacts B newId initId bmB) (T : ErrOk X.K X.mg x C bmB newId) (k : F.ex ⟨.ref C, []⟩ G) (hc : X.calm = true := by rfl) (hg : Gl X x := by rfl) (hdb : (x == ("__debug__" : Str)) = false := by decide) :
    GS X W (.Raise (some (.Call (.Name x p) [] [] pos)) none pos') F G := fun S0 H0 S H σ E y o m =>
  ws (ps_raise hc tk (pmk_own0 Fb T.e T.g T.k (raises_own T.b T.t) hg hdb)) (m.ex ⟨.ref C, []⟩ σ S H G none y o rfl k)
/-- try: body / except x: suite, the suite raises nothing -/
theorem gs_try (tk : Takes X W) (hs : X.stack = X.env :: X.outer) (hf : X.env.frame = some X.env.locals) (hc : Names X x c)
    (hb : ∀ (W' : WX) (pn : List (Addr × Obj)) (xe : Value → Shared → Prop), Takes (X.tr pn xe) W' → PassesOwn (model X.prog X.w) X.A X.env xe →
      GSs (X.tr pn xe) W' body { F with ex := fun y G' => ∃ bb, PySem.W.exmOne X.K y.cls c = some bb ∧ (bb = true → ∀ (a : Addr) (oe : Obj) (d : Option Addr) (pn : List (Addr × Obj)), Zc y.cls d oe → GSs (X.suite a ((a, oe) :: pn)) (fun _ _ _ _ => False) (b₀ :: suite) { F with ex := fun _ _ => False } G') ∧ (bb = false → F.ex y G') } G) :
    GS X W (.Try body [.ExceptHandler (some (.Name x np)) none (b₀ :: suite) pos'] [] [] pos) F G := fun S0 H0 S H σ E z o m => by
  refine ws (ps_try_only (tb := fun W' D σ H => ∀ (pn : List (Addr × Obj)) (xe : Value → Shared → Prop), Takes (X.tr pn xe) W' → PassesOwn (model X.prog X.w) X.A X.env xe → WSs (X.tr pn xe) body D σ H)
    (ts := fun a cls d D σ H => ∀ (oe : Obj) (pn : List (Addr × Obj)), Zc cls d oe → WSs (X.suite a ((a, oe) :: pn)) (b₀ :: suite) D σ H) (Wout := W) hs hf hc tk
    (fun W' pn xe t po => ⟨fun pins s σ H D I h => h pn xe t po pins s I⟩) (fun a oe cls d pn hz _ => ⟨fun pins s σ H D I h => h oe pn hz pins s I⟩)) ?_
  intro pn xe t po
  refine hb _ pn xe t po S0 H0 S H σ E z o ⟨m.nx, m.rt, m.bk, m.ct, ?_⟩
  rintro y σ1 S1 H1 G1 a z1 o1 q1 ⟨bb, h1, h2, h3⟩
  refine ⟨bb, h1, fun hbt ad na oe pn' hz => ?_, fun hbf => m.ex y σ1 S1 H1 G1 a z1 o1 q1 (h3 hbf)⟩
  exact h2 hbt ad oe a pn' hz S0 H0 S1 H1 σ1 E z1 o1 ⟨m.nx, m.rt, m.bk, m.ct, fun _ _ _ _ _ _ _ _ _ f => f.elim⟩
end

/-! ### loops -/
/-- the ground of a loop: all that is stable, and what stood at the entry -/
def bed (S H0 : Hp) : Hp := fun a => match S a with | some o => some o | none => H0 a
theorem bed_none {S H0 : Hp} {a : Addr} (h1 : S a = none) (h2 : H0 a = none) : bed S H0 a = none := by unfold bed; rw [h1]; exact h2
theorem none_bed {S H0 : Hp} {a : Addr} (h : bed S H0 a = none) : S a = none ∧ H0 a = none := by
  unfold bed at h
  cases q : S a with
  | some o => rw [q] at h; cases h
  | none => rw [q] at h; exact ⟨rfl, h⟩
theorem Ext.bed {S0 H0 S H : Hp} (x : Ext S0 H0 S H) : Ext S (bed S H0) S H := ⟨Ex.refl S, fun a o q => by
  unfold DL.bed at q
  cases c : S a with
  | some u =>
    rw [c] at q
    cases q
    exact x.i a _ c
  | none =>
    rw [c] at q
    exact x.h a o q, x.i, fun _ h _ => h⟩
theorem Ext.unbed {S0 H0 S H S' H' : Hp} (x : Ext S0 H0 S H) (y : Ext S (DL.bed S H0) S' H') : Ext S0 H0 S' H' :=
  ⟨x.s.trans y.s, fun a o q => y.h a o (by
    unfold DL.bed
    cases c : S a with
    | some u =>
      have h1 := x.i a u c
      rw [x.h a o q] at h1
      exact h1.symm
    | none => exact q), y.i, fun a h1 h2 => y.n a (x.n a h1 h2) fun z => h2 (none_bed z).2⟩
theorem Hol.bed {K : Fg} {H0 S H : Hp} {σ : L2.St} {G : Gam} (o : Hol K H0 S H σ G) : Hol K (DL.bed S H0) S H σ G :=
  ⟨o.len, o.im, fun i ds q => let ⟨p, vs, a, z, b, c⟩ := o.own i ds q; ⟨p, vs, a, bed_none b z, b, c⟩, o.sep⟩
theorem Hol.unbed {K : Fg} {H0 S S' H' : Hp} {σ : L2.St} {G : Gam} (o : Hol K (DL.bed S H0) S' H' σ G) : Hol K H0 S' H' σ G :=
  ⟨o.len, o.im, fun i ds q => let ⟨p, vs, a, z, b, c⟩ := o.own i ds q; ⟨p, vs, a, (none_bed z).2, b, c⟩, o.sep⟩
theorem Met.bed {X : Cx} {W : WX} {S0 H0 S H : Hp} {F : DL.Fin} {E : Ends} (m : Met X W S0 H0 F E) (x : Ext S0 H0 S H) : Met X W S (DL.bed S H0) F E :=
  ⟨fun σ S' H' G y o => m.nx σ S' H' G (x.unbed y) o.unbed, fun v S' H' d y => m.rt v S' H' d (x.unbed y), fun σ S' H' G y o => m.bk σ S' H' G (x.unbed y) o.unbed, fun σ S' H' G y o => m.ct σ S' H' G (x.unbed y) o.unbed,
    fun z σ S' H' G a y o => m.ex z σ S' H' G a (x.unbed y) o.unbed⟩
/-- between two turns -/
def Lp (K : Fg) (Sb Hb : Hp) (I : Gam → Prop) (σ : L2.St) (H : Hp) : Prop := ∃ S G, Ext Sb Hb S H ∧ Hol K Hb S H σ G ∧ I G
section
variable {X : Cx} {W : WX} {F : DL.Fin} {G : Gam} {e c : Expr} {es : List Expr} {d : D} {ds : List D} {pos p np : Pos} {body : List Stmt} {x : Str}
theorem Met.turn {S0 H0 : Hp} {E : Ends} {I : Gam → Prop} {N : L2.St → Hp → Prop} (m : Met X W S0 H0 F E) (hN : ∀ σ H, Lp X.K S0 H0 I σ H → N σ H) : Met X W S0 H0 { nx := I, rt := F.rt, bk := F.nx, ct := I, ex := F.ex } { E with nx := N, ct := N, bk := E.nx } :=
  ⟨fun σ S H G x o k => hN σ H ⟨S, G, x, o, k⟩, m.rt, fun σ S H G x o k => m.nx σ S H G x o k, fun σ S H G x o k => hN σ H ⟨S, G, x, o, k⟩, m.ex⟩
abbrev Fin'.turn (F : DL.Fin) (I : Gam → Prop) : DL.Fin := { nx := I, rt := F.rt, bk := F.nx, ct := I, ex := F.ex }
/-- for x in a list -/
theorem gs_forL (j : Nat) (I : Nat → Gam → Prop) (he : EvD X e G (.list ds)) (h0 : I 0 G)
    (hs : ∀ (i : Nat) (d : D) (G' : Gam), ds[i]? = some d → I i G' → GSs X W body (F.turn (I (i + 1))) (G'.set j (.im d)))
    (hd : ∀ G', I ds.length G' → F.nx G') (hp : PassesOwn (model X.prog X.w) X.A X.env X.xe) (hj : X.N[j]? = some x := by rfl) (hN : X.N.Nodup := by assumption) (hc : X.calm = true := by rfl)
    (hx : Loc X.env.scope x := by first | exact Or.inl rfl | exact Or.inr rfl) (hf : X.fn x = true ∨ X.env.scope.names.lookup x = some .local := by first | exact .inl rfl | exact .inr rfl | assumption)
    (hst : ∀ x, foldedSetIterable e X.env x = pure x := by intro _; rfl) : GS X W (.For (.Name x np) e body [] pos) F G := fun S0 H0 S H σ E z o m => by
  refine ws (ps_for hp hc (pi_list pe_w) (pg_name hN hj hx hf) pss_w hst) (he H0 S H σ o z.i _ fun v S1 H1 x1 d1 => ?_)
  cases d1 with
  | lst hq ha =>
    rename_i a vs
    have z1 := z.trans x1
    have mb := m.bed z1
    refine ⟨a, rfl, ⟨_, x1.i.sqL hq⟩, for_list (xs := vs) (fun i σ' H' => Lp X.K S1 (bed S1 H0) (I i) σ' H') ⟨S1, G, z1.bed, (o.ext x1).bed, h0⟩ ?_ ?_ ?_⟩
    · rintro i σ' H' _ ⟨S', G', y, _, _⟩
      exact y.i.sqL (y.s.sqL hq)
    · rintro i v σ' H' hv ⟨S', G', y, o', k⟩
      obtain ⟨dd, h1, h2⟩ := DpAll.getV ha hv
      exact hs i dd G' h1 k S1 (bed S1 H0) S' H' _ _ y (o'.set_im (y.s.dp h2)) (mb.turn fun _ _ q => q)
    · rintro σ' H' ⟨S', G', y, o', k⟩
      rw [DpAll.len ha] at k
      exact mb.nx σ' S' H' G' y o' (hd G' k)
/-- for x in a tuple -/
theorem gs_forT (j : Nat) (I : Nat → Gam → Prop) (he : EvD X e G (.tuple ds)) (h0 : I 0 G)
    (hs : ∀ (i : Nat) (d : D) (G' : Gam), ds[i]? = some d → I i G' → GSs X W body (F.turn (I (i + 1))) (G'.set j (.im d)))
    (hd : ∀ G', I ds.length G' → F.nx G') (hp : PassesOwn (model X.prog X.w) X.A X.env X.xe) (hj : X.N[j]? = some x := by rfl) (hN : X.N.Nodup := by assumption) (hc : X.calm = true := by rfl)
    (hx : Loc X.env.scope x := by first | exact Or.inl rfl | exact Or.inr rfl) (hf : X.fn x = true ∨ X.env.scope.names.lookup x = some .local := by first | exact .inl rfl | exact .inr rfl | assumption)
    (hst : ∀ x, foldedSetIterable e X.env x = pure x := by intro _; rfl) : GS X W (.For (.Name x np) e body [] pos) F G := fun S0 H0 S H σ E z o m => by
  refine ws (ps_for hp hc (pi_tup pe_w) (pg_name hN hj hx hf) pss_w hst) (he H0 S H σ o z.i _ fun v S1 H1 x1 d1 => ?_)
  cases d1 with
  | tup hq ha =>
    rename_i a vs
    have z1 := z.trans x1
    have mb := m.bed z1
    refine ⟨a, rfl, ⟨_, x1.i.sqT hq.t⟩, for_tup (xs := vs) (fun i σ' H' => Lp X.K S1 (bed S1 H0) (I i) σ' H') ⟨S1, G, z1.bed, (o.ext x1).bed, h0⟩ ?_ ?_ ?_⟩
    · rintro i σ' H' _ ⟨S', G', y, _, _⟩
      exact y.i.sqT (y.s.sqT hq.t)
    · rintro i v σ' H' hv ⟨S', G', y, o', k⟩
      obtain ⟨dd, h1, h2⟩ := DpAll.getV ha hv
      exact hs i dd G' h1 k S1 (bed S1 H0) S' H' _ _ y (o'.set_im (y.s.dp h2)) (mb.turn fun _ _ q => q)
    · rintro σ' H' ⟨S', G', y, o', k⟩
      rw [DpAll.len ha] at k
      exact mb.nx σ' S' H' G' y o' (hd G' k)
/-- for x in range(n) -/
theorem gs_forR (j : Nat) (I : Nat → Gam → Prop) {n : Int} {a : Expr} (hm : X.mg "range" = none) (he : EvD X a G (.int n)) (hn : -(2 ^ 62) ≤ n ∧ n < 2 ^ 62) (h0 : I 0 G)
    (hs : ∀ (i : Nat) (G' : Gam), (i : Int) < n → I i G' → GSs X W body (F.turn (I (i + 1))) (G'.set j (.im (.int (i : Int)))))
    (hd : ∀ G', I n.toNat G' → F.nx G') (hp : PassesOwn (model X.prog X.w) X.A X.env X.xe) (hj : X.N[j]? = some x := by rfl) (hN : X.N.Nodup := by assumption) (hc : X.calm = true := by rfl) (hg : Gl X "range" := by rfl)
    (hx : Loc X.env.scope x := by first | exact Or.inl rfl | exact Or.inr rfl) (hf : X.fn x = true ∨ X.env.scope.names.lookup x = some .local := by first | exact .inl rfl | exact .inr rfl | assumption)
    (hst : ∀ x, foldedSetIterable (.Call (.Name "range" p) [a] [] np) X.env x = pure x := by intro _; rfl) (hse : starEach [a] X.env = [(false, eval a X.env)] := by first | exact sk_name | exact sk_const | exact sk_sub | exact sk_bin | exact sk_call | exact sk_tup | exact sk_lst | exact sk_cmp | exact sk_lc | exact sk_un | exact sk_bool | exact sk_attr | exact sk_if | rfl) : GS X W (.For (.Name x pos) (.Call (.Name "range" p) [a] [] np) body [] pos) F G := fun S0 H0 S H σ E z o m => by
  refine ws (ps_for hp hc (pi_range1 hg hm pa_w hse) (pg_name hN hj hx hf) pss_w hst) (ea_cons he ea_nil (by exact hse) H0 S H σ o z.i _ fun vs S1 H1 x1 d1 => ?_)
  cases d1 with
  | cons d1 d2 =>
    cases d2
    cases d1
    have z1 := z.trans x1
    have mb := m.bed z1
    refine ⟨n, rfl, hn.1, hn.2, for_range (lo := 0) (n := n.toNat) (fun i σ' H' => Lp X.K S1 (bed S1 H0) (I i) σ' H') ⟨S1, G, z1.bed, (o.ext x1).bed, h0⟩ ?_ ?_⟩
    · rintro i σ' H' hi ⟨S', G', y, o', k⟩
      have e0 : (0 : Int) + (i : Int) = (i : Int) := Int.zero_add _
      rw [e0]
      exact hs i G' (by omega) k S1 (bed S1 H0) S' H' _ _ y (o'.set_im (.int _)) (mb.turn fun _ _ q => q)
    · rintro σ' H' ⟨S', G', y, o', k⟩
      exact mb.nx σ' S' H' G' y o' (hd G' k)
/-- while c -/
theorem gs_while (I : Nat → Gam → Prop) (m0 : Nat) (h0 : I m0 G)
    (hs : ∀ (m : Nat) (G' : Gam), I m G' → ∃ b, EvT X c G' b ∧ (b = true → GSs X W body (F.turn (fun G'' => ∃ m', m' < m ∧ I m' G'')) G') ∧ (b = false → F.nx G'))
    (hp : PassesOwn (model X.prog X.w) X.A X.env X.xe) : GS X W (.While c body [] pos) F G := fun S0 H0 S H σ E z o m => by
  have mb := m.bed z
  refine ws (ps_while hp pt_w pss_w) ⟨fun n σ' H' => Lp X.K S (bed S H0) (I n) σ' H', ⟨m0, S, G, z.bed, o.bed, h0⟩, ?_⟩
  rintro n σ' H' ⟨S', G', y, o', k⟩
  obtain ⟨b, h1, h2, h3⟩ := hs n G' k
  refine h1 (bed S H0) S' H' σ' o' y.i _ fun S2 H2 x2 => ?_
  cases b with
  | true =>
    rw [if_pos rfl]
    refine ⟨fun σ3 H3 => ∃ m', m' < n ∧ Lp X.K S (bed S H0) (I m') σ3 H3, fun σ3 H3 q => q, ?_⟩
    exact h2 rfl S (bed S H0) S2 H2 σ' _ (y.trans x2) (o'.ext x2) (mb.turn fun σ3 H3 ⟨S3, G3, y3, o3, mm, lt, q3⟩ => ⟨mm, lt, S3, G3, y3, o3, q3⟩)
  | false =>
    rw [if_neg Bool.false_ne_true]
    exact mb.nx σ' S2 H2 G' (y.trans x2) (o'.ext x2) (h3 rfl)
/-- l.append(e), l a list that its slot alone holds -/
theorem gs_app {apos cpos : Pos} (i : Nat) (he : EvD X e G d) (k : F.nx (G.set i (.own (ds ++ [d])))) (hi : X.N[i]? = some x := by rfl) (hG : G[i]? = some (.own ds) := by rfl) (hl : ds.length < sizeLine)
    (hv : Vis X.env.scope x := by first | exact Or.inl rfl | exact Or.inr (Or.inl rfl) | exact Or.inr (Or.inr rfl)) (hd : (x == ("__debug__" : Str)) = false := by decide) (hcd : (x == ("__classdict__" : Str)) = false := by decide)
    (hbase : attributeBase (.Name x np) "append" X.env (eval (.Name x np) X.env) = eval (.Name x np) X.env := by rfl)
    (hfew : ((backTo cpos (starEach [e] X.env)).all (fun x => !x.1) && (backToKw cpos (keywordEach [] X.env)).all (fun x => x.1.isSome)
      && decide ([e].length + ([] : List Keyword).length + (if ([] : List Keyword).isEmpty then 0 else 1) < 30)) = true := by rfl)
    (hline : (apos.endLine == cpos.line) = true := by rfl) (hs : starEach [e] X.env = (false, eval e X.env) :: starEach [] X.env := by first | exact sk_name | exact sk_const | exact sk_sub | exact sk_bin | exact sk_call | exact sk_tup | exact sk_lst | exact sk_cmp | exact sk_lc | exact sk_un | exact sk_bool | exact sk_attr | exact sk_if | rfl) (hplain : (backTo cpos (starEach [] X.env)).any (·.1) = false := by rfl)
    (hsw : swapsWith (.Call (.Attribute (.Name x np) "append" apos) [e] [] cpos) none pos.line X.env = pure false := by rfl) :
    GS X W (.Expr (.Call (.Attribute (.Name x np) "append" apos) [e] [] cpos) pos) F G := fun S0 H0 S H σ E z o m => by
  refine ws (ps_expr (pe_bm PySem.F.plainAttrs_list PySem.F.slot_list_append PySem.F.type_list_append mt_append (pe_var (i := i) hi hv hd hcd) pa_w hbase hfew hline hs hplain) hsw) ?_
  obtain ⟨q, vs, a1, a2, a3, a4, a5⟩ := o.own i ds hG
  refine ⟨.ref q, a1, .inl ⟨rfl, _, SqL.of a4⟩, ea_cons he ea_nil (by exact hs) H0 S H σ o z.i _ fun ws' S1 H1 x1 d1 => ?_⟩
  cases d1 with
  | cons d1 d2 =>
    cases d2
    rename_i v1
    have h4 : H1 q = some (.lst vs) := x1.h _ _ a4
    have h3 : S1 q = none := x1.n q a3 (by rw [a4]; exact fun z => nomatch z)
    refine ⟨q, vs, _, rfl, rfl, h4, by rw [DpAll.len a5]; exact hl, ?_⟩
    have z1 := z.trans x1
    refine m.nx σ S1 _ _ (z1.own a2 h3) ?_ k
    have o1 := o.ext x1
    have lt : i < G.length := (List.getElem?_eq_some_iff.mp hG).1
    have e1 : σ.set i (some (.ref q)) = σ := by
      refine List.ext_getElem? fun j => ?_
      by_cases c : i = j
      · subst c
        rw [List.getElem?_set_self (by rw [o.len]; exact lt), a1]
      · rw [List.getElem?_set_ne c]
    have ne : ∀ (j : Nat) (es : List D), j ≠ i → G[j]? = some (.own es) → σ[j]? ≠ some (some (.ref q)) := fun j es hj hg => o.sep i j ds es q (Ne.symm hj) hG hg a1
    have o2 : Hol X.K H0 S1 (upd H1 q (.lst (vs ++ [v1]))) σ (G.set i .no) := by
      have w := (o1.drop (i := i))
      refine ⟨w.len, w.im, fun j es hj => ?_, w.sep⟩
      obtain ⟨r, us, b1, b2, b3, b4, b5⟩ := w.own j es hj
      refine ⟨r, us, b1, b2, b3, ?_, b5⟩
      have hji : j ≠ i := fun c => by
        subst c
        rw [List.getElem?_set_self lt] at hj
        cases hj
      have hg : G[j]? = some (.own es) := by
        rw [List.getElem?_set_ne (Ne.symm hji)] at hj
        exact hj
      rw [upd_ne fun c => ne j es hji hg (by rw [← c]; exact b1)]
      exact b4
    have o3 := o2.set_own (i := i) (p := q) (ds := ds ++ [d]) a2 h3 upd_same (DpAll.snoc d1 (x1.s.dpAll a5)) fun j es hj hg => by
      rw [List.getElem?_set_ne (Ne.symm hj)] at hg
      exact ne j es hj hg
    rw [List.set_set, e1] at o3
    exact o3
end

section
variable {X : Cx} {W : WX} {F : DL.Fin} {G : Gam} {c : Expr} {pos : Pos} {body els : List Stmt}
theorem gs_ifF (hc : EvT X c G false) (h : F.nx G) : GS X W (.If c body [] pos) F G := gs_if hc (fun z => Bool.noConfusion z) fun _ => gs_nil h
theorem gs_ifT (hc : EvT X c G true) (h : GSs X W body F G) : GS X W (.If c body els pos) F G := gs_if hc (fun _ => h) fun z => Bool.noConfusion z
end

/-! ### a def by its body -/
def outFin : Out → DL.Fin
  | .val d => { nx := fun _ => d = .none, rt := fun e => e = d }
  | .exc x => { nx := fun _ => False, rt := fun _ => False, ex := fun y _ => y = x }
def gam0 (N : List Str) (ds : List D) : Gam := ds.map .im ++ List.replicate (N.length - ds.length) .no
theorem hol_start {K : Fg} {S H : Hp} {N : List Str} {vs : List V} {ds : List D} (h : DpAll K S vs ds) : Hol K H S H (L2.start N vs) (gam0 N ds) := by
  have hl := DpAll.len h
  refine ⟨by unfold L2.start gam0; rw [List.length_append, List.length_append, List.length_map, List.length_map, List.length_replicate, List.length_replicate, hl], fun i d q => ?_, fun i es q => ?_, fun i j es fs p _ q => ?_⟩
  · unfold gam0 at q
    by_cases c : i < ds.length
    · rw [List.getElem?_append_left (by rw [List.length_map]; exact c), List.getElem?_map, List.getElem?_eq_getElem c] at q
      have e : ds[i] = d := Ent.im.inj (Option.some.inj q)
      obtain ⟨v, h1, h2⟩ := DpAll.get h (List.getElem?_eq_getElem c)
      rw [e] at h2
      refine ⟨v, ?_, h2⟩
      unfold L2.start
      rw [List.getElem?_append_left (by rw [List.length_map, hl]; exact c), List.getElem?_map, h1]
      rfl
    · rw [List.getElem?_append_right (by rw [List.length_map]; omega), List.getElem?_replicate] at q
      split at q <;> cases q
  · unfold gam0 at q
    by_cases c : i < ds.length
    · rw [List.getElem?_append_left (by rw [List.length_map]; exact c), List.getElem?_map, List.getElem?_eq_getElem c] at q
      cases q
    · rw [List.getElem?_append_right (by rw [List.length_map]; omega), List.getElem?_replicate] at q
      split at q <;> cases q
  · unfold gam0 at q
    by_cases c : i < ds.length
    · rw [List.getElem?_append_left (by rw [List.length_map]; exact c), List.getElem?_map, List.getElem?_eq_getElem c] at q
      cases q
    · rw [List.getElem?_append_right (by rw [List.length_map]; omega), List.getElem?_replicate] at q
      split at q <;> cases q
section
variable {P : Program} {w : World} {K : Fg} {mg : Str → Option Value} {base : Heap}
abbrev Xn (P : Program) (w : World) (K : Fg) (mg : Str → Option Value) (base : Heap) (N : List Str) (qual : Str) (st : Stmt) (f : Addr) (cdv : Value) (A : Around) (outer : List Env) (s : Shared) (H : Hp) (E : XK) : Cx :=
  (cxOf L2.CX0 P w K mg base N qual (defScope st) f cdv A outer s H E).nox
abbrev Xr (P : Program) (w : World) (K : Fg) (mg : Str → Option Value) (base : Heap) (N : List Str) (qual : Str) (st : Stmt) (f : Addr) (cdv : Value) (A : Around) (outer : List Env) (s : Shared) (H : Hp) (E : XK) : Cx :=
  cxOf (L2.CX P w) P w K mg base N qual (defScope st) f cdv A outer s H E
abbrev W0 : WX := fun _ _ _ _ => False
/-- a def that raises nothing -/
theorem fn_ok {x qual : Str} {st : Stmt} {f : Addr} {fd : FuncData} {N ps : List Str} {k : Nat} {R : List D → Out → Prop} (F : Fun K x qual st f fd) (Sc : FnScope N ps (defScope st)) (len : ∀ ds o, R ds o → ds.length = ps.length)
    (body : ∀ (cdv : Value) (A : Around) (outer : List Env) (s : Shared) (H : Hp) (E : XK), Room k (Xn P w K mg base N qual st f cdv A outer s H E).A → ∀ ds d, R ds (.val d) →
      GSs (Xn P w K mg base N qual st f cdv A outer s H E) W0 (defBody st) (outFin (.val d)) (gam0 N ds)) (val : ∀ ds y, ¬ R ds (.exc y)) : FnOk P w K mg base L2.CX0 (k + 1) f fd ps (spD K R) := by
  refine F.ok Sc (fun vs H Q E h => ?_) (fun cdv A outer s H vs Q E hr h => ?_)
  · obtain ⟨S, ds, o, _, d1, r, _⟩ := h
    rw [DpAll.len d1]
    exact len ds o r
  · obtain ⟨S, ds, o, i, d1, r, q⟩ := h
    cases o with
    | exc y => exact absurd r (val ds y)
    | val d =>
      refine ⟨_, pss_w, body cdv A outer s H E hr ds d r S H S H _ _ (Ext.refl i) (hol_start d1) ⟨?_, ?_, fun _ _ _ _ _ _ z => z.elim, fun _ _ _ _ _ _ z => z.elim, fun _ _ _ _ _ _ _ _ _ z => z.elim⟩⟩
      · intro σ S' H' G' x' o' z
        exact q .non S' H' x' (by rw [show d = .none from z]; exact .non)
      · intro v S' H' d' x' q' z
        exact q v S' H' x' (by rw [← show d' = d from z]; exact q')
theorem def_ok {x qual : Str} {st : Stmt} {f : Addr} {fd : FuncData} {N ps : List Str} {k : Nat} {R : List D → Out → Prop} (F : Fun K x qual st f fd) (Sc : FnScope N ps (defScope st)) (hm : mg x = some (.ref f)) (hb : Binds K fd ps []) (len : ∀ ds o, R ds o → ds.length = ps.length)
    (body : ∀ (cdv : Value) (A : Around) (outer : List Env) (s : Shared) (H : Hp) (E : XK), Room k (Xn P w K mg base N qual st f cdv A outer s H E).A → ∀ ds d, R ds (.val d) →
      GSs (Xn P w K mg base N qual st f cdv A outer s H E) W0 (defBody st) (outFin (.val d)) (gam0 N ds)) (val : ∀ ds y, ¬ R ds (.exc y)) : DefOk P w K mg base L2.CX0 (k + 1) x R := ⟨f, fd, ps, fn_ok F Sc len body val, hm, F.kp, hb⟩
/-- a def that may raise -/
theorem def_okX {x qual : Str} {st : Stmt} {f : Addr} {fd : FuncData} {N ps : List Str} {k : Nat} {R : List D → Out → Prop} (F : Fun K x qual st f fd) (Sc : FnScope N ps (defScope st)) (hm : mg x = some (.ref f)) (hb : Binds K fd ps []) (len : ∀ ds o, R ds o → ds.length = ps.length)
    (body : ∀ (cdv : Value) (A : Around) (outer : List Env) (s : Shared) (H : Hp) (E : XK), Room k (Xr P w K mg base N qual st f cdv A outer s H E).A → Takes (Xr P w K mg base N qual st f cdv A outer s H E) (fun cls d _ H => E cls d H) →
      PassesOwn (model P w) (Xr P w K mg base N qual st f cdv A outer s H E).A (Xr P w K mg base N qual st f cdv A outer s H E).env (Xr P w K mg base N qual st f cdv A outer s H E).xe → ∀ ds o, R ds o →
      GSs (Xr P w K mg base N qual st f cdv A outer s H E) (fun cls d _ H => E cls d H) (defBody st) (outFin o) (gam0 N ds)) : DefOk P w K mg base (L2.CX P w) (k + 1) x R := by
  refine ⟨f, fd, ps, F.okX Sc (fun vs H Q E h => ?_) (fun cdv A outer s H vs Q E hr h => ?_), hm, F.kp, hb⟩
  · obtain ⟨S, ds, o, _, d1, r, _⟩ := h
    rw [DpAll.len d1]
    exact len ds o r
  · obtain ⟨S, ds, o, i, d1, r, q⟩ := h
    refine ⟨_, pss_w, body cdv A outer s H E hr (takes_of rfl rfl rfl rfl) (passes_of (X := Xr P w K mg base N qual st f cdv A outer s H E) rfl) ds o r S H S H _ _ (Ext.refl i) (hol_start d1) ?_⟩
    cases o with
    | exc y =>
      refine ⟨fun _ _ _ _ _ _ z => z.elim, fun _ _ _ _ _ _ z => z.elim, fun _ _ _ _ _ _ z => z.elim, fun _ _ _ _ _ _ z => z.elim, ?_⟩
      intro y' σ S' H' G' a x' o' q' z
      rw [show y' = y from z] at q' ⊢
      exact q a S' H' x' q'
    | val d =>
      refine ⟨?_, ?_, fun _ _ _ _ _ _ z => z.elim, fun _ _ _ _ _ _ z => z.elim, fun _ _ _ _ _ _ _ _ _ z => z.elim⟩
      · intro σ S' H' G' x' o' z
        exact q .non S' H' x' (by rw [show d = .none from z]; exact .non)
      · intro v S' H' d' x' q' z
        exact q v S' H' x' (by rw [← show d' = d from z]; exact q')
end
end DL

namespace DL
open PySem PySem.Spec PyProof.Rows L2
section
variable {X : Cx} {W : WX} {F : DL.Fin} {G : Gam} {e a b c : Expr} {es : List Expr} {d da db : D} {ds : List D} {pos pos' p : Pos} {x : Str} {i j : Int}
/-! built-in functions -/
theorem ev_max2 (hm : X.mg "max" = none) (ha : EvD X a G (.int i)) (hb : EvD X b G (.int j)) (hc : X.calm = true := by rfl) (hg : Gl X "max" := by rfl)
    (he : starEach [a, b] X.env = (false, eval a X.env) :: starEach [b] X.env := by first | exact sk_name | exact sk_const | exact sk_sub | exact sk_bin | exact sk_call | exact sk_tup | exact sk_lst | exact sk_cmp | exact sk_lc | exact sk_un | exact sk_bool | exact sk_attr | exact sk_if | rfl) (he2 : starEach [b] X.env = (false, eval b X.env) :: starEach [] X.env := by first | exact sk_name | exact sk_const | exact sk_sub | exact sk_bin | exact sk_call | exact sk_tup | exact sk_lst | exact sk_cmp | exact sk_lc | exact sk_un | exact sk_bool | exact sk_attr | exact sk_if | rfl) (hpl : (backTo pos (starEach [b] X.env)).any (·.1) = false := by rfl) : EvD X (.Call (.Name "max" p) [a, b] [] pos) G (.int (if j > i then j else i)) :=
  ev_cb (pe_callB (call_max2 hc) hg hm (by decide +kernel) pa_w (by decide) (by decide) he hpl) (ea_cons ha (ea_cons hb ea_nil he2) he) fun S H vs e d1 Q q => by
    cases d1 with
    | cons d1 d2 =>
      cases d2 with
      | cons d2 d3 =>
        cases d3
        cases d1
        cases d2
        exact ⟨i, j, rfl, q _ S H (Ext.refl e) (.int _)⟩
theorem ev_min2 (hm : X.mg "min" = none) (ha : EvD X a G (.int i)) (hb : EvD X b G (.int j)) (hc : X.calm = true := by rfl) (hg : Gl X "min" := by rfl)
    (he : starEach [a, b] X.env = (false, eval a X.env) :: starEach [b] X.env := by first | exact sk_name | exact sk_const | exact sk_sub | exact sk_bin | exact sk_call | exact sk_tup | exact sk_lst | exact sk_cmp | exact sk_lc | exact sk_un | exact sk_bool | exact sk_attr | exact sk_if | rfl) (he2 : starEach [b] X.env = (false, eval b X.env) :: starEach [] X.env := by first | exact sk_name | exact sk_const | exact sk_sub | exact sk_bin | exact sk_call | exact sk_tup | exact sk_lst | exact sk_cmp | exact sk_lc | exact sk_un | exact sk_bool | exact sk_attr | exact sk_if | rfl) (hpl : (backTo pos (starEach [b] X.env)).any (·.1) = false := by rfl) : EvD X (.Call (.Name "min" p) [a, b] [] pos) G (.int (if j < i then j else i)) :=
  ev_cb (pe_callB (call_min2 hc) hg hm (by decide +kernel) pa_w (by decide) (by decide) he hpl) (ea_cons ha (ea_cons hb ea_nil he2) he) fun S H vs e d1 Q q => by
    cases d1 with
    | cons d1 d2 =>
      cases d2 with
      | cons d2 d3 =>
        cases d3
        cases d1
        cases d2
        exact ⟨i, j, rfl, q _ S H (Ext.refl e) (.int _)⟩
theorem ev_lenL (hm : X.mg "len" = none) (ha : EvD X a G (.list ds)) (hg : Gl X "len" := by rfl)
    (he : starEach [a] X.env = (false, eval a X.env) :: starEach [] X.env := by first | exact sk_name | exact sk_const | exact sk_sub | exact sk_bin | exact sk_call | exact sk_tup | exact sk_lst | exact sk_cmp | exact sk_lc | exact sk_un | exact sk_bool | exact sk_attr | exact sk_if | rfl) (hpl : (backTo pos (starEach [] X.env)).any (·.1) = false := by rfl) : EvD X (.Call (.Name "len" p) [a] [] pos) G (.int (ds.length : Nat)) :=
  ev_cb (pe_callB call_len_seq hg hm PySem.boot_len pa_w (by decide) (by decide) he hpl) (ea_cons ha ea_nil he) fun S H vs e d1 Q q => by
    cases d1 with
    | cons d1 d2 =>
      cases d2
      cases d1 with
      | lst hs hA =>
        refine ⟨_, _, rfl, .inl (e.sqL hs), ?_⟩
        rw [DpAll.len hA]
        exact q _ S H (Ext.refl e) (.int _)
theorem ev_lenT (hm : X.mg "len" = none) (ha : EvD X a G (.tuple ds)) (hg : Gl X "len" := by rfl)
    (he : starEach [a] X.env = (false, eval a X.env) :: starEach [] X.env := by first | exact sk_name | exact sk_const | exact sk_sub | exact sk_bin | exact sk_call | exact sk_tup | exact sk_lst | exact sk_cmp | exact sk_lc | exact sk_un | exact sk_bool | exact sk_attr | exact sk_if | rfl) (hpl : (backTo pos (starEach [] X.env)).any (·.1) = false := by rfl) : EvD X (.Call (.Name "len" p) [a] [] pos) G (.int (ds.length : Nat)) :=
  ev_cb (pe_callB call_len_seq hg hm PySem.boot_len pa_w (by decide) (by decide) he hpl) (ea_cons ha ea_nil he) fun S H vs e d1 Q q => by
    cases d1 with
    | cons d1 d2 =>
      cases d2
      cases d1 with
      | tup hs hA =>
        refine ⟨_, _, rfl, .inr (e.sqT hs.t), ?_⟩
        rw [DpAll.len hA]
        exact q _ S H (Ext.refl e) (.int _)
theorem ev_gcd (hm : X.mg x = some (.builtin "math.gcd")) (ha : EvD X a G (.int i)) (hb : EvD X b G (.int j)) (hg : Gl X x := by rfl) (hdb : (x == ("__debug__" : Str)) = false := by decide)
    (he : starEach [a, b] X.env = (false, eval a X.env) :: starEach [b] X.env := by first | exact sk_name | exact sk_const | exact sk_sub | exact sk_bin | exact sk_call | exact sk_tup | exact sk_lst | exact sk_cmp | exact sk_lc | exact sk_un | exact sk_bool | exact sk_attr | exact sk_if | rfl) (he2 : starEach [b] X.env = (false, eval b X.env) :: starEach [] X.env := by first | exact sk_name | exact sk_const | exact sk_sub | exact sk_bin | exact sk_call | exact sk_tup | exact sk_lst | exact sk_cmp | exact sk_lc | exact sk_un | exact sk_bool | exact sk_attr | exact sk_if | rfl) (hpl : (backTo pos (starEach [b] X.env)).any (·.1) = false := by rfl) : EvD X (.Call (.Name x p) [a, b] [] pos) G (.int ((Nat.gcd i.natAbs j.natAbs : Nat) : Int)) :=
  ev_cb (pe_callBfun cr_gcd hg hm pa_w hdb he hpl) (ea_cons ha (ea_cons hb ea_nil he2) he) fun S H vs e d1 Q q => by
    cases d1 with
    | cons d1 d2 =>
      cases d2 with
      | cons d2 d3 =>
        cases d3
        cases d1
        cases d2
        exact ⟨i, j, rfl, q _ S H (Ext.refl e) (.int _)⟩
end
section
variable {X : Cx} {W : WX} {F : DL.Fin} {G : Gam} {e : Expr} {es : List Expr} {ds : List D} {pos pos' p : Pos} {x : Str} {k j : Nat} {R : List D → Out → Prop} {o : Out}
/-- return f(..), f may raise -/
theorem gs_retO (tk : Takes X W) (Fn : DefOk X.prog X.w X.K X.mg X.base (L2.CX X.prog X.w) j x R) (hr : Room k X.A) (ha : EvA X (e :: es) G ds) (h : R ds o) (kv : ∀ d, o = .val d → F.rt d) (kx : ∀ y, o = .exc y → F.ex y G) (hj : j ≤ k := by decide) (hg : Gl X x := by rfl)
    (hdb : (x == ("__debug__" : Str)) = false := by decide) (he : starEach (e :: es) X.env = (false, eval e X.env) :: starEach es X.env := by first | exact sk_name | exact sk_const | exact sk_sub | exact sk_bin | exact sk_call | exact sk_tup | exact sk_lst | exact sk_cmp | exact sk_lc | exact sk_un | exact sk_bool | exact sk_attr | exact sk_if | rfl) (hpl : (backTo pos (starEach es X.env)).any (·.1) = false := by rfl) :
    GS X W (.Return (some (.Call (.Name x p) (e :: es) [] pos)) pos') F G := by
  cases o with
  | val d => exact gs_ret (ev_call Fn hr ha h hj passL hg hdb he hpl) (kv d rfl)
  | exc y => exact gs_retX (ex_call tk Fn hr ha h hj hg hdb he hpl) (kx y rfl)
theorem outFin_rt {o : Out} : ∀ d, o = .val d → (outFin o).rt d := fun d e => by subst e; rfl
theorem outFin_ex {o : Out} {G : Gam} : ∀ y, o = .exc y → (outFin o).ex y G := fun d e => by subst e; rfl
end
/-- an error of the class at S is what «except S» names -/
theorem exm_self {K : Fg} {S : Addr} (h1 : PySem.W.subIn K (.ref S) (.type "BaseException") = some true) (h2 : PySem.W.isClsIn K S = true) (h3 : PySem.W.typeIn K (.ref S) = some (.type "type")) (h4 : PySem.W.subIn K (.ref S) (.ref S) = some true) :
    PySem.W.exmOne K (.ref S) (.ref S) = some true := by
  have e1 : (PySem.W.subIn K (.ref S) (.type "BaseException") == some true) = true := by rw [h1] <;> rfl
  have e2 : ((PySem.W.clsIn K S).isSome && PySem.W.typeIn K (.ref S) == some (.type "type")) = true := by
    have h2' : (PySem.W.clsIn K S).isSome = true := h2
    rw [h2', h3] <;> rfl
  show (if (PySem.W.subIn K (.ref S) (.type "BaseException") == some true) = true then (if ((PySem.W.clsIn K S).isSome && PySem.W.typeIn K (.ref S) == some (.type "type")) = true then PySem.W.subIn K (.ref S) (.ref S) else none) else none) = some true
  rw [if_pos e1, if_pos e2]
  exact h4
end DL

/-! Fractions, and the laws' own draws, as plain functions. -/
namespace MT
open PySem L2 DL
/-- a fraction in lowest terms -/
def nrm (t b : Int) : Int × Int := if b < 0 then (-t / (Nat.gcd t.natAbs b.natAbs : Nat), -b / (Nat.gcd t.natAbs b.natAbs : Nat)) else (t / (Nat.gcd t.natAbs b.natAbs : Nat), b / (Nat.gcd t.natAbs b.natAbs : Nat))
def dn (q : Int × Int) : D := .tuple [.int q.1, .int q.2]
def Bd (n : Nat) (q : Int × Int) : Prop := q.1.natAbs < 2 ^ n ∧ q.2.natAbs < 2 ^ n
theorem gcd_pos {t b : Int} (h : b ≠ 0) : 0 < Nat.gcd t.natAbs b.natAbs := Nat.gcd_pos_of_pos_right _ (by omega)
theorem gcd_ok {t b i : Int} (h : b ≠ 0) (hb : b.natAbs < 2 ^ 8999) : CDivW i (Nat.gcd t.natAbs b.natAbs : Nat) := by
  have p := gcd_pos (t := t) h
  have l : Nat.gcd t.natAbs b.natAbs ≤ b.natAbs := Nat.gcd_le_right _ (by omega)
  refine wide_div (b := 8999) (by omega) ?_ (by decide) (by decide)
  show Nat.gcd t.natAbs b.natAbs < 2 ^ 8999
  exact Nat.lt_of_le_of_lt l hb
theorem nrm_neg {t b : Int} (h : b ≠ 0) : nrm (-t) (-b) = nrm t b := by
  unfold nrm
  rw [Int.natAbs_neg, Int.natAbs_neg, Int.neg_neg, Int.neg_neg]
  by_cases c : b < 0
  · rw [if_neg (by omega), if_pos c]
  · rw [if_pos (by omega), if_neg c]
theorem mul_ok {i j : Int} {a b : Nat} (h1 : i.natAbs < 2 ^ a) (h2 : j.natAbs < 2 ^ b) (ha : 0 < a := by decide) (hb : 0 < b := by decide) (h : a + b ≤ 1000000 := by decide) : MulOk i j := .inr (wide_mul h1 h2 ha hb h)
theorem nrm_bot {t b : Int} (h : b ≠ 0) : 1 ≤ (nrm t b).2 ∧ (nrm t b).2 ≤ b.natAbs := by
  have p := gcd_pos (t := t) h
  have l : Nat.gcd t.natAbs b.natAbs ≤ b.natAbs := Nat.gcd_le_right _ (by omega)
  have dv : ((Nat.gcd t.natAbs b.natAbs : Nat) : Int) ∣ b := Int.ofNat_dvd_left.mpr (Nat.gcd_dvd_right _ _)
  obtain ⟨q, hq⟩ := dv
  have gp : (0 : Int) < (Nat.gcd t.natAbs b.natAbs : Nat) := by omega
  unfold nrm
  generalize ((Nat.gcd t.natAbs b.natAbs : Nat) : Int) = g at *
  have h1 : b / g = q := by rw [hq]; exact Int.mul_ediv_cancel_left _ (by omega)
  have h2 : -b / g = -q := by rw [hq, ← Int.mul_neg]; exact Int.mul_ediv_cancel_left _ (by omega)
  have hle : ∀ x : Int, 0 < x → x ≤ g * x := fun x hx => by
    have := Int.mul_le_mul_of_nonneg_right (show (1 : Int) ≤ g by omega) (show 0 ≤ x by omega)
    omega
  by_cases c : b < 0
  · rw [if_pos c]
    show 1 ≤ -b / g ∧ -b / g ≤ b.natAbs
    rw [h2]
    have qn : q < 0 := by
      apply Int.lt_of_not_ge
      intro z
      have := Int.mul_nonneg (show 0 ≤ g by omega) z
      omega
    have := hle (-q) (by omega)
    have e : g * -q = -b := by rw [hq, Int.mul_neg]
    omega
  · rw [if_neg c]
    show 1 ≤ b / g ∧ b / g ≤ b.natAbs
    rw [h1]
    have qn : 0 < q := by
      apply Int.lt_of_not_ge
      intro z
      have := Int.mul_nonneg (show 0 ≤ g by omega) (show 0 ≤ -q by omega)
      have e : g * -q = -b := by rw [hq, Int.mul_neg]
      omega
    have := hle q qn
    omega
theorem nrm_top {t b : Int} (h : b ≠ 0) : (nrm t b).1.natAbs ≤ t.natAbs := by
  have p := gcd_pos (t := t) h
  have dv : ((Nat.gcd t.natAbs b.natAbs : Nat) : Int) ∣ t := Int.ofNat_dvd_left.mpr (Nat.gcd_dvd_left _ _)
  obtain ⟨q, hq⟩ := dv
  have gp : (0 : Int) < (Nat.gcd t.natAbs b.natAbs : Nat) := by omega
  unfold nrm
  generalize ((Nat.gcd t.natAbs b.natAbs : Nat) : Int) = g at *
  have h1 : t / g = q := by rw [hq]; exact Int.mul_ediv_cancel_left _ (by omega)
  have h2 : -t / g = -q := by rw [hq, ← Int.mul_neg]; exact Int.mul_ediv_cancel_left _ (by omega)
  have key : q.natAbs ≤ t.natAbs := by
    rw [hq, Int.natAbs_mul]
    exact Nat.le_mul_of_pos_left _ (by omega)
  by_cases c : b < 0
  · rw [if_pos c]
    show (-t / g).natAbs ≤ _
    rw [h2, Int.natAbs_neg]
    exact key
  · rw [if_neg c]
    show (t / g).natAbs ≤ _
    rw [h1]
    exact key

/-! ### draws -/
def bigs (c : Int) : List Int → List Int
  | [] => []
  | s :: ss => c % s :: bigs (c / s) ss
def st1 (st : Int) (j : Nat) : Int := (st * 48271 + 11 + j) % 2147483647
def st2 (st : Int) (j : Nat) : Int := (st1 st j * 69621 + 3) % 2147483647
def smalls (st : Int) (j : Nat) : List Int → List Int
  | [] => []
  | s :: ss => (st2 st j / 7 % s) :: smalls (st2 st j) (j + 1) ss
def cellAbs (ns : List Int) (k : Nat) : Int := if ns.getD k 0 < 0 then -(ns.getD k 0) else ns.getD k 0
def drawL (ns : List Int) (k : Nat) (sizes : List Int) : List Int :=
  if 10 ^ (18 : Int).toNat ≤ cellAbs ns k then bigs (cellAbs ns k - 10 ^ (18 : Int).toNat) sizes else smalls ((cellAbs ns k + 1 + 31 * (k : Int)) % 2147483647) 0 sizes
inductive InR : List Int → List Int → Prop where
  | nil : InR [] []
  | cons {d s : Int} {ds ss : List Int} (h0 : 0 ≤ d) (h1 : d < s) (t : InR ds ss) : InR (d :: ds) (s :: ss)
theorem bigs_in : ∀ (sizes : List Int) (c : Int), (∀ s ∈ sizes, 0 < s) → InR (bigs c sizes) sizes
  | [], _, _ => .nil
  | s :: ss, c, h => .cons (Int.emod_nonneg _ (by have := h s List.mem_cons_self; omega)) (Int.emod_lt_of_pos _ (h s List.mem_cons_self)) (bigs_in ss _ fun x hx => h x (List.mem_cons_of_mem _ hx))
theorem smalls_in : ∀ (sizes : List Int) (c : Int) (j : Nat), (∀ s ∈ sizes, 0 < s) → InR (smalls c j sizes) sizes
  | [], _, _, _ => .nil
  | s :: ss, c, j, h => .cons (Int.emod_nonneg _ (by have := h s List.mem_cons_self; omega)) (Int.emod_lt_of_pos _ (h s List.mem_cons_self)) (smalls_in ss _ _ fun x hx => h x (List.mem_cons_of_mem _ hx))
theorem drawL_in {ns : List Int} {k : Nat} {sizes : List Int} (h : ∀ s ∈ sizes, 0 < s) : InR (drawL ns k sizes) sizes := by
  unfold drawL
  split
  · exact bigs_in _ _ h
  · exact smalls_in _ _ _ h
theorem cellAbs_nn {ns : List Int} {k : Nat} : 0 ≤ cellAbs ns k := by
  unfold cellAbs
  split <;> omega
theorem drop_get {α : Type} {xs : List α} {i : Nat} {x : α} (h : xs[i]? = some x) : xs.drop i = x :: xs.drop (i + 1) := by
  obtain ⟨l, e⟩ := List.getElem?_eq_some_iff.mp h
  rw [← e]
  exact List.drop_eq_getElem_cons l
theorem map_get {xs : List Int} {i : Nat} {d : D} (h : (xs.map PyData.int)[i]? = some d) : ∃ x, xs[i]? = some x ∧ d = .int x := by
  rw [List.getElem?_map] at h
  cases e : xs[i]? with
  | none => rw [e] at h; cases h
  | some x => rw [e] at h; exact ⟨x, rfl, (Option.some.inj h).symm⟩
theorem get_map {xs : List Int} {i : Nat} {x : Int} (h : xs[i]? = some x) : (xs.map PyData.int)[i]? = some (.int x) := by
  rw [List.getElem?_map, h]
  rfl
theorem eqv_dn (q : Int × Int) : PyData.eqv (dn q) (dn q) = true := SeqAt.eqv_refl (dn q) rfl
end MT

/-! Numbers as Lean's rationals. -/
namespace MT
open PySem L2 DL
def dq (q : Rat) : D := .tuple [.int q.num, .int q.den]
theorem nrm_rat {t b : Int} (h : b ≠ 0) : nrm t b = ((Rat.divInt t b).num, ((Rat.divInt t b).den : Int)) := by
  have pos : ∀ (t : Int) (n : Nat), n ≠ 0 → nrm t n = ((Rat.divInt t n).num, ((Rat.divInt t n).den : Int)) := fun t n hn => by
    rw [Rat.divInt_ofNat, Rat.num_mkRat, Rat.den_mkRat, if_neg hn, if_neg hn]
    unfold nrm
    rw [if_neg (by omega), Nat.gcd_comm t.natAbs, Int.natAbs_natCast, Int.natCast_ediv]
  by_cases c : b < 0
  · obtain ⟨n, rfl⟩ : ∃ n : Nat, b = -(n : Int) := ⟨b.natAbs, by omega⟩
    rw [← nrm_neg h, Int.neg_neg, pos (-t) n (by omega), Rat.divInt_neg']
  · obtain ⟨n, rfl⟩ : ∃ n : Nat, b = (n : Int) := ⟨b.natAbs, by omega⟩
    exact pos t n (by omega)
theorem dq_nrm {t b : Int} (h : b ≠ 0) : dn (nrm t b) = dq (Rat.divInt t b) := by
  rw [nrm_rat h]
  rfl
theorem dq_dn (q : Rat) : dq q = dn (q.num, (q.den : Int)) := rfl
theorem eqv_dq (q : Rat) : PyData.eqv (dq q) (dq q) = true := SeqAt.eqv_refl (dq q) rfl
theorem ne_dq {q r : Rat} (h : q = r) : (!PyData.eqv (dq q) (dq r)) = false := by
  rw [h, eqv_dq]
  rfl
theorem eqv_dq_iff (q r : Rat) : PyData.eqv (dq q) (dq r) = decide (q = r) := by
  by_cases h : q = r
  · rw [h, eqv_dq, decide_eq_true rfl]
  · rw [decide_eq_false h]
    have e : PyData.eqv (dq q) (dq r) = ((q.num == r.num) && (((q.den : Int) == (r.den : Int)) && true)) := by
      unfold dq
      simp only [PyData.eqv, PyData.eqvAll]
    rw [e]
    by_cases h1 : q.num = r.num
    · have h2 : q.den ≠ r.den := fun z => h (Rat.ext h1 z)
      have h3 : ((q.den : Int) == (r.den : Int)) = false := beq_eq_false_iff_ne.mpr (by omega)
      rw [h3, Bool.false_and, Bool.and_false]
    · rw [beq_eq_false_iff_ne.mpr h1, Bool.false_and]

/-! ### sizes -/
def Bq (n : Nat) (q : Rat) : Prop := q.num.natAbs < 2 ^ n ∧ q.den < 2 ^ n
theorem frac_le {t b : Int} (h : b ≠ 0) : (Rat.divInt t b).num.natAbs ≤ t.natAbs ∧ (Rat.divInt t b).den ≤ b.natAbs := by
  have h1 := nrm_top (t := t) h
  have h2 := nrm_bot (t := t) h
  rw [nrm_rat h] at h1 h2
  exact ⟨h1, by have := h2.2; omega⟩
theorem Bq.mono {n m : Nat} {q : Rat} (h : Bq n q) (l : n ≤ m) : Bq m q := ⟨Nat.lt_of_lt_of_le h.1 (Nat.pow_le_pow_right Nat.two_pos l), Nat.lt_of_lt_of_le h.2 (Nat.pow_le_pow_right Nat.two_pos l)⟩
theorem Bq.frac {n : Nat} {t b : Int} (h : b ≠ 0) (ht : t.natAbs < 2 ^ n) (hb : b.natAbs < 2 ^ n) : Bq n (Rat.divInt t b) := ⟨Nat.lt_of_le_of_lt (frac_le h).1 ht, Nat.lt_of_le_of_lt (frac_le h).2 hb⟩
theorem rat_add (a b : Rat) : a + b = Rat.divInt (a.num * b.den + b.num * a.den) (a.den * b.den) := by
  have h := Rat.divInt_add_divInt a.num b.num (d₁ := a.den) (d₂ := b.den) (by have := a.den_nz; omega) (by have := b.den_nz; omega)
  rw [Rat.num_divInt_den, Rat.num_divInt_den] at h
  exact h
theorem rat_sub (a b : Rat) : a - b = Rat.divInt (a.num * b.den - b.num * a.den) (a.den * b.den) := by
  have h := Rat.divInt_sub_divInt a.num b.num (d₁ := a.den) (d₂ := b.den) (by have := a.den_nz; omega) (by have := b.den_nz; omega)
  rw [Rat.num_divInt_den, Rat.num_divInt_den] at h
  exact h
theorem rat_mul (a b : Rat) : a * b = Rat.divInt (a.num * b.num) (a.den * b.den) := by
  have h := Rat.divInt_mul_divInt a.num b.num (d₁ := a.den) (d₂ := b.den)
  rw [Rat.num_divInt_den, Rat.num_divInt_den] at h
  exact h
theorem rat_div (a b : Rat) : a / b = Rat.divInt (a.num * b.den) (a.den * b.num) := by
  rw [Rat.div_def, Rat.inv_def]
  have h := Rat.divInt_mul_divInt a.num b.den (d₁ := a.den) (d₂ := b.num)
  rw [Rat.num_divInt_den] at h
  exact h
theorem den_ne (a : Rat) : (a.den : Int) ≠ 0 := by have := a.den_nz; omega
theorem dens_ne (a b : Rat) : (a.den : Int) * (b.den : Int) ≠ 0 := fun z => by
  rw [Int.mul_eq_zero] at z
  rcases z with z | z
  · exact den_ne a z
  · exact den_ne b z
theorem num_ne {b : Rat} (h : b ≠ 0) : b.num ≠ 0 := fun z => h (Rat.num_eq_zero.mp z)
theorem pow_lt {x y a b : Nat} (h1 : x < 2 ^ a) (h2 : y < 2 ^ b) : x * y < 2 ^ (a + b) := by
  rw [Nat.pow_add]
  exact Nat.mul_lt_mul'' h1 h2
theorem Bq.add {n m : Nat} {a b : Rat} (ha : Bq n a) (hb : Bq m b) : Bq (n + m + 1) (a + b) := by
  rw [rat_add]
  have h1 : (a.num * b.den).natAbs < 2 ^ (n + m) := by
    rw [Int.natAbs_mul]
    exact pow_lt ha.1 hb.2
  have h2 : (b.num * a.den).natAbs < 2 ^ (n + m) := by
    rw [Int.natAbs_mul, Nat.add_comm n m]
    exact pow_lt hb.1 ha.2
  refine .frac (dens_ne a b) ?_ ?_
  · rw [Nat.pow_succ]
    omega
  · rw [Int.natAbs_mul, Nat.pow_succ]
    have := pow_lt ha.2 hb.2
    show a.den * b.den < _
    omega
theorem Bq.sub {n m : Nat} {a b : Rat} (ha : Bq n a) (hb : Bq m b) : Bq (n + m + 1) (a - b) := by
  rw [rat_sub]
  have h1 : (a.num * b.den).natAbs < 2 ^ (n + m) := by
    rw [Int.natAbs_mul]
    exact pow_lt ha.1 hb.2
  have h2 : (b.num * a.den).natAbs < 2 ^ (n + m) := by
    rw [Int.natAbs_mul, Nat.add_comm n m]
    exact pow_lt hb.1 ha.2
  refine .frac (dens_ne a b) ?_ ?_
  · rw [Nat.pow_succ]
    omega
  · rw [Int.natAbs_mul, Nat.pow_succ]
    have := pow_lt ha.2 hb.2
    show a.den * b.den < _
    omega
theorem Bq.mul {n m : Nat} {a b : Rat} (ha : Bq n a) (hb : Bq m b) : Bq (n + m) (a * b) := by
  rw [rat_mul]
  refine .frac (dens_ne a b) ?_ ?_
  · rw [Int.natAbs_mul]
    exact pow_lt ha.1 hb.1
  · rw [Int.natAbs_mul]
    exact pow_lt ha.2 hb.2
theorem Bq.div {n m : Nat} {a b : Rat} (ha : Bq n a) (hb : Bq m b) (h : b ≠ 0) : Bq (n + m) (a / b) := by
  rw [rat_div]
  refine .frac (fun z => ?_) ?_ ?_
  · rw [Int.mul_eq_zero] at z
    rcases z with z | z
    · exact den_ne a z
    · exact num_ne h z
  · rw [Int.natAbs_mul]
    exact pow_lt ha.1 hb.2
  · rw [Int.natAbs_mul]
    exact pow_lt ha.2 hb.1
theorem Bq.mulOk1 {n m : Nat} {a b : Rat} (ha : Bq n a) (hb : Bq m b) (h : n + m ≤ 900000 := by omega) : MulOk a.num b.den := mul_ok (a := n + 1) (b := m + 1) (Nat.lt_of_lt_of_le ha.1 (Nat.pow_le_pow_right Nat.two_pos (by omega))) (Nat.lt_of_lt_of_le hb.2 (Nat.pow_le_pow_right Nat.two_pos (by omega))) (by omega) (by omega) (by omega)
theorem Bq.mulOkN {n m : Nat} {a b : Rat} (ha : Bq n a) (hb : Bq m b) (h : n + m ≤ 900000 := by omega) : MulOk a.num b.num := mul_ok (a := n + 1) (b := m + 1) (Nat.lt_of_lt_of_le ha.1 (Nat.pow_le_pow_right Nat.two_pos (by omega))) (Nat.lt_of_lt_of_le hb.1 (Nat.pow_le_pow_right Nat.two_pos (by omega))) (by omega) (by omega) (by omega)
theorem Bq.mulOkD {n m : Nat} {a b : Rat} (ha : Bq n a) (hb : Bq m b) (h : n + m ≤ 900000 := by omega) : MulOk a.den b.den := mul_ok (a := n + 1) (b := m + 1) (Nat.lt_of_lt_of_le ha.2 (Nat.pow_le_pow_right Nat.two_pos (by omega))) (Nat.lt_of_lt_of_le hb.2 (Nat.pow_le_pow_right Nat.two_pos (by omega))) (by omega) (by omega) (by omega)
theorem Bq.mulOk2 {n m : Nat} {a b : Rat} (ha : Bq n a) (hb : Bq m b) (h : n + m ≤ 900000 := by omega) : MulOk a.den b.num := mul_ok (a := n + 1) (b := m + 1) (Nat.lt_of_lt_of_le ha.2 (Nat.pow_le_pow_right Nat.two_pos (by omega))) (Nat.lt_of_lt_of_le hb.1 (Nat.pow_le_pow_right Nat.two_pos (by omega))) (by omega) (by omega) (by omega)
end MT

/-! Words for texts, lists, comprehensions. -/
namespace DL
open PySem PySem.Spec PyProof.Rows L2
section
variable {X : Cx} {W : WX} {F : DL.Fin} {G : Gam} {e a b c o : Expr} {es : List Expr} {d da db : D} {ds dt : List D} {pos pos' p apos : Pos} {x : Str} {i j : Int} {s t : Str}
/-! texts -/
theorem ev_addS (ha : EvD X a G (.str s)) (hb : EvD X b G (.str t)) (h : s.length + t.length ≤ sizeLine) : EvD X (.BinOp a .Add b pos) G (.str (s ++ t)) :=
  ev_op2 (pe_op op_add_str pe_w pe_w) ha hb fun S H x y e h1 h2 Q q => by
    cases h1
    cases h2
    exact ⟨s, t, rfl, rfl, h, q _ S H (Ext.refl e) (.str _)⟩
theorem scal_str : scal (.str s) (.str t) = true := rfl
theorem dec_str : decide (V.str s = V.str t) = decide (s = t) := by
  by_cases h : s = t
  · subst h
    rw [decide_eq_true rfl, decide_eq_true rfl]
  · rw [decide_eq_false h, decide_eq_false fun z => h (V.str.inj z)]
theorem rd_eqS {K : Fg} : RD K rEq (.str s) (.str t) (.bool (decide (s = t))) := fun S H x y e d1 d2 Q q => by
  cases d1
  cases d2
  refine ⟨rfl, ?_⟩
  rw [dec_str]
  exact q _ S H (Ext.refl e) (.bl _)
theorem rd_neS {K : Fg} : RD K rNe (.str s) (.str t) (.bool (!decide (s = t))) := fun S H x y e d1 d2 Q q => by
  cases d1
  cases d2
  refine ⟨rfl, ?_⟩
  rw [dec_str]
  exact q _ S H (Ext.refl e) (.bl _)
theorem et_eqS (ha : EvD X a G (.str s)) (hb : EvD X b G (.str t)) : EvT X (.Compare a [.Eq] [b] pos) G (decide (s = t)) := et_op2 (pt_cmpR op_eq pe_w pe_w (nomark _)) ha hb rd_eqS
theorem et_neS (ha : EvD X a G (.str s)) (hb : EvD X b G (.str t)) : EvT X (.Compare a [.NotEq] [b] pos) G (!decide (s = t)) := et_op2 (pt_cmpR op_ne pe_w pe_w (nomark _)) ha hb rd_neS
theorem ev_eqS (ha : EvD X a G (.str s)) (hb : EvD X b G (.str t)) : EvD X (.Compare a [.Eq] [b] pos) G (.bool (decide (s = t))) := ev_op2 (pe_cmpR op_eq pe_w pe_w (nomark _)) ha hb rd_eqS
/-- is None -/
def isNon : D → Bool
  | .none => true
  | _ => false
theorem dp_non {K : Fg} {S : Hp} {v : V} (h : Dp K S v d) : decide (v = .non) = isNon d := by
  cases h <;> rfl
theorem rd_isN {K : Fg} : RD K (fun x y H Q => y = .non ∧ Q (.bl (decide (x = .non))) H) d .none (.bool (isNon d)) := fun S H x y e d1 d2 Q q => by
  cases d2
  refine ⟨rfl, ?_⟩
  rw [dp_non d1]
  exact q _ S H (Ext.refl e) (.bl _)
theorem rd_notN {K : Fg} : RD K (fun x y H Q => y = .non ∧ Q (.bl (!decide (x = .non))) H) d .none (.bool (!isNon d)) := fun S H x y e d1 d2 Q q => by
  cases d2
  refine ⟨rfl, ?_⟩
  rw [dp_non d1]
  exact q _ S H (Ext.refl e) (.bl _)
theorem et_isN {k : Nat} {p2 : Pos} (ha : EvD X a G d) : EvT X (.Compare a [.Is] [.Constant .none k p2] pos) G (isNon d) := et_op2 (pt_cmpR op_isN pe_w pe_w (nomark _)) ha ev_non rd_isN
theorem et_notN {k : Nat} {p2 : Pos} (ha : EvD X a G d) : EvT X (.Compare a [.IsNot] [.Constant .none k p2] pos) G (!isNon d) := et_op2 (pt_cmpR op_notN pe_w pe_w (nomark _)) ha ev_non rd_notN
theorem ev_isN {k : Nat} {p2 : Pos} (ha : EvD X a G d) : EvD X (.Compare a [.Is] [.Constant .none k p2] pos) G (.bool (isNon d)) := ev_op2 (pe_cmpR op_isN pe_w pe_w (nomark _)) ha ev_non rd_isN
/-- bools as values -/
theorem ev_one {op : BoolOp} (h : EvD X a G d) : EvD X (.BoolOp op [a] pos) G d := fun H0 S H σ o i Q q => we (pe_one pe_w) (h H0 S H σ o i Q q)
theorem ev_andV {p q : Bool} (h : EvD X a G (.bool p)) (k : p = true → EvD X (.BoolOp .And (b :: es) pos) G (.bool q)) : EvD X (.BoolOp .And (a :: b :: es) pos) G (.bool (p && q)) := fun H0 S H σ o i Q w =>
  we (pe_and pe_w pe_w) (h H0 S H σ o i _ fun v S1 H1 x1 d1 => by
    cases d1
    refine ⟨p, rfl, ?_⟩
    cases p with
    | true =>
      rw [if_pos rfl]
      exact k rfl H0 S1 H1 σ (o.ext x1) x1.i Q fun v S2 H2 x2 => w v S2 H2 (x1.trans x2)
    | false =>
      rw [if_neg Bool.false_ne_true]
      exact w _ S1 H1 x1 (.bl _))
theorem ev_orV {p q : Bool} (h : EvD X a G (.bool p)) (k : p = false → EvD X (.BoolOp .Or (b :: es) pos) G (.bool q)) : EvD X (.BoolOp .Or (a :: b :: es) pos) G (.bool (p || q)) := fun H0 S H σ o i Q w =>
  we (pe_or pe_w pe_w) (h H0 S H σ o i _ fun v S1 H1 x1 d1 => by
    cases d1
    refine ⟨p, rfl, ?_⟩
    cases p with
    | true =>
      rw [if_pos rfl]
      exact w _ S1 H1 x1 (.bl _)
    | false =>
      rw [if_neg Bool.false_ne_true]
      exact k rfl H0 S1 H1 σ (o.ext x1) x1.i Q fun v S2 H2 x2 => w v S2 H2 (x1.trans x2))
/-- a text's truth -/
theorem et_truS (h : EvD X a G (.str s)) (hl : s.length ≤ sizeLine) (he : ∀ whole, isTrue a X.env whole = (do let v ← whole; standAt a.pos; holding [v] (truthy v)) := by intro _; rfl) : EvT X a G (((s.length : Nat) : Int) != 0) := fun H0 S H σ o i Q q =>
  wt (pt_truth pe_w he) (h H0 S H σ o i _ fun v S1 H1 x1 d1 => by
    cases d1
    exact ⟨((s.length : Nat) : Int) != 0, ⟨hl, rfl⟩, q S1 H1 x1⟩)
/-- a name of the module -/
theorem ev_glob {u : Value} (hm : X.mg x = some u) (v : V) (r : RelV v u) (hd : ∀ S, Dp X.K S v d) (hg : Gl X x := by rfl) (hdb : (x == ("__debug__" : Str)) = false := by decide) : EvD X (.Name x pos) G d := fun H0 S H σ o i Q q =>
  we (pe_glob hg hm r hdb) (q v S H (Ext.refl i) (hd S))
/-- x in a text, one sign -/
theorem rd_notInS {n : Nat} {K : Fg} : RD K (fun x y H Q => ∃ (c : Nat) (z : Str), x = .str ⟨#[c]⟩ ∧ y = .str z ∧ Q (.bl (!decide (c ∈ z.cps.toList))) H) (.str ⟨#[n]⟩) (.str t) (.bool (!decide (n ∈ t.cps.toList))) := fun S H x y e d1 d2 Q q => by
  cases d1
  cases d2
  exact ⟨n, t, rfl, rfl, q _ S H (Ext.refl e) (.bl _)⟩
theorem et_notInS {n : Nat} (ha : EvD X a G (.str ⟨#[n]⟩)) (hb : EvD X b G (.str t)) (hm : behindInMarks .NotIn b = false := by rfl) : EvT X (.Compare a [.NotIn] [b] pos) G (!decide (n ∈ t.cps.toList)) := et_op2 (pt_cmpR op_notIn_sign pe_w pe_w hm) ha hb rd_notInS
theorem ev_ixS {k : Int} {n : Nat} (ha : EvD X a G (.str s)) (hb : EvD X b G (.int k)) (h : atI s.cps.toList k = some n) (hl : s.length ≤ sizeLine) (hs : PlainIx b := by exact fun _ _ => rfl) : EvD X (.Subscript a b pos) G (.str ⟨#[n]⟩) :=
  ev_op2 (pe_ix ix_str pe_w pe_w hs) ha hb fun S H x y e d1 d2 Q q => by
    cases d1
    cases d2
    exact ⟨s, k, n, rfl, rfl, hl, h, q _ S H (Ext.refl e) (.str _)⟩
/-! calls by values -/
theorem ev_lenS (hm : X.mg "len" = none) (ha : EvD X a G (.str s)) (hl : s.length ≤ sizeLine) (hg : Gl X "len" := by rfl)
    (he : starEach [a] X.env = (false, eval a X.env) :: starEach [] X.env := by first | exact sk_name | exact sk_const | exact sk_sub | exact sk_bin | exact sk_call | exact sk_tup | exact sk_lst | exact sk_cmp | exact sk_lc | exact sk_un | exact sk_bool | exact sk_attr | exact sk_if | rfl) (hpl : (backTo pos (starEach [] X.env)).any (·.1) = false := by rfl) : EvD X (.Call (.Name "len" p) [a] [] pos) G (.int (s.length : Nat)) :=
  ev_cb (pe_callB call_len_str hg hm PySem.boot_len pa_w (by decide) (by decide) he hpl) (ea_cons ha ea_nil he) fun S H vs e d1 Q q => by
    cases d1 with
    | cons d1 d2 =>
      cases d2
      cases d1
      exact ⟨s, rfl, hl, q _ S H (Ext.refl e) (.int _)⟩
theorem ev_abs (hm : X.mg "abs" = none) (ha : EvD X a G (.int i)) (hg : Gl X "abs" := by rfl)
    (he : starEach [a] X.env = (false, eval a X.env) :: starEach [] X.env := by first | exact sk_name | exact sk_const | exact sk_sub | exact sk_bin | exact sk_call | exact sk_tup | exact sk_lst | exact sk_cmp | exact sk_lc | exact sk_un | exact sk_bool | exact sk_attr | exact sk_if | rfl) (hpl : (backTo pos (starEach [] X.env)).any (·.1) = false := by rfl) : EvD X (.Call (.Name "abs" p) [a] [] pos) G (.int (if i < 0 then -i else i)) :=
  ev_cb (pe_callB call_abs hg hm (by decide +kernel) pa_w (by decide) (by decide) he hpl) (ea_cons ha ea_nil he) fun S H vs e d1 Q q => by
    cases d1 with
    | cons d1 d2 =>
      cases d2
      cases d1
      exact ⟨i, rfl, q _ S H (Ext.refl e) (.int _)⟩
theorem ev_strI (hm : X.mg "str" = none) (ha : EvD X a G (.int i)) (hl : i.natAbs.log2 < 1920) (hg : Gl X "str" := by rfl)
    (he : starEach [a] X.env = (false, eval a X.env) :: starEach [] X.env := by first | exact sk_name | exact sk_const | exact sk_sub | exact sk_bin | exact sk_call | exact sk_tup | exact sk_lst | exact sk_cmp | exact sk_lc | exact sk_un | exact sk_bool | exact sk_attr | exact sk_if | rfl) (hpl : (backTo pos (starEach [] X.env)).any (·.1) = false := by rfl) : EvD X (.Call (.Name "str" p) [a] [] pos) G (.str (Str.ofString (toString i))) :=
  ev_cb (pe_callTy call_str_int hg hm (by decide +kernel) pa_w (by decide) (by decide) he hpl) (ea_cons ha ea_nil he) fun S H vs e d1 Q q => by
    cases d1 with
    | cons d1 d2 =>
      cases d2
      cases d1
      exact ⟨i, rfl, hl, q _ S H (Ext.refl e) (.str _)⟩
theorem ev_intS (hm : X.mg "int" = none) (ha : EvD X a G (.str s)) (hi : PySem.intText? s = some i) (hl : s.length ≤ 640) (hg : Gl X "int" := by rfl)
    (he : starEach [a] X.env = (false, eval a X.env) :: starEach [] X.env := by first | exact sk_name | exact sk_const | exact sk_sub | exact sk_bin | exact sk_call | exact sk_tup | exact sk_lst | exact sk_cmp | exact sk_lc | exact sk_un | exact sk_bool | exact sk_attr | exact sk_if | rfl) (hpl : (backTo pos (starEach [] X.env)).any (·.1) = false := by rfl) : EvD X (.Call (.Name "int" p) [a] [] pos) G (.int i) :=
  ev_cb (pe_callTy call_int_str hg hm (by decide +kernel) pa_w (by decide) (by decide) he hpl) (ea_cons ha ea_nil he) fun S H vs e d1 Q q => by
    cases d1 with
    | cons d1 d2 =>
      cases d2
      cases d1
      exact ⟨s, i, rfl, hi, hl, q _ S H (Ext.refl e) (.int _)⟩
/-! methods of texts -/
theorem ev_m0 {id : String} {name : Str} {r : V → List V → Hp → VK → Prop} (slot : Slot "str" name id) (ty : typeOf (.builtin id) = pure (.type "method_descriptor")) (rule : MtR X id r) (ho : EvD X o G (.str s))
    (hr : ∀ (S H : Hp), Ex S H → ∀ Q : VK, (∀ v S' H', Ext S H S' H' → Dp X.K S' v d → Q v H') → r (.str s) [] H Q)
    (hbase : attributeBase o name X.env (eval o X.env) = eval o X.env := by rfl) (hline : (apos.endLine == pos.line) = true := by rfl) : EvD X (.Call (.Attribute o name apos) [] [] pos) G d := fun H0 S H σ oo i Q q =>
  we (pe_m0 slot ty rule pe_w hbase hline) (ho H0 S H σ oo i _ fun v S1 H1 x1 d1 => by
    cases d1
    exact ⟨⟨s, rfl⟩, hr S1 H1 x1.i Q fun v S2 H2 x2 => q v S2 H2 (x1.trans x2)⟩)
theorem ev_m1 {id : String} {name : Str} {r : V → List V → Hp → VK → Prop} (slot : Slot "str" name id) (ty : typeOf (.builtin id) = pure (.type "method_descriptor")) (rule : MtR X id r) (ho : EvD X o G (.str s)) (he : EvD X e G da)
    (hr : ∀ (S H : Hp) (v : V), Ex S H → Dp X.K S v da → ∀ Q : VK, (∀ v S' H', Ext S H S' H' → Dp X.K S' v d → Q v H') → r (.str s) [v] H Q)
    (hs : starEach [e] X.env = [(false, eval e X.env)] := by first | exact sk_name | exact sk_const | exact sk_sub | exact sk_bin | exact sk_call | exact sk_tup | exact sk_lst | exact sk_cmp | exact sk_lc | exact sk_un | exact sk_bool | exact sk_attr | exact sk_if | rfl) (hbase : attributeBase o name X.env (eval o X.env) = eval o X.env := by rfl) (hline : (apos.endLine == pos.line) = true := by rfl) : EvD X (.Call (.Attribute o name apos) [e] [] pos) G d := fun H0 S H σ oo i Q q =>
  we (pe_m1 slot ty rule pe_w pe_w hs hbase hline) (ho H0 S H σ oo i _ fun v S1 H1 x1 d1 => by
    cases d1
    exact ⟨⟨s, rfl⟩, he H0 S1 H1 σ (oo.ext x1) x1.i _ fun v S2 H2 x2 d2 => hr S2 H2 v x2.i d2 Q fun v S3 H3 x3 => q v S3 H3 ((x1.trans x2).trans x3)⟩)
theorem ev_removeprefix (ho : EvD X o G (.str s)) (he : EvD X e G (.str t)) (hl : s.length ≤ sizeLine) (hs : starEach [e] X.env = [(false, eval e X.env)] := by first | exact sk_name | exact sk_const | exact sk_sub | exact sk_bin | exact sk_call | exact sk_tup | exact sk_lst | exact sk_cmp | exact sk_lc | exact sk_un | exact sk_bool | exact sk_attr | exact sk_if | rfl) (hbase : attributeBase o "removeprefix" X.env (eval o X.env) = eval o X.env := by rfl)
    (hline : (apos.endLine == pos.line) = true := by rfl) : EvD X (.Call (.Attribute o "removeprefix" apos) [e] [] pos) G (.str (Txt.removeprefix s t)) :=
  ev_m1 PySem.F.slot_str_removeprefix PySem.F.type_str_removeprefix mt_removeprefix ho he (fun S H v e d1 Q q => by
    cases d1
    exact ⟨s, t, rfl, rfl, hl, q _ S H (Ext.refl e) (.str _)⟩) hs hbase hline
theorem ev_startswith (ho : EvD X o G (.str s)) (he : EvD X e G (.str t)) (hs : starEach [e] X.env = [(false, eval e X.env)] := by first | exact sk_name | exact sk_const | exact sk_sub | exact sk_bin | exact sk_call | exact sk_tup | exact sk_lst | exact sk_cmp | exact sk_lc | exact sk_un | exact sk_bool | exact sk_attr | exact sk_if | rfl) (hbase : attributeBase o "startswith" X.env (eval o X.env) = eval o X.env := by rfl)
    (hline : (apos.endLine == pos.line) = true := by rfl) : EvD X (.Call (.Attribute o "startswith" apos) [e] [] pos) G (.bool (Txt.startswith s t)) :=
  ev_m1 PySem.F.slot_str_startswith PySem.F.type_str_startswith mt_startswith ho he (fun S H v e d1 Q q => by
    cases d1
    exact ⟨s, t, rfl, rfl, q _ S H (Ext.refl e) (.bl _)⟩) hs hbase hline
theorem ev_isdecimal (ho : EvD X o G (.str s)) (hbase : attributeBase o "isdecimal" X.env (eval o X.env) = eval o X.env := by rfl)
    (hline : (apos.endLine == pos.line) = true := by rfl) : EvD X (.Call (.Attribute o "isdecimal" apos) [] [] pos) G (.bool (Txt.isdecimal s)) :=
  ev_m0 PySem.F.slot_str_isdecimal PySem.F.type_str_isdecimal mt_isdecimal ho (fun S H e Q q => ⟨s, rfl, rfl, trivial, q _ S H (Ext.refl e) (.bl _)⟩) hbase hline
theorem dpAll_strs {K : Fg} {H : Hp} : ∀ ns : List Str, DpAll K H (ns.map V.str) (ns.map PyData.str)
  | [] => .nil
  | n :: ns => .cons (.str n) (dpAll_strs ns)
theorem dpAll_strs' {K : Fg} {H : Hp} : ∀ {ns : List Str} {vs : List V}, DpAll K H vs (ns.map PyData.str) → vs = ns.map V.str
  | [], _, h => by cases h; rfl
  | n :: ns, _, h => by
    cases h with
    | cons h1 h2 =>
      cases h1
      rw [dpAll_strs' h2]
      rfl
/-- s.split(t): a new list -/
theorem en_split (ho : EvD X o G (.str s)) (he : EvD X e G (.str t)) (ht : (t.length == 0) = false) (hl : s.length + 2 ≤ sizeLine) (hs : starEach [e] X.env = [(false, eval e X.env)] := by first | exact sk_name | exact sk_const | exact sk_sub | exact sk_bin | exact sk_call | exact sk_tup | exact sk_lst | exact sk_cmp | exact sk_lc | exact sk_un | exact sk_bool | exact sk_attr | exact sk_if | rfl) (hbase : attributeBase o "split" X.env (eval o X.env) = eval o X.env := by rfl)
    (hline : (apos.endLine == pos.line) = true := by rfl) : EvN X (.Call (.Attribute o "split" apos) [e] [] pos) G ((Txt.split s t).map .str) := fun H0 S H σ oo i Q q =>
  we (pe_split pe_w pe_w hs hbase hline) (ho H0 S H σ oo i _ fun v S1 H1 x1 d1 => by
    cases d1
    exact ⟨⟨s, rfl⟩, he H0 S1 H1 σ (oo.ext x1) x1.i _ fun v S2 H2 x2 d2 => by
      cases d2
      have x3 := x1.trans x2
      exact ⟨s, t, rfl, rfl, ht, hl, fun p hp => q p _ _ _ (x3.own (x3.h.none hp) (x3.i.none hp)) (x3.h.none hp) (x3.i.none hp) upd_same (dpAll_strs _)⟩⟩)
/-- s.join(a list of texts) -/
theorem ev_join {ys : List Str} (ho : EvD X o G (.str s)) (he : EvD X e G (.list (ys.map .str))) (hz : (ys.map (·.length)).sum + ys.length * s.length ≤ 16777216) (hs : starEach [e] X.env = [(false, eval e X.env)] := by first | exact sk_name | exact sk_const | exact sk_sub | exact sk_bin | exact sk_call | exact sk_tup | exact sk_lst | exact sk_cmp | exact sk_lc | exact sk_un | exact sk_bool | exact sk_attr | exact sk_if | rfl)
    (hbase : attributeBase o "join" X.env (eval o X.env) = eval o X.env := by rfl) (hline : (apos.endLine == pos.line) = true := by rfl) : EvD X (.Call (.Attribute o "join" apos) [e] [] pos) G (.str (Txt.join s ys)) := fun H0 S H σ oo i Q q =>
  we (pe_join pe_w pe_w hs hbase hline) (ho H0 S H σ oo i _ fun v S1 H1 x1 d1 => by
    cases d1
    exact ⟨⟨s, rfl⟩, he H0 S1 H1 σ (oo.ext x1) x1.i _ fun v S2 H2 x2 d2 => by
      cases d2 with
      | lst hq ha =>
        rename_i ad vs
        have ev := dpAll_strs' ha
        subst ev
        exact ⟨s, ad, ys, rfl, rfl, .inl (x2.i.sqL hq), hz, q _ S2 H2 (x1.trans x2) (.str _)⟩⟩)
end

/-! ### slices -/
section
variable {X : Cx} {W : WX} {F : DL.Fin} {G : Gam} {e a b c o : Expr} {lo hi : Option Expr} {d da db : D} {ds dt : List D} {pos pos' p p2 apos : Pos} {x : Str} {i j : Int} {s t : Str} {l u : Option Int}
def WO (X : Cx) (e : Option Expr) : TO := match e with | none => tNoPart | some e => tPart (DL.WE X e)
theorem po_w {e : Option Expr} : PO X e (WO X e) := by
  cases e with
  | none => exact po_none
  | some e => exact po_some pe_w
/-- a bound of a slice -/
def EvO (X : Cx) (e : Option Expr) (G : Gam) (l : Option Int) : Prop := ∀ (H0 S H : Hp) (σ : L2.St), Hol X.K H0 S H σ G → Ex S H → ∀ Q : Option Int → Hp → Prop, (∀ S' H', Ext S H S' H' → Q l H') → WO X e σ H Q
theorem eo_none : EvO X none G none := fun H0 S H σ o i Q q => q S H (Ext.refl i)
theorem eo_some (h : EvD X e G (.int i)) : EvO X (some e) G (some i) := fun H0 S H σ o ii Q q => h H0 S H σ o ii _ fun v S1 H1 x1 d1 => by
  cases d1
  exact ⟨i, rfl, q S1 H1 x1⟩
theorem ev_slS (ha : EvD X a G (.str s)) (h1 : EvO X lo G l) (h2 : EvO X hi G u) (hl : s.length ≤ sizeLine) : EvD X (.Subscript a (.Slice lo hi none p2) pos) G (.str (cutS s l u)) := fun H0 S H σ o i Q q =>
  we (pe_slice sl_str pe_w po_w po_w) (ha H0 S H σ o i _ fun v S1 H1 x1 d1 => h1 H0 S1 H1 σ (o.ext x1) x1.i _ fun S2 H2 x2 => h2 H0 S2 H2 σ ((o.ext x1).ext x2) x2.i _ fun S3 H3 x3 => by
    cases d1
    exact ⟨s, rfl, hl, q _ S3 H3 ((x1.trans x2).trans x3) (.str _)⟩)
def cutD (xs : List D) (lo hi : Option Int) : List D := (xs.drop (HT.sIx xs.length 0 lo)).take (HT.sIx xs.length xs.length hi - HT.sIx xs.length 0 lo)
theorem DpAll.dropD {K : Fg} {S : Hp} : ∀ {vs : List V} {ds : List D} (n : Nat), DpAll K S vs ds → DpAll K S (vs.drop n) (ds.drop n)
  | _, _, 0, h => h
  | _, [], n + 1, h => by cases h; exact .nil
  | _, d :: ds, n + 1, h => by
    cases h with
    | cons h1 h2 => exact DpAll.dropD n h2
theorem DpAll.takeD {K : Fg} {S : Hp} : ∀ {vs : List V} {ds : List D} (n : Nat), DpAll K S vs ds → DpAll K S (vs.take n) (ds.take n)
  | _, _, 0, h => .nil
  | _, [], n + 1, h => by cases h; exact .nil
  | _, d :: ds, n + 1, h => by
    cases h with
    | cons h1 h2 => exact .cons h1 (DpAll.takeD n h2)
/-- a list's slice: a new list -/
theorem en_slL (ha : EvD X a G (.list ds)) (h1 : EvO X lo G l) (h2 : EvO X hi G u) : EvN X (.Subscript a (.Slice lo hi none p2) pos) G (cutD ds l u) := fun H0 S H σ o i Q q =>
  we (pe_slice sl_list pe_w po_w po_w) (ha H0 S H σ o i _ fun v S1 H1 x1 d1 => h1 H0 S1 H1 σ (o.ext x1) x1.i _ fun S2 H2 x2 => h2 H0 S2 H2 σ ((o.ext x1).ext x2) x2.i _ fun S3 H3 x3 => by
    cases d1 with
    | lst hq hA =>
      rename_i ad vs
      have x4 := (x1.trans x2).trans x3
      have hl := DpAll.len hA
      refine ⟨ad, vs, rfl, x3.i.sqL (x3.s.sqL (x2.s.sqL hq)), fun p hp => q p _ _ _ (x4.own (x4.h.none hp) (x4.i.none hp)) (x4.h.none hp) (x4.i.none hp) upd_same ?_⟩
      unfold cutV cutD
      rw [hl]
      exact DpAll.takeD _ (DpAll.dropD _ (x3.s.dpAll (x2.s.dpAll hA))))
/-! ### lists put together -/
theorem en_cat (ha : EvN X a G ds) (hb : EvN X b G dt) (hl : ds.length + dt.length ≤ sizeLine) : EvN X (.BinOp a .Add b pos) G (ds ++ dt) := fun H0 S H σ o i Q q =>
  we (pe_op op_cat pe_w pe_w) (ha H0 S H σ o i _ fun p1 vs S1 H1 x1 n1 s1 h1 d1 => hb H0 S1 H1 σ (o.ext x1) x1.i _ fun p2 ws S2 H2 x2 n2 s2 h2 d2 => by
    have x3 := x1.trans x2
    refine ⟨p1, p2, vs, ws, rfl, rfl, x2.h _ _ h1, h2, by rw [DpAll.len d1, DpAll.len d2]; exact hl, fun p hp => q p _ _ _ (x3.own (x3.h.none hp) (x3.i.none hp)) (x3.h.none hp) (x3.i.none hp) upd_same (DpAll.app d2 (x2.s.dpAll d1))⟩)
theorem DpAll.rep {K : Fg} {S : Hp} {vs : List V} {ds : List D} (h : DpAll K S vs ds) : ∀ n : Nat, DpAll K S (List.replicate n vs).flatten (List.replicate n ds).flatten
  | 0 => .nil
  | n + 1 => by
    rw [List.replicate_succ, List.replicate_succ, List.flatten_cons, List.flatten_cons]
    exact DpAll.app (DpAll.rep h n) h
end
end DL

namespace DL
open PySem PySem.Spec PyProof.Rows L2
section
variable {X : Cx} {W : WX} {F : DL.Fin} {G : Gam} {e a b c o : Expr} {es : List Expr} {d da db dc : D} {ds dt : List D} {pos pos' p p2 px py pz apos : Pos} {x y z : Str} {i j : Int} {body : List Stmt}
theorem en_rep {k : Int} (ha : EvN X a G ds) (hb : EvD X b G (.int k)) (hk : 0 ≤ k ∧ k < 2 ^ 63) (hl : ds.length * k.toNat ≤ sizeLine) : EvN X (.BinOp a .Mult b pos) G (List.replicate k.toNat ds).flatten := fun H0 S H σ o i Q q =>
  we (pe_op op_rep pe_w pe_w) (ha H0 S H σ o i _ fun p1 vs S1 H1 x1 n1 s1 h1 d1 => hb H0 S1 H1 σ (o.ext x1) x1.i _ fun v S2 H2 x2 d2 => by
    cases d2
    have x3 := x1.trans x2
    refine ⟨p1, k, vs, rfl, rfl, x2.h _ _ h1, by omega, hk.2, by rw [DpAll.len d1]; exact hl, fun p hp => q p _ _ _ (x3.own (x3.h.none hp) (x3.i.none hp)) (x3.h.none hp) (x3.i.none hp) upd_same (DpAll.rep (x2.s.dpAll d1) _)⟩)
/-- x, y = a tuple of two -/
theorem gs_unpack2 {kt : Nat} (i j : Nat) (he : EvD X e G (.tuple [da, db])) (k : F.nx ((G.set i (.im da)).set j (.im db))) (hi : X.N[i]? = some x := by rfl) (hj : X.N[j]? = some y := by rfl) (hN : X.N.Nodup := by assumption) (hc : X.calm = true := by rfl)
    (hx : Loc X.env.scope x := by first | exact Or.inl rfl | exact Or.inr rfl) (hy : Loc X.env.scope y := by first | exact Or.inl rfl | exact Or.inr rfl)
    (hf : X.fn x = true ∨ X.env.scope.names.lookup x = some .local := by first | exact .inl rfl | exact .inr rfl | assumption) (hf2 : X.fn y = true ∨ X.env.scope.names.lookup y = some .local := by first | exact .inl rfl | exact .inr rfl | assumption)
    (hn : (assignEach [.Name x px, .Name y py] X.env).length = 2 := by rfl) (hst : (assignEach [.Name x px, .Name y py] X.env).findIdx? (·.1) = none := by rfl)
    (hg1 : (assignEach [.Name x px, .Name y py] X.env).map (·.2) = assign (.Name x px) X.env :: (assignEach [.Name y py] X.env).map (·.2) := by rfl) (hg2 : (assignEach [.Name y py] X.env).map (·.2) = assign (.Name y py) X.env :: (assignEach [] X.env).map (·.2) := by rfl)
    (hs : swapsWithSole [.Tuple [.Name x px, .Name y py] kt p2] e pos.line X.env = pure false := by rfl) (hw : swappedStores [.Tuple [.Name x px, .Name y py] kt p2] e X.env = pure none := by rfl)
    (h1 : (assignEach [.Tuple [.Name x px, .Name y py] kt p2] X.env).map (·.2) = [assign (.Tuple [.Name x px, .Name y py] kt p2) X.env] := by rfl) :
    GS X W (.Assign [.Tuple [.Name x px, .Name y py] kt p2] e pos) F G := fun S0 H0 S H σ E xx o m =>
  ws (ps_asg pe_w (pg_tup hc (pgs_cons (pg_name hN hi hx hf) (pgs_cons (pg_name hN hj hy hf2) pgs_nil hg2) hg1) hn hst) hs hw h1) (he H0 S H σ o xx.i _ fun v S1 H1 x1 d1 => by
    cases d1 with
    | tup hq hA =>
      cases hA with
      | cons d1 d2 =>
        cases d2 with
        | cons d2 d3 =>
          cases d3
          exact ⟨_, _, rfl, x1.i.sqT hq.t, rfl, _, _, rfl, _, _, rfl, rfl, m.nx _ S1 H1 _ (xx.trans x1) (((o.ext x1).set_im d1).set_im d2) k⟩)
theorem gs_unpack3 {kt : Nat} (i j l : Nat) (he : EvD X e G (.tuple [da, db, dc])) (k : F.nx (((G.set i (.im da)).set j (.im db)).set l (.im dc))) (hi : X.N[i]? = some x := by rfl) (hj : X.N[j]? = some y := by rfl) (hl : X.N[l]? = some z := by rfl) (hN : X.N.Nodup := by assumption) (hc : X.calm = true := by rfl)
    (hx : Loc X.env.scope x := by first | exact Or.inl rfl | exact Or.inr rfl) (hy : Loc X.env.scope y := by first | exact Or.inl rfl | exact Or.inr rfl) (hz : Loc X.env.scope z := by first | exact Or.inl rfl | exact Or.inr rfl)
    (hf : X.fn x = true ∨ X.env.scope.names.lookup x = some .local := by first | exact .inl rfl | exact .inr rfl | assumption) (hf2 : X.fn y = true ∨ X.env.scope.names.lookup y = some .local := by first | exact .inl rfl | exact .inr rfl | assumption) (hf3 : X.fn z = true ∨ X.env.scope.names.lookup z = some .local := by first | exact .inl rfl | exact .inr rfl | assumption)
    (hn : (assignEach [.Name x px, .Name y py, .Name z pz] X.env).length = 3 := by rfl) (hst : (assignEach [.Name x px, .Name y py, .Name z pz] X.env).findIdx? (·.1) = none := by rfl)
    (hg1 : (assignEach [.Name x px, .Name y py, .Name z pz] X.env).map (·.2) = assign (.Name x px) X.env :: (assignEach [.Name y py, .Name z pz] X.env).map (·.2) := by rfl) (hg2 : (assignEach [.Name y py, .Name z pz] X.env).map (·.2) = assign (.Name y py) X.env :: (assignEach [.Name z pz] X.env).map (·.2) := by rfl)
    (hg3 : (assignEach [.Name z pz] X.env).map (·.2) = assign (.Name z pz) X.env :: (assignEach [] X.env).map (·.2) := by rfl)
    (hs : swapsWithSole [.Tuple [.Name x px, .Name y py, .Name z pz] kt p2] e pos.line X.env = pure false := by rfl) (hw : swappedStores [.Tuple [.Name x px, .Name y py, .Name z pz] kt p2] e X.env = pure none := by rfl)
    (h1 : (assignEach [.Tuple [.Name x px, .Name y py, .Name z pz] kt p2] X.env).map (·.2) = [assign (.Tuple [.Name x px, .Name y py, .Name z pz] kt p2) X.env] := by rfl) :
    GS X W (.Assign [.Tuple [.Name x px, .Name y py, .Name z pz] kt p2] e pos) F G := fun S0 H0 S H σ E xx o m =>
  ws (ps_asg pe_w (pg_tup hc (pgs_cons (pg_name hN hi hx hf) (pgs_cons (pg_name hN hj hy hf2) (pgs_cons (pg_name hN hl hz hf3) pgs_nil hg3) hg2) hg1) hn hst) hs hw h1) (he H0 S H σ o xx.i _ fun v S1 H1 x1 d1 => by
    cases d1 with
    | tup hq hA =>
      cases hA with
      | cons d1 d2 =>
        cases d2 with
        | cons d2 d3 =>
          cases d3 with
          | cons d3 d4 =>
            cases d4
            exact ⟨_, _, rfl, x1.i.sqT hq.t, rfl, _, _, rfl, _, _, rfl, _, _, rfl, rfl, m.nx _ S1 H1 _ (xx.trans x1) ((((o.ext x1).set_im d1).set_im d2).set_im d3) k⟩)
/-- for x in a text, sign by sign -/
theorem gs_forS {s : Str} {np : Pos} (j : Nat) (I : Nat → Gam → Prop) (he : EvD X e G (.str s)) (h0 : I 0 G)
    (hs : ∀ (i : Nat) (c : Nat) (G' : Gam), s.cps.toList[i]? = some c → I i G' → GSs X W body (F.turn (I (i + 1))) (G'.set j (.im (.str ⟨#[c]⟩))))
    (hd : ∀ G', I s.cps.toList.length G' → F.nx G') (hp : PassesOwn (model X.prog X.w) X.A X.env X.xe) (hj : X.N[j]? = some x := by rfl) (hN : X.N.Nodup := by assumption) (hc : X.calm = true := by rfl)
    (hx : Loc X.env.scope x := by first | exact Or.inl rfl | exact Or.inr rfl) (hf : X.fn x = true ∨ X.env.scope.names.lookup x = some .local := by first | exact .inl rfl | exact .inr rfl | assumption)
    (hst : ∀ x, foldedSetIterable e X.env x = pure x := by intro _; rfl) : GS X W (.For (.Name x np) e body [] pos) F G := fun S0 H0 S H σ E zz o m => by
  refine ws (ps_for hp hc (pi_str pe_w) (pg_name hN hj hx hf) pss_w hst) (he H0 S H σ o zz.i _ fun v S1 H1 x1 d1 => ?_)
  cases d1
  have z1 := zz.trans x1
  have mb := m.bed z1
  refine ⟨s, rfl, fun i n σ' H' => n = s.cps.size - i ∧ i ≤ s.cps.size ∧ Lp X.K S1 (bed S1 H0) (I i) σ' H', ⟨s.cps.size, by simp, Nat.zero_le _, S1, G, z1.bed, (o.ext x1).bed, h0⟩, ?_⟩
  rintro i n σ' H' ⟨rfl, hi, S', G', y, o', k⟩
  by_cases hlt : i < s.cps.size
  · refine .inr ⟨hlt, Lp X.K S1 (bed S1 H0) (I (i + 1)), fun σ2 H2 p' => ⟨s.cps.size - (i + 1), by omega, rfl, hlt, p'⟩, fun v H' yy => ?_⟩
    obtain ⟨rfl, c, hcc, rfl⟩ := yy
    exact hs i c G' (by simpa using hcc) k S1 (bed S1 H0) S' H' _ _ y (o'.set_im (.str _)) (mb.turn fun _ _ q => q)
  · have e0 : i = s.cps.toList.length := by simp; omega
    subst e0
    exact .inl ⟨by show s.cps.size ≤ _; simp, mb.nx σ' S' H' G' y o' (hd G' k)⟩
end

/-! ### comprehensions -/
section
variable {X : Cx} {G : Gam} {it elt : Expr} {x : Str} {np pos : Pos} {scope : Scope} {ds rs : List D}
/-- a turn's heap: what is made so far stands at L -/
def Lcw (K : Fg) (S1 H1 : Hp) (L : Addr) (rs : List D) (H : Hp) : Prop := ∃ S acc, Ext S1 H1 S H ∧ S L = none ∧ H L = some (.lst acc) ∧ DpAll K S acc rs
theorem en_lc (j : Nat) (he : EvD X it G (.list ds)) (hlen : rs.length = ds.length) (hel : ∀ (s : Shared) (H : Hp) (C : Addr) (cl : List (Str × Addr)) (fp : List Addr) (i : Nat) (d r : D), ds[i]? = some d → rs[i]? = some r →
      EvD (X.blk s H scope (compEnvC scope cl C X.env) fp) elt ((G.set j .no).set j (.im d)) r) (hz : ds.length < sizeLine) (hN : X.N.Nodup := by assumption) (hc : X.calm = true := by rfl)
    (ok : BlkOk X.N X.env.scope scope [(x, j)] := by exact blkOk_by (by decide +kernel))
    (hg : ∀ (s : Shared) (H : Hp) (C : Addr) (cl : List (Str × Addr)) (fp : List Addr), PG (X.blk s H scope (compEnvC scope cl C X.env) fp) (.Name x np) (gName j) := by exact fun _ _ _ _ _ => pg_name (by assumption) rfl (Or.inl rfl))
    (hs : ∀ x, foldedSetIterable it X.env x = pure x := by intro _; rfl) : EvN X (.ListComp elt [⟨.Name x np, it, [], 0⟩] scope pos) G rs := fun H0 S H σ o i Q q => by
  refine we (pe_lc (own := [(x, j)]) (g := gName j) (tt := tYes) (te := fun σ H Q => ∀ (s : Shared) (H0 : Hp) (C : Addr) (cl : List (Str × Addr)) (fp : List Addr), DL.WE (X.blk s H0 scope (compEnvC scope cl C X.env) fp) elt σ H Q) hc hN (pi_list pe_w) ok hg (fun _ _ _ _ _ => pts_nil)
    (fun s H0 C cl fp => ⟨fun pins s1 σ H Q I h => h s H0 C cl fp pins s1 I⟩) hs) (he H0 S H σ o i _ fun v S1 H1 x1 d1 => ?_)
  cases d1 with
  | lst hq ha =>
    rename_i ad vs
    have hvl := DpAll.len ha
    refine ⟨ad, rfl, ⟨vs, x1.i.sqL hq⟩, fun L hL => lc_list (K := X.K) (a := ad) (xs := vs) (g := gName j) (tt := tYes) (te := fun σ H Q => ∀ (s : Shared) (H0 : Hp) (C : Addr) (cl : List (Str × Addr)) (fp : List Addr), DL.WE (X.blk s H0 scope (compEnvC scope cl C X.env) fp) elt σ H Q) (vs := [j]) (σ := σ) (H1 := H1) (D := L) (Qd := fun H => Q (.ref L) H) (fun i H' => Lcw X.K S1 H1 L (rs.take i) H') ⟨S1, [], (Ext.refl x1.i).own hL (x1.i.none hL), x1.i.none hL, upd_same, .nil⟩ ?_ ?_ ?_⟩
    · rintro i H' _ ⟨S', acc, y, _, _, _⟩
      exact y.i.sqL (y.s.sqL hq)
    · rintro i v H' hv ⟨S', acc, y, n1, h1, d1⟩
      obtain ⟨dd, g1, g2⟩ := DpAll.getV ha hv
      have il : i < rs.length := by
        have := (List.getElem?_eq_some_iff.mp hv).1
        omega
      have g3 : rs[i]? = some rs[i] := List.getElem?_eq_getElem il
      have ho : Hol X.K H0 S' H' ((wipe σ [j]).set j (some v)) ((G.set j .no).set j (.im dd)) := (((o.ext x1).ext y).set_no (x := none)).set_im (y.s.dp g2)
      refine ⟨by show (List.set (List.set (List.set σ j none) j (some v)) j none) = List.set σ j none; rw [List.set_set, List.set_set], ?_⟩
      show (if true = true then (∀ (s : Shared) (H0 : Hp) (C : Addr) (cl : List (Str × Addr)) (fp : List Addr), DL.WE (X.blk s H0 scope (compEnvC scope cl C X.env) fp) elt (List.set (wipe σ [j]) j (some v)) H' fun y H4 => ∃ acc, H4 L = some (.lst acc) ∧ acc.length < sizeLine ∧ Lcw X.K S1 H1 L (rs.take (i + 1)) (upd H4 L (.lst (acc ++ [y])))) else Lcw X.K S1 H1 L (rs.take (i + 1)) H')
      rw [if_pos rfl]
      intro s2 H02 C cl fp
      refine hel s2 H02 C cl fp i dd rs[i] g1 g3 H0 S' H' _ ho y.i _ fun v2 S2 H2 x2 d2 => ?_
      have n2 : S2 L = none := x2.n L n1 (by rw [h1]; exact fun z => nomatch z)
      refine ⟨acc, x2.h _ _ h1, ?_, S2, acc ++ [v2], (y.trans x2).own hL n2, n2, upd_same, ?_⟩
      · rw [DpAll.len d1, List.length_take]
        omega
      · rw [List.take_add_one, g3]
        exact DpAll.snoc d2 (x2.s.dpAll d1)
    · rintro H' ⟨S', acc, y, n1, h1, d1⟩
      rw [hvl, ← hlen, List.take_length] at d1
      exact q L acc S' H' (x1.trans y) (x1.h.none hL) n1 h1 d1
end

/-! ### s.join(reversed(a list of texts)) -/
section
open RT
variable {prog : Program} {w : World} {A : Around} {E : Value → Shared → Prop} {s : Shared}
theorem join_rev {x : Str} {t : Tok} {it l : Addr} {items : Array Value} {ys : List Str} {Q : Value → Shared → Prop} (hh : A.handled = none) (hit : s.heap.IsRevIter it l ((items.size : Int) - 1)) (hl : s.heap.IsList l items) (hne : l ≠ it) (hn : items.size ≤ sizeLine)
    (hP : ∀ acc : Array Value, ItemsOf (fun i v => items[items.size - 1 - i]? = some v) acc items.size → StrsAre acc.toList ys) (hok : (ys.map (·.length)).sum + ys.length * x.length ≤ 16777216)
    (hq : ∀ (h' : Heap) (tk : Nat) (t' : Tok) (k : Nat), (∀ b o, b ≠ it → s.heap.get? b = some o → h'.get? b = some o) → Q (.str (Txt.join x ys) t') { s with heap := h', toks := k }) :
    wpAny (model prog w) A (call (.builtin "str.join") [.str x t, .ref it]) Q E s := by
  refine wpAny_call (codeAny_call_builtin PySem.F.slot_str_join.plain PySem.F.entry_str_join (PySem.F.slot_str_join.check _ _ _ _ _ _ _ _ (typeIs_str _ _ _) (PySem.F.args_str_join_2 _ _) ?_))
  rw [join_tree_other]
  refine wpAny_bind (wpAny_typeOf hit.typeIs ?_)
  show wpAny _ A.in1 ((pyIter (.ref it)).tryCatch _ >>= fun it => collect it >>= fun items => joinTail x items) _ _ s
  refine wpAny_bind (wpAny_tryCatch (wpAny_pyIter_revIter hit ?_))
  have hh1 : A.in1.handled = none := hh
  refine wpAny_bind (collect_rev (A := A.in1) hh1 hit hl hne hn fun h' tk acc hk hacc => ?_)
  obtain ⟨l', hl', ht⟩ := strsAre_values (hP acc hacc)
  subst ht
  rw [hl']
  have hok' := joinOk_of hok
  unfold JoinOk at hok'
  rw [Bool.not_eq_true'] at hok'
  have g : Gives (joinTail x (strValues l')) (joinMade x l') := by
    have g0 := gives_joinTail x l' hok'
    cases l' with
    | nil => exact g0
    | cons p r => cases r with
      | nil => exact g0
      | cons q r' => exact g0
  exact g prog w A (wants Q E) _ (post_join l' ⟨joinFit_length hok', fun t' k => hq h' tk t' k hk⟩)
end
section
variable {X : Cx} {G : Gam} {o e : Expr} {s : Str} {ys : List Str} {p pos pos2 apos : Pos}
def tJoinRev (K : Fg) (to te : TE) : TE := fun σ H Q => to σ H fun x H1 => (∃ a, x = .str a) ∧ te σ H1 fun v H2 => ∃ (a : Str) (q : Addr) (ys : List Str), x = .str a ∧ v = .ref q ∧ SqL K H2 q (ys.map V.str) ∧ (ys.map (·.length)).sum + ys.length * a.length ≤ 16777216 ∧ Q (.str (Txt.join a ys.reverse)) H2
theorem pe_joinRev {to te : TE} (hc : X.calm = true) (ho : PE X o to) (hg : Gl X "reversed") (hm : X.mg "reversed" = none) (he : PE X e te) (hs1 : starEach [.Call (.Name "reversed" p) [e] [] pos2] X.env = [(false, eval (.Call (.Name "reversed" p) [e] [] pos2) X.env)] := by rfl)
    (hs : starEach [e] X.env = (false, eval e X.env) :: starEach [] X.env := by first | exact sk_name | exact sk_const | exact sk_sub | exact sk_bin | exact sk_call | exact sk_tup | exact sk_lst | exact sk_cmp | exact sk_lc | exact sk_un | exact sk_bool | exact sk_attr | exact sk_if | rfl) (hbase : attributeBase o "join" X.env (eval o X.env) = eval o X.env := by rfl) (hline : (apos.endLine == pos.line) = true := by rfl) :
    PE X (.Call (.Attribute o "join" apos) [.Call (.Name "reversed" p) [e] [] pos2] [] pos) (tJoinRev X.K to te) := by
  refine ⟨fun pins s σ H Q I h => ?_⟩
  refine PySem.Call_method1 hbase hs1 hline (thn (ho.run pins s σ H _ I h) fun v s1 ⟨x, H1, I1, r1, q1⟩ => ?_)
  obtain ⟨⟨a, rfl⟩, q1⟩ := q1
  obtain ⟨t, rfl⟩ := _root_.id r1
  refine ⟨"str", _, PySem.F.plainAttrs_str, PySem.F.slot_str_join, PySem.F.type_str_join, typeIs_str _ _ _, (fun _ e => nomatch e), Calls.callWith_builtin rfl (Calls.evalArgs_plain (Calls.spliced_cons ?_))⟩
  refine Call_ (ld_blt I1 hg hm PyProof.Rows.boot_reversed (PyProof.Rows.callWith_type1 (args_cons (thn (he.run pins s1 σ H1 _ I1 q1) fun u s2 ⟨v, H2, I2, r2, q2⟩ => args_nil ?_) hs) hs rfl))
  obtain ⟨a', q, ys, ea, ev, hq, hz, q2⟩ := q2
  cases ea
  subst ev
  obtain rfl : u = Value.ref q := r2
  obtain ⟨its, rv, p', hsz⟩ := I2.list hq
  refine call_reversed_list p'.isList (Calls.spliced_nil ?_)
  have k0 : ∀ b o, s2.heap.get? b = some o → (s2.heap.push (revObj q ((its.toArray.size : Int) - 1))).get? b = some o := fun b o e => Heap.get?_push_of_some _ e
  have I3 : Inv X pins σ H2 { s2 with heap := s2.heap.push (revObj q ((its.toArray.size : Int) - 1)) } := I2.kept (t' := s2.toks) k0
  obtain ⟨f0, f1, f2, f3, f4, f5⟩ := I2.fpOk (H' := H2) (b := s2.heap.objs.size) (Nat.le_refl _) (I2.hok.fresh (Nat.le_refl _))
  have hl := p'.isList
  obtain ⟨ol, hol, _⟩ := id hl
  have hne : q ≠ s2.heap.objs.size := Nat.ne_of_lt (Heap.lt_size hol)
  have hn : its.toArray.size ≤ sizeLine := by rw [List.size_toArray, ← rv.length]; exact hsz
  refine join_rev (s := { s2 with heap := s2.heap.push (revObj q ((its.toArray.size : Int) - 1)) }) (ys := ys.reverse) (I2.ok.hd hc) ⟨_, Heap.get?_push_size _ rfl, rfl, rfl⟩ (hl.push _) hne hn (fun acc hacc => ?_) ?_ fun h' tk t' k hk => ?_
  · have rr := RT.vals_rev rv hacc
    rw [← List.map_reverse] at rr
    exact strs_of_vals rr
  · rw [List.length_reverse, List.map_reverse, List.sum_reverse]
    exact hz
  · exact ⟨.str _, H2, I3.turned (t' := k) (fun b o hb e => hk b o hb e) f0 f1 f3 f4 f5, ⟨t', rfl⟩, q2⟩
theorem ev_joinRev (hm : X.mg "reversed" = none) (ho : EvD X o G (.str s)) (he : EvD X e G (.list (ys.map .str))) (hz : (ys.map (·.length)).sum + ys.length * s.length ≤ 16777216) (hc : X.calm = true := by rfl) (hg : Gl X "reversed" := by rfl)
    (hs1 : starEach [.Call (.Name "reversed" p) [e] [] pos2] X.env = [(false, eval (.Call (.Name "reversed" p) [e] [] pos2) X.env)] := by rfl)
    (hs : starEach [e] X.env = (false, eval e X.env) :: starEach [] X.env := by first | exact sk_name | exact sk_const | exact sk_sub | exact sk_bin | exact sk_call | exact sk_tup | exact sk_lst | exact sk_cmp | exact sk_lc | exact sk_un | exact sk_bool | exact sk_attr | exact sk_if | rfl) (hbase : attributeBase o "join" X.env (eval o X.env) = eval o X.env := by rfl) (hline : (apos.endLine == pos.line) = true := by rfl) :
    EvD X (.Call (.Attribute o "join" apos) [.Call (.Name "reversed" p) [e] [] pos2] [] pos) G (.str (Txt.join s ys.reverse)) := fun H0 S H σ oo i Q q =>
  we (pe_joinRev hc pe_w hg hm pe_w hs1 hs hbase hline) (ho H0 S H σ oo i _ fun v S1 H1 x1 d1 => by
    cases d1
    exact ⟨⟨s, rfl⟩, he H0 S1 H1 σ (oo.ext x1) x1.i _ fun v S2 H2 x2 d2 => by
      cases d2 with
      | lst hq ha =>
        have ev := dpAll_strs' ha
        subst ev
        exact ⟨s, _, ys, rfl, rfl, x2.i.sqL hq, hz, q _ S2 H2 (x1.trans x2) (.str _)⟩⟩)
end
end DL

/-! Targets of any form; comprehensions over lists, tuples, ranges, with a test or none; tuple(), list(), in, [::-1]. -/
namespace DL
open PySem PySem.Spec PyProof.Rows L2

/-! ### targets -/
/-- what storing a datum does to what the slots hold; only the slots is are written -/
def TGo (K : Fg) (is : List Nat) (g : TG) (G : Gam) (d : D) (G' : Gam) : Prop := ∀ (H0 S H : Hp) (σ : L2.St) (v : V), Hol K H0 S H σ G → Ex S H → Dp K S v d → ∀ Q : L2.St → Hp → Prop,
  (∀ σ', Hol K H0 S H σ' G' → (∀ vs : List Nat, (∀ i ∈ is, i ∈ vs) → wipe σ' vs = wipe σ vs) → Q σ' H) → g v σ H Q
def TGos (K : Fg) (is : List Nat) (g : TGs) (G : Gam) (ds : List D) (G' : Gam) : Prop := ∀ (H0 S H : Hp) (σ : L2.St) (vs : List V), Hol K H0 S H σ G → Ex S H → DpAll K S vs ds → ∀ Q : L2.St → Hp → Prop,
  (∀ σ', Hol K H0 S H σ' G' → (∀ vs : List Nat, (∀ i ∈ is, i ∈ vs) → wipe σ' vs = wipe σ vs) → Q σ' H) → g vs σ H Q
theorem wipe_set {σ : L2.St} {i : Nat} {x : Option V} : ∀ {vs : List Nat}, i ∈ vs → wipe (σ.set i x) vs = wipe σ vs
  | [], h => by cases h
  | v :: vs, h => by
    unfold wipe
    by_cases c : i ∈ vs
    · rw [wipe_set c]
    · have e : v = i := by
        rcases List.mem_cons.mp h with z | z
        · exact z.symm
        · exact absurd z c
      subst e
      refine List.ext_getElem? fun j => ?_
      by_cases z : v = j
      · subst z
        by_cases hl : v < σ.length
        · rw [List.getElem?_set_self (by rw [wipe_length, List.length_set]; exact hl), List.getElem?_set_self (by rw [wipe_length]; exact hl)]
        · rw [List.getElem?_eq_none (by rw [List.length_set, wipe_length, List.length_set]; omega), List.getElem?_eq_none (by rw [List.length_set, wipe_length]; omega)]
      · rw [List.getElem?_set_ne z, List.getElem?_set_ne z]
        by_cases m : j ∈ vs
        · have hh : ∀ (τ : L2.St) (vs : List Nat), τ.length = σ.length → j ∈ vs → (wipe τ vs)[j]? = if j < σ.length then some none else none := by
            intro τ vs hτ
            induction vs with
            | nil => intro z; cases z
            | cons w ws ih =>
              intro mm
              unfold wipe
              by_cases e : w = j
              · subst e
                split
                · rw [List.getElem?_set_self (by rw [wipe_length]; omega)]
                · rw [List.getElem?_eq_none (by rw [List.length_set, wipe_length]; omega)]
              · rw [List.getElem?_set_ne e]
                exact ih ((List.mem_cons.mp mm).resolve_left fun z => e z.symm)
          rw [hh _ vs (by rw [List.length_set]) m, hh _ vs rfl m]
        · rw [wipe_out m, wipe_out m, List.getElem?_set_ne z]
section
variable {K : Fg} {G G' G1 : Gam} {d : D} {ds : List D} {is js : List Nat} {g : TG} {t : TGs} {n : Nat}
theorem tg_nm (i : Nat) : TGo K [i] (gName i) G d (G.set i (.im d)) := fun H0 S H σ v o e q Q k =>
  k _ (o.set_im q) fun vs h => wipe_set (h i List.mem_cons_self)
theorem tgs_nil : TGos K [] gNil G [] G := fun H0 S H σ vs o e q Q k => by
  cases q
  exact ⟨rfl, k σ o fun _ _ => rfl⟩
theorem tgs_cons (h1 : TGo K is g G d G1) (h2 : TGos K js t G1 ds G') : TGos K (is ++ js) (gCons g t) G (d :: ds) G' := fun H0 S H σ vs o e q Q k => by
  cases q with
  | cons q1 q2 =>
    exact ⟨_, _, rfl, h1 H0 S H σ _ o e q1 _ fun σ1 o1 w1 => h2 H0 S H σ1 _ o1 e q2 _ fun σ2 o2 w2 => k σ2 o2 fun vs h => (w2 vs fun i z => h i (List.mem_append_right _ z)).trans (w1 vs fun i z => h i (List.mem_append_left _ z))⟩
theorem tg_tup (h : TGos K is t G ds G') (hl : ds.length = n := by rfl) : TGo K is (gTup K n t) G (.tuple ds) G' := fun H0 S H σ v o e q Q k => by
  cases q with
  | tup hq hA => exact ⟨_, _, rfl, e.sqT hq.t, by rw [DpAll.len hA, hl], h H0 S H σ _ o e hA Q k⟩
/-- (a, b) -/
theorem tg_2 {da db : D} (i j : Nat) : TGo K [i, j] (gTup K 2 (gCons (gName i) (gCons (gName j) gNil))) G (.tuple [da, db]) ((G.set i (.im da)).set j (.im db)) :=
  tg_tup (tgs_cons (tg_nm i) (tgs_cons (tg_nm j) tgs_nil))
theorem tg_3 {da db dc : D} (i j l : Nat) : TGo K [i, j, l] (gTup K 3 (gCons (gName i) (gCons (gName j) (gCons (gName l) gNil)))) G (.tuple [da, db, dc]) (((G.set i (.im da)).set j (.im db)).set l (.im dc)) :=
  tg_tup (tgs_cons (tg_nm i) (tgs_cons (tg_nm j) (tgs_cons (tg_nm l) tgs_nil)))
/-- (a, (b, c, d)) -/
theorem tg_1_3 {da db dc dd : D} (i j l m : Nat) : TGo K [i, j, l, m] (gTup K 2 (gCons (gName i) (gCons (gTup K 3 (gCons (gName j) (gCons (gName l) (gCons (gName m) gNil)))) gNil))) G (.tuple [da, .tuple [db, dc, dd]])
    ((((G.set i (.im da)).set j (.im db)).set l (.im dc)).set m (.im dd)) :=
  tg_tup (tgs_cons (tg_nm i) (tgs_cons (tg_tup (tgs_cons (tg_nm j) (tgs_cons (tg_nm l) (tgs_cons (tg_nm m) tgs_nil)))) tgs_nil))
end
section
variable {X : Cx} {W : WX} {F : DL.Fin} {G : Gam} {e c tgt : Expr} {es : List Expr} {d : D} {ds : List D} {pos p np : Pos} {body : List Stmt} {x : Str} {g : TG} {is : List Nat}
/-- target = e -/
theorem gs_asg {G' : Gam} (he : EvD X e G d) (hg : PG X tgt g) (ht : TGo X.K is g G d G') (k : F.nx G')
    (hs : swapsWithSole [tgt] e pos.line X.env = pure false := by rfl) (hw : swappedStores [tgt] e X.env = pure none := by rfl) (h1 : (assignEach [tgt] X.env).map (·.2) = [assign tgt X.env] := by rfl) :
    GS X W (.Assign [tgt] e pos) F G := fun S0 H0 S H σ E xx o m =>
  ws (ps_asg pe_w hg hs hw h1) (he H0 S H σ o xx.i _ fun v S1 H1 x1 d1 => ht H0 S1 H1 σ v (o.ext x1) x1.i d1 _ fun σ' o' _ => m.nx σ' S1 H1 _ (xx.trans x1) o' k)
/-- for target in a list -/
theorem gs_forLG (I : Nat → Gam → Prop) (hg : PG X tgt g) (he : EvD X e G (.list ds)) (h0 : I 0 G)
    (hs : ∀ (i : Nat) (d : D) (G' : Gam), ds[i]? = some d → I i G' → ∃ is G'', TGo X.K is g G' d G'' ∧ GSs X W body (F.turn (I (i + 1))) G'')
    (hd : ∀ G', I ds.length G' → F.nx G') (hp : PassesOwn (model X.prog X.w) X.A X.env X.xe) (hc : X.calm = true := by rfl)
    (hst : ∀ x, foldedSetIterable e X.env x = pure x := by intro _; rfl) : GS X W (.For tgt e body [] pos) F G := fun S0 H0 S H σ E z o m => by
  refine ws (ps_for hp hc (pi_list pe_w) hg pss_w hst) (he H0 S H σ o z.i _ fun v S1 H1 x1 d1 => ?_)
  cases d1 with
  | lst hq ha =>
    rename_i a vs
    have z1 := z.trans x1
    have mb := m.bed z1
    refine ⟨a, rfl, ⟨_, x1.i.sqL hq⟩, for_list (xs := vs) (fun i σ' H' => Lp X.K S1 (bed S1 H0) (I i) σ' H') ⟨S1, G, z1.bed, (o.ext x1).bed, h0⟩ ?_ ?_ ?_⟩
    · rintro i σ' H' _ ⟨S', G', y, _, _⟩
      exact y.i.sqL (y.s.sqL hq)
    · rintro i v σ' H' hv ⟨S', G', y, o', k⟩
      obtain ⟨dd, h1, h2⟩ := DpAll.getV ha hv
      obtain ⟨is, G'', t1, t2⟩ := hs i dd G' h1 k
      exact t1 _ S' H' σ' v o' y.i (y.s.dp h2) _ fun σ2 o2 _ => t2 S1 (bed S1 H0) S' H' _ _ y o2 (mb.turn fun _ _ q => q)
    · rintro σ' H' ⟨S', G', y, o', k⟩
      rw [DpAll.len ha] at k
      exact mb.nx σ' S' H' G' y o' (hd G' k)
/-- for target in a tuple -/
theorem gs_forTG (I : Nat → Gam → Prop) (hg : PG X tgt g) (he : EvD X e G (.tuple ds)) (h0 : I 0 G)
    (hs : ∀ (i : Nat) (d : D) (G' : Gam), ds[i]? = some d → I i G' → ∃ is G'', TGo X.K is g G' d G'' ∧ GSs X W body (F.turn (I (i + 1))) G'')
    (hd : ∀ G', I ds.length G' → F.nx G') (hp : PassesOwn (model X.prog X.w) X.A X.env X.xe) (hc : X.calm = true := by rfl)
    (hst : ∀ x, foldedSetIterable e X.env x = pure x := by intro _; rfl) : GS X W (.For tgt e body [] pos) F G := fun S0 H0 S H σ E z o m => by
  refine ws (ps_for hp hc (pi_tup pe_w) hg pss_w hst) (he H0 S H σ o z.i _ fun v S1 H1 x1 d1 => ?_)
  cases d1 with
  | tup hq ha =>
    rename_i a vs
    have z1 := z.trans x1
    have mb := m.bed z1
    refine ⟨a, rfl, ⟨_, x1.i.sqT hq.t⟩, for_tup (xs := vs) (fun i σ' H' => Lp X.K S1 (bed S1 H0) (I i) σ' H') ⟨S1, G, z1.bed, (o.ext x1).bed, h0⟩ ?_ ?_ ?_⟩
    · rintro i σ' H' _ ⟨S', G', y, _, _⟩
      exact y.i.sqT (y.s.sqT hq.t)
    · rintro i v σ' H' hv ⟨S', G', y, o', k⟩
      obtain ⟨dd, h1, h2⟩ := DpAll.getV ha hv
      obtain ⟨is, G'', t1, t2⟩ := hs i dd G' h1 k
      exact t1 _ S' H' σ' v o' y.i (y.s.dp h2) _ fun σ2 o2 _ => t2 S1 (bed S1 H0) S' H' _ _ y o2 (mb.turn fun _ _ q => q)
    · rintro σ' H' ⟨S', G', y, o', k⟩
      rw [DpAll.len ha] at k
      exact mb.nx σ' S' H' G' y o' (hd G' k)
end
end DL

/-! Comprehensions over lists, tuples, ranges, with a test or none; tuple(), list(), in, [::-1], list + list, tuple + tuple. -/
namespace DL
open PySem PySem.Spec PyProof.Rows L2

def wipeG (G : Gam) : List Nat → Gam
  | [] => G
  | v :: vs => (wipeG G vs).set v .no
theorem Hol.wiped {K : Fg} {H0 S H : Hp} {σ : L2.St} {G : Gam} (o : Hol K H0 S H σ G) : ∀ vs : List Nat, Hol K H0 S H (wipe σ vs) (wipeG G vs)
  | [] => o
  | v :: vs => (Hol.wiped o vs).set_no (x := none)
theorem wipe_wipe (σ : L2.St) (vs : List Nat) : wipe (wipe σ vs) vs = wipe σ vs := by
  have h : ∀ us : List Nat, (∀ i ∈ us, i ∈ vs) → wipe (wipe σ us) vs = wipe σ vs := by
    intro us
    induction us with
    | nil => intro _; rfl
    | cons u us ih =>
      intro hu
      show wipe ((wipe σ us).set u none) vs = _
      rw [wipe_set (hu u List.mem_cons_self)]
      exact ih fun i hi => hu i (List.mem_cons_of_mem _ hi)
  exact h vs fun _ z => z
section
variable {X : Cx} {G : Gam} {it elt tgt c : Expr} {x : Str} {np pos : Pos} {scope : Scope} {ds rs : List D} {g : TG} {own : List (Str × Nat)}
abbrev TEb (X : Cx) (scope : Scope) (elt : Expr) : TE := fun σ H Q => ∀ (s : Shared) (H0 : Hp) (C : Addr) (cl : List (Str × Addr)) (fp : List Addr), DL.WE (X.blk s H0 scope (compEnvC scope cl C X.env) fp) elt σ H Q
abbrev TTb (X : Cx) (scope : Scope) (c : Expr) : TT := fun σ H Q => ∀ (s : Shared) (H0 : Hp) (C : Addr) (cl : List (Str × Addr)) (fp : List Addr), DL.WT (X.blk s H0 scope (compEnvC scope cl C X.env) fp) c σ H Q
/-- one turn: the item d goes to the target; if the test says so, r is made and put behind -/
def Turn (X : Cx) (scope : Scope) (ifs : List Expr) (elt : Expr) (g : TG) (vs : List Nat) (G : Gam) (d : D) (b : Bool) (r : D) : Prop :=
  ∃ is G', TGo X.K is g (wipeG G vs) d G' ∧ (∀ i ∈ is, i ∈ vs) ∧
    (match ifs with
     | [] => b = true
     | [c] => ∀ (s : Shared) (H : Hp) (C : Addr) (cl : List (Str × Addr)) (fp : List Addr), EvT (X.blk s H scope (compEnvC scope cl C X.env) fp) c G' b
     | _ => False) ∧
    (b = true → ∀ (s : Shared) (H : Hp) (C : Addr) (cl : List (Str × Addr)) (fp : List Addr), EvD (X.blk s H scope (compEnvC scope cl C X.env) fp) elt G' r)
def tIfs (X : Cx) (scope : Scope) (ifs : List Expr) : TT := match ifs with
  | [] => tYes
  | [c] => TTb X scope c
  | _ => fun _ _ _ => False
theorem pts_ifs {ifs : List Expr} (s : Shared) (H : Hp) (C : Addr) (cl : List (Str × Addr)) (fp : List Addr) (hl : ifs.length ≤ 1) : PTs (X.blk s H scope (compEnvC scope cl C X.env) fp) ifs (tIfs X scope ifs) := by
  match ifs, hl with
  | [], _ => exact pts_nil
  | [c], _ => exact pts_one ⟨fun pins s1 σ H1 Q I h => h s H C cl fp pins s1 I⟩
theorem Turn.go {K : Fg} {ifs : List Expr} {vs : List Nat} {d r : D} {b : Bool} (t : Turn X scope ifs elt g vs G d b r) {S1 H1 H' : Hp} {σ : L2.St} {H0 S' : Hp} {L : Addr} {v : V} {acc : List V} {rs : List D} {Nx : Hp → Prop}
    (o : Hol X.K H0 S' H' σ G) (y : Ext S1 H1 S' H') (n1 : S' L = none) (h1 : H' L = some (.lst acc)) (d1 : DpAll X.K S' acc rs) (hd : Dp X.K S' v d) (hz : acc.length < sizeLine) (h0 : H1 L = none)
    (k : ∀ H, Lcw X.K S1 H1 L (if b = true then rs ++ [r] else rs) H → Nx H) :
    g v (wipe σ vs) H' fun σ2 H2 => wipe σ2 vs = wipe σ vs ∧ tIfs X scope ifs σ2 H2 fun b H3 => if b = true then TEb X scope elt σ2 H3 fun y H4 => ∃ acc, H4 L = some (.lst acc) ∧ acc.length < sizeLine ∧ Nx (upd H4 L (.lst (acc ++ [y]))) else Nx H3 := by
  obtain ⟨is, G', t1, t2, t3, t4⟩ := t
  refine t1 H0 S' H' _ v (o.wiped vs) y.i hd _ fun σ2 o2 w2 => ⟨(w2 vs t2).trans (wipe_wipe σ vs), ?_⟩
  have fin : ∀ (S3 H3 : Hp), Ext S' H' S3 H3 → (if b = true then TEb X scope elt σ2 H3 fun y H4 => ∃ acc, H4 L = some (.lst acc) ∧ acc.length < sizeLine ∧ Nx (upd H4 L (.lst (acc ++ [y]))) else Nx H3) := by
    intro S3 H3 x3
    have n3 : S3 L = none := x3.n L n1 (by rw [h1]; exact fun z => nomatch z)
    by_cases hb : b = true
    · rw [if_pos hb]
      rw [if_pos hb] at k
      intro s2 H02 C cl fp
      refine t4 hb s2 H02 C cl fp H0 S3 H3 σ2 (o2.ext x3) x3.i _ fun v2 S4 H4 x4 d4 => ?_
      have n4 : S4 L = none := x4.n L n3 (by rw [x3.h _ _ h1]; exact fun z => nomatch z)
      exact ⟨acc, x4.h _ _ (x3.h _ _ h1), hz, k _ ⟨S4, acc ++ [v2], ((y.trans x3).trans x4).own h0 n4, n4, upd_same, DpAll.snoc d4 (x4.s.dpAll (x3.s.dpAll d1))⟩⟩
    · rw [if_neg hb]
      rw [if_neg hb] at k
      exact k _ ⟨S3, acc, y.trans x3, n3, x3.h _ _ h1, x3.s.dpAll d1⟩
  match ifs, t3 with
  | [], e =>
    subst e
    exact fin S' H' (Ext.refl y.i)
  | [c], e =>
    intro s2 H02 C cl fp
    exact e s2 H02 C cl fp H0 S' H' σ2 o2 y.i _ fun S3 H3 x3 => fin S3 H3 x3
/-- what the turns make -/
def made (ds : List D) (b : Nat → Bool) (r : Nat → D) : Nat → List D
  | 0 => []
  | i + 1 => if b i = true then made ds b r i ++ [r i] else made ds b r i
theorem made_len (ds : List D) (b : Nat → Bool) (r : Nat → D) : ∀ i, (made ds b r i).length ≤ i
  | 0 => Nat.le_refl _
  | i + 1 => by
    unfold made
    have := made_len ds b r i
    split
    · rw [List.length_append, List.length_singleton]; omega
    · omega
theorem made_map {α : Type} (ms : List α) (enc : α → D) (bf : α → Bool) (rf : α → D) (b : Nat → Bool) (r : Nat → D) (hb : ∀ i a, ms[i]? = some a → b i = bf a) (hr : ∀ i a, ms[i]? = some a → r i = rf a) :
    ∀ i, i ≤ ms.length → made (ms.map enc) b r i = ((ms.take i).filter bf).map rf
  | 0, _ => by rw [List.take_zero]; rfl
  | i + 1, h => by
    have hi : ms[i]? = some ms[i] := List.getElem?_eq_getElem (by omega)
    unfold made
    rw [made_map ms enc bf rf b r hb hr i (by omega), List.take_add_one, hi, List.filter_append, List.map_append, hb i _ hi, hr i _ hi]
    by_cases c : bf ms[i] = true
    · rw [if_pos c]
      show _ = _ ++ List.map rf (List.filter bf [ms[i]])
      rw [List.filter_cons_of_pos c]
      rfl
    · rw [if_neg c]
      show _ = _ ++ List.map rf (List.filter bf [ms[i]])
      rw [List.filter_cons_of_neg c]
      show _ = _ ++ []
      rw [List.append_nil]
/-- [elt for tgt in a list if c] -/
theorem en_lcL {α : Type} {ifs : List Expr} (ms : List α) (enc : α → D) (bf : α → Bool) (rf : α → D) (he : EvD X it G (.list (ms.map enc)))
    (ht : ∀ (i : Nat) (a : α), ms[i]? = some a → Turn X scope ifs elt g (own.map (·.2)) G (enc a) (bf a) (rf a))
    (hz : ms.length < sizeLine) (hif : ifs.length ≤ 1) (hN : X.N.Nodup) (hc : X.calm = true) (ok : BlkOk X.N X.env.scope scope own)
    (hg : ∀ (s : Shared) (H : Hp) (C : Addr) (cl : List (Str × Addr)) (fp : List Addr), PG (X.blk s H scope (compEnvC scope cl C X.env) fp) tgt g)
    (hs : ∀ x, foldedSetIterable it X.env x = pure x := by intro _; rfl) : EvN X (.ListComp elt [⟨tgt, it, ifs, 0⟩] scope pos) G ((ms.filter bf).map rf) := fun H0 S H σ o i Q q => by
  refine we (pe_lc (own := own) (g := g) (tt := tIfs X scope ifs) (te := TEb X scope elt) hc hN (pi_list pe_w) ok hg (fun s H C cl fp => pts_ifs s H C cl fp hif)
    (fun s H0 C cl fp => ⟨fun pins s1 σ H Q I h => h s H0 C cl fp pins s1 I⟩) hs) (he H0 S H σ o i _ fun v S1 H1 x1 d1 => ?_)
  cases d1 with
  | lst hq ha =>
    rename_i ad vs
    have hvl := DpAll.len ha
    rw [List.length_map] at hvl
    refine ⟨ad, rfl, ⟨vs, x1.i.sqL hq⟩, fun L hL => lc_list (K := X.K) (a := ad) (xs := vs) (g := g) (tt := tIfs X scope ifs) (te := TEb X scope elt) (vs := own.map (·.2)) (σ := σ) (H1 := H1) (D := L) (Qd := fun H => Q (.ref L) H)
      (fun i H' => Lcw X.K S1 H1 L (((ms.take i).filter bf).map rf) H') ⟨S1, [], (Ext.refl x1.i).own hL (x1.i.none hL), x1.i.none hL, upd_same, .nil⟩ ?_ ?_ ?_⟩
    · rintro i H' _ ⟨S', acc, y, _, _, _⟩
      exact y.i.sqL (y.s.sqL hq)
    · rintro i v H' hv ⟨S', acc, y, n1, h1, d1⟩
      obtain ⟨dd, g1, g2⟩ := DpAll.getV ha hv
      rw [List.getElem?_map] at g1
      have il : i < ms.length := by
        have := (List.getElem?_eq_some_iff.mp hv).1
        omega
      have hi : ms[i]? = some ms[i] := List.getElem?_eq_getElem il
      rw [hi] at g1
      have e := Option.some.inj g1
      subst e
      refine (ht i _ hi).go (K := X.K) ((o.ext x1).ext y) y n1 h1 d1 (y.s.dp g2) ?_ hL fun H h => ?_
      · rw [DpAll.len d1, List.length_map]
        have h2 := List.length_filter_le bf (ms.take i)
        rw [List.length_take] at h2
        omega
      · have e : ((ms.take (i + 1)).filter bf).map rf = if bf ms[i] = true then ((ms.take i).filter bf).map rf ++ [rf ms[i]] else ((ms.take i).filter bf).map rf := by
          rw [List.take_add_one, hi, List.filter_append, List.map_append]
          show _ ++ List.map rf (List.filter bf [ms[i]]) = _
          by_cases c : bf ms[i] = true
          · rw [if_pos c, List.filter_cons_of_pos c]
            rfl
          · rw [if_neg c, List.filter_cons_of_neg c]
            exact List.append_nil _
        rw [e]
        exact h
    · rintro H' ⟨S', acc, y, n1, h1, d1⟩
      rw [hvl, List.take_length] at d1
      exact q L acc S' H' (x1.trans y) (x1.h.none hL) n1 h1 d1
/-- over a tuple -/
theorem en_lcT {α : Type} {ifs : List Expr} (ms : List α) (enc : α → D) (bf : α → Bool) (rf : α → D) (he : EvD X it G (.tuple (ms.map enc)))
    (ht : ∀ (i : Nat) (a : α), ms[i]? = some a → Turn X scope ifs elt g (own.map (·.2)) G (enc a) (bf a) (rf a))
    (hz : ms.length < sizeLine) (hif : ifs.length ≤ 1) (hN : X.N.Nodup) (hc : X.calm = true) (ok : BlkOk X.N X.env.scope scope own)
    (hg : ∀ (s : Shared) (H : Hp) (C : Addr) (cl : List (Str × Addr)) (fp : List Addr), PG (X.blk s H scope (compEnvC scope cl C X.env) fp) tgt g)
    (hs : ∀ x, foldedSetIterable it X.env x = pure x := by intro _; rfl) : EvN X (.ListComp elt [⟨tgt, it, ifs, 0⟩] scope pos) G ((ms.filter bf).map rf) := fun H0 S H σ o i Q q => by
  refine we (pe_lc (own := own) (g := g) (tt := tIfs X scope ifs) (te := TEb X scope elt) hc hN (pi_tup pe_w) ok hg (fun s H C cl fp => pts_ifs s H C cl fp hif)
    (fun s H0 C cl fp => ⟨fun pins s1 σ H Q I h => h s H0 C cl fp pins s1 I⟩) hs) (he H0 S H σ o i _ fun v S1 H1 x1 d1 => ?_)
  cases d1 with
  | tup hq ha =>
    rename_i ad vs
    have hvl := DpAll.len ha
    rw [List.length_map] at hvl
    refine ⟨ad, rfl, ⟨vs, x1.i.sqT hq.t⟩, fun L hL => lc_tup (K := X.K) (a := ad) (xs := vs) (g := g) (tt := tIfs X scope ifs) (te := TEb X scope elt) (vs := own.map (·.2)) (σ := σ) (H1 := H1) (D := L) (Qd := fun H => Q (.ref L) H)
      (fun i H' => Lcw X.K S1 H1 L (((ms.take i).filter bf).map rf) H') ⟨S1, [], (Ext.refl x1.i).own hL (x1.i.none hL), x1.i.none hL, upd_same, .nil⟩ ?_ ?_ ?_⟩
    · rintro i H' _ ⟨S', acc, y, _, _, _⟩
      exact y.i.sqT (y.s.sqT hq.t)
    · rintro i v H' hv ⟨S', acc, y, n1, h1, d1⟩
      obtain ⟨dd, g1, g2⟩ := DpAll.getV ha hv
      rw [List.getElem?_map] at g1
      have il : i < ms.length := by
        have := (List.getElem?_eq_some_iff.mp hv).1
        omega
      have hi : ms[i]? = some ms[i] := List.getElem?_eq_getElem il
      rw [hi] at g1
      have e := Option.some.inj g1
      subst e
      refine (ht i _ hi).go (K := X.K) ((o.ext x1).ext y) y n1 h1 d1 (y.s.dp g2) ?_ hL fun H h => ?_
      · rw [DpAll.len d1, List.length_map]
        have h2 := List.length_filter_le bf (ms.take i)
        rw [List.length_take] at h2
        omega
      · have e : ((ms.take (i + 1)).filter bf).map rf = if bf ms[i] = true then ((ms.take i).filter bf).map rf ++ [rf ms[i]] else ((ms.take i).filter bf).map rf := by
          rw [List.take_add_one, hi, List.filter_append, List.map_append]
          show _ ++ List.map rf (List.filter bf [ms[i]]) = _
          by_cases c : bf ms[i] = true
          · rw [if_pos c, List.filter_cons_of_pos c]
            rfl
          · rw [if_neg c, List.filter_cons_of_neg c]
            exact List.append_nil _
        rw [e]
        exact h
    · rintro H' ⟨S', acc, y, n1, h1, d1⟩
      rw [hvl, List.take_length] at d1
      exact q L acc S' H' (x1.trans y) (x1.h.none hL) n1 h1 d1
end
end DL

/-! tuple(), list(), in, [::-1], list + list, tuple + tuple, min, max of a list; a comprehension over a range. -/
namespace DL
open PySem PySem.Spec PyProof.Rows L2
section
variable {X : Cx} {G : Gam} {it elt tgt a b c e : Expr} {x : Str} {p p2 np pos : Pos} {scope : Scope} {d da db : D} {ds dt rs : List D} {g : TG} {own : List (Str × Nat)} {lo hi : Option Expr} {l u : Option Int}
/-- [elt for tgt in range(n) if c] -/
theorem en_lcR {ifs : List Expr} {n : Int} {e : Expr} (bf : Nat → Bool) (rf : Nat → D) (hm : X.mg "range" = none) (he : EvD X e G (.int n)) (hn : -(2 ^ 62) ≤ n ∧ n < 2 ^ 62)
    (ht : ∀ i : Nat, (i : Int) < n → Turn X scope ifs elt g (own.map (·.2)) G (.int i) (bf i) (rf i))
    (hz : n.toNat < sizeLine) (hif : ifs.length ≤ 1) (hN : X.N.Nodup) (hc : X.calm = true) (ok : BlkOk X.N X.env.scope scope own)
    (hg : ∀ (s : Shared) (H : Hp) (C : Addr) (cl : List (Str × Addr)) (fp : List Addr), PG (X.blk s H scope (compEnvC scope cl C X.env) fp) tgt g) (hgl : Gl X "range" := by rfl)
    (hs : ∀ x, foldedSetIterable (.Call (.Name "range" p) [e] [] np) X.env x = pure x := by intro _; rfl) (hse : starEach [e] X.env = [(false, eval e X.env)] := by first | exact sk_name | exact sk_const | exact sk_sub | exact sk_bin | exact sk_call | exact sk_tup | exact sk_lst | exact sk_cmp | exact sk_lc | exact sk_un | exact sk_bool | exact sk_attr | exact sk_if | rfl) :
    EvN X (.ListComp elt [⟨tgt, .Call (.Name "range" p) [e] [] np, ifs, 0⟩] scope pos) G (((List.range n.toNat).filter bf).map rf) := fun H0 S H σ o i Q q => by
  refine we (pe_lc (own := own) (g := g) (tt := tIfs X scope ifs) (te := TEb X scope elt) hc hN (pi_range1 hgl hm pa_w hse) ok hg (fun s H C cl fp => pts_ifs s H C cl fp hif)
    (fun s H0 C cl fp => ⟨fun pins s1 σ H Q I h => h s H0 C cl fp pins s1 I⟩) hs) (ea_cons he ea_nil (by exact hse) H0 S H σ o i _ fun vs S1 H1 x1 d1 => ?_)
  cases d1 with
  | cons d1 d2 =>
    cases d2
    cases d1
    refine ⟨n, rfl, hn.1, hn.2, fun L hL => lc_range (lo := 0) (n := n.toNat) (g := g) (tt := tIfs X scope ifs) (te := TEb X scope elt) (vs := own.map (·.2)) (σ := σ) (H1 := H1) (D := L) (Qd := fun H => Q (.ref L) H)
      (fun i H' => Lcw X.K S1 H1 L (((List.range i).filter bf).map rf) H') ⟨S1, [], (Ext.refl x1.i).own hL (x1.i.none hL), x1.i.none hL, upd_same, .nil⟩ ?_ ?_⟩
    · rintro i H' hi ⟨S', acc, y, n1, h1, d1⟩
      have e0 : (0 : Int) + (i : Int) = (i : Int) := Int.zero_add _
      rw [e0]
      refine (ht i (by omega)).go (K := X.K) ((o.ext x1).ext y) y n1 h1 d1 (.int _) ?_ hL fun H h => ?_
      · rw [DpAll.len d1, List.length_map]
        have h2 := List.length_filter_le bf (List.range i)
        rw [List.length_range] at h2
        omega
      · have e : ((List.range (i + 1)).filter bf).map rf = if bf i = true then ((List.range i).filter bf).map rf ++ [rf i] else ((List.range i).filter bf).map rf := by
          rw [List.range_succ, List.filter_append, List.map_append]
          by_cases c : bf i = true
          · rw [if_pos c, List.filter_cons_of_pos c]
            rfl
          · rw [if_neg c, List.filter_cons_of_neg c]
            exact List.append_nil _
        rw [e]
        exact h
    · rintro H' ⟨S', acc, y, n1, h1, d1⟩
      exact q L acc S' H' (x1.trans y) (x1.h.none hL) n1 h1 d1
/-- tuple(a list) makes a new one, tuple(a tuple) is that -/
def kTupZ (K : Fg) (x : V) (H : Hp) (Q : VK) : Prop :=
  (∃ p xs, x = .ref p ∧ SqL K H p xs ∧ ∀ (q : Addr) (o : Obj), H q = none → o.cls = .type "tuple" → o.dict = none → Q (.ref q) (upd H q (.frz o (.tup xs)))) ∨ (∃ p xs, x = .ref p ∧ SqT K H p xs ∧ Q (.ref p) H)
theorem rl_tupZ (pins : List (Addr × Obj)) (s : Shared) (σ : L2.St) (H : Hp) (x : V) (v : Value) (Q : VK) (I : Inv X pins σ H s) (r : RelV x v) (h : kTupZ X.K x H Q) : wpAny (model X.prog X.w) X.A (call (.type "tuple") [v]) (EP X pins σ Q) X.xe s := by
  rcases h with ⟨p, xs, rfl, hs, q⟩ | ⟨p, xs, rfl, hs, q⟩
  · cases r
    obtain ⟨its, rv, pl, hz⟩ := I.list hs
    refine call_tuple_list pl.isList (fun hp hk => ?_) (by rw [List.size_toArray, ← rv.length]; exact hz)
    have I1 := I.kept (t' := s.toks) hk
    exact ⟨.ref hp.objs.size, _, tz_laid I1 rv hz, rfl, q _ _ (I1.hok.fresh (Nat.le_refl _)) rfl rfl⟩
  · cases r
    obtain ⟨its, rv, pl, hz⟩ := I.tuple hs
    exact call_tuple_tup pl ⟨.ref p, H, I, rfl, q⟩
theorem pe_tupOfZ {a : Expr} {p pos : Pos} {ta : TE} (hg : Gl X "tuple") (hm : X.mg "tuple" = none) (ha : PE X a ta) (na : starEach [a] X.env = (false, eval a X.env) :: starEach [] X.env) :
    PE X (.Call (.Name "tuple" p) [a] [] pos) (tThen ta (kTupZ X.K)) :=
  ⟨fun pins s σ H Q I h => Call_ (ld_blt I hg hm boot_tuple (PyProof.Rows.callWith_type1 (one_arg ha I h (fun v s2 x H2 I2 r q => rl_tupZ pins s2 σ H2 x v Q I2 r q) na) na))⟩
/-- t[l:u] of a tuple: new, or all of it -/
def rSlZ (K : Fg) : V → Option Int → Option Int → Hp → VK → Prop := fun x l u H Q => ∃ a xs, x = .ref a ∧ SqT K H a xs ∧ (HT.sIx xs.length 0 l = 0 ∧ HT.sIx xs.length xs.length u = xs.length → Q (.ref a) H) ∧
  (¬ (HT.sIx xs.length 0 l = 0 ∧ HT.sIx xs.length xs.length u = xs.length) → ∀ (p : Addr) (o : Obj), H p = none → o.cls = .type "tuple" → o.dict = none → Q (.ref p) (upd H p (.frz o (.tup (cutV xs l u)))))
theorem sl_tupZ : SlR X (rSlZ X.K) := by
  rintro pins s σ H x v vl vu l u sl Q I rx hs pl pu ⟨a, xs, rfl, hx, q1, q2⟩
  cases rx
  obtain ⟨its, r, ht, hz⟩ := I.tuple hx
  have n : its.toArray.size = xs.length := (List.size_toArray ..).trans r.length.symm
  refine ⟨"tuple", _, PyProof.Rows.slot_tuple_getitem.lookup, ht.typeIs, ?_⟩
  by_cases hw : HT.sIx xs.length 0 l = 0 ∧ HT.sIx xs.length xs.length u = xs.length
  · exact getItem_tuple_whole ht hs pl pu (n ▸ hw) ⟨.ref a, H, I, rfl, q1 hw⟩
  · refine HT.getItem_tuple_cut ht hs pl pu (n ▸ hw) ?_ (n ▸ hz)
    rw [n]
    exact ⟨.ref s.heap.objs.size, _, tz_laid I ((r.drop _).take _) (Nat.le_trans (cutV_length xs l u) hz), rfl, q2 hw _ _ (I.hok.fresh (Nat.le_refl _)) rfl rfl⟩
/-- tuple(a list) -/
theorem ev_tupOf (hm : X.mg "tuple" = none) (ha : EvD X a G (.list ds)) (hg : Gl X "tuple" := by rfl) (na : starEach [a] X.env = (false, eval a X.env) :: starEach [] X.env := by first | exact sk_name | exact sk_const | exact sk_sub | exact sk_bin | exact sk_call | exact sk_tup | exact sk_lst | exact sk_cmp | exact sk_lc | exact sk_un | exact sk_bool | exact sk_attr | exact sk_if | rfl) : EvD X (.Call (.Name "tuple" p) [a] [] pos) G (.tuple ds) := fun H0 S H σ o i Q q =>
  we (pe_tupOfZ hg hm pe_w na) (ha H0 S H σ o i _ fun v S1 H1 x1 d1 => by
    cases d1 with
    | lst hq hA => exact .inl ⟨_, _, rfl, x1.i.sqL hq, fun p ob hp z1 z2 => q _ _ _ (x1.add hp) (.tup (SqZ.of upd_same z1 z2) (((Ex.refl S1).new (x1.i.none hp)).dpAll hA))⟩)
/-- tuple(a tuple) -/
theorem ev_tupOfT (hm : X.mg "tuple" = none) (ha : EvD X a G (.tuple ds)) (hg : Gl X "tuple" := by rfl) (na : starEach [a] X.env = (false, eval a X.env) :: starEach [] X.env := by first | exact sk_name | exact sk_const | exact sk_sub | exact sk_bin | exact sk_call | exact sk_tup | exact sk_lst | exact sk_cmp | exact sk_lc | exact sk_un | exact sk_bool | exact sk_attr | exact sk_if | rfl) : EvD X (.Call (.Name "tuple" p) [a] [] pos) G (.tuple ds) := fun H0 S H σ o i Q q =>
  we (pe_tupOfZ hg hm pe_w na) (ha H0 S H σ o i _ fun v S1 H1 x1 d1 => by
    cases d1 with
    | tup hq hA => exact .inr ⟨_, _, rfl, x1.i.sqT hq.t, q _ _ _ x1 (.tup hq hA)⟩)
/-- list(a list or a tuple) -/
theorem en_listOf (hm : X.mg "list" = none) (ha : EvD X a G d) (h : d = .list ds ∨ d = .tuple ds) (hg : Gl X "list" := by rfl)
    (he : starEach [a] X.env = (false, eval a X.env) :: starEach [] X.env := by first | exact sk_name | exact sk_const | exact sk_sub | exact sk_bin | exact sk_call | exact sk_tup | exact sk_lst | exact sk_cmp | exact sk_lc | exact sk_un | exact sk_bool | exact sk_attr | exact sk_if | rfl) (hpl : (backTo pos (starEach [] X.env)).any (·.1) = false := by rfl) : EvN X (.Call (.Name "list" p) [a] [] pos) G ds := fun H0 S H σ o i Q q =>
  we (pe_callTy call_list_of hg hm (by decide +kernel) pa_w (by decide) (by decide) he hpl) (ea_cons ha ea_nil he H0 S H σ o i _ fun vs S1 H1 x1 d1 => by
    cases d1 with
    | cons d1 d2 =>
      cases d2
      rcases h with h | h
      · subst h
        cases d1 with
        | lst hq hA => exact ⟨_, _, rfl, .inl (x1.i.sqL hq), fun l hl => q l _ S1 _ (x1.own (x1.h.none hl) (x1.i.none hl)) (x1.h.none hl) (x1.i.none hl) upd_same hA⟩
      · subst h
        cases d1 with
        | tup hq hA => exact ⟨_, _, rfl, .inr (x1.i.sqT hq.t), fun l hl => q l _ S1 _ (x1.own (x1.h.none hl) (x1.i.none hl)) (x1.h.none hl) (x1.i.none hl) upd_same hA⟩)
theorem DpAll.rev {K : Fg} {S : Hp} : ∀ {vs : List V} {ds : List D}, DpAll K S vs ds → DpAll K S vs.reverse ds.reverse
  | _, [], h => by cases h; exact .nil
  | _, d :: ds, h => by
    cases h with
    | cons h1 h2 =>
      rw [List.reverse_cons, List.reverse_cons]
      exact DpAll.snoc h1 (DpAll.rev h2)
/-- a list backwards -/
theorem en_revL {k : Nat} {p1 p2 p3 : Pos} (ha : EvD X a G (.list ds)) : EvN X (.Subscript a (.Slice none none (some (.UnaryOp .USub (.Constant (.int 1) k p1) p2)) p3) pos) G ds.reverse := fun H0 S H σ o i Q q =>
  we (pe_revL pe_w) (ha H0 S H σ o i _ fun v S1 H1 x1 d1 => by
    cases d1 with
    | lst hq hA => exact ⟨_, _, rfl, x1.i.sqL hq, fun l hl => q l _ S1 _ (x1.own (x1.h.none hl) (x1.i.none hl)) (x1.h.none hl) (x1.i.none hl) upd_same (DpAll.rev hA)⟩)
/-! list + list of any lists -/
def rCatL (K : PySem.W.Frag) : R2 := fun x y H Q => ∃ l b xs zs, x = .ref l ∧ y = .ref b ∧ SqL K H l xs ∧ SqL K H b zs ∧ xs.length + zs.length ≤ sizeLine ∧ ∀ p, H p = none → Q (.ref p) (upd H p (.lst (xs ++ zs)))
theorem op_catL : OpR X (binaryOp .Add) (rCatL X.K) := by
  intro pins s σ H x y v u Q I rx ry h
  obtain ⟨l, b, xs, zs, rfl, rfl, hH, hB, hz, q⟩ := h
  cases rx
  cases ry
  obtain ⟨its, r, pl, hl⟩ := I.list hH
  obtain ⟨its2, r2, pl2, hl2⟩ := I.list hB
  have z1 := r.length
  have z2 := r2.length
  obtain ⟨⟨cls, dd, data, sl⟩, n, ho, hc, hdd, hd⟩ := pl
  obtain ⟨⟨cls2, dd2, data2, sl2⟩, n2, ho2, hc2, hdd2, hd2⟩ := pl2
  simp only at hc hd hc2 hd2
  subst hc hd hc2 hd2
  have ea : its.toArray ++ its2.toArray = (its ++ its2).toArray := by simp
  refine concat_meets ⟨_, ho, rfl⟩ ⟨_, ho2, rfl⟩ noFill_list_add seq_list_add PySem.F.slot_list_add PySem.F.entry_list_add (PySem.F.args_list_add_2 _ _) (list_addW l b its.toArray its2.toArray n n2 dd dd2 sl sl2 (by rw [List.size_toArray, List.size_toArray]; omega)) ⟨ho, ho2, ?_⟩
  rw [ea]
  exact ⟨.ref _, _, I.lnew (t' := s.toks) (r.append r2) (by rw [List.length_append]; omega), rfl, q _ I.fresh⟩
theorem en_catL (ha : EvD X a G (.list ds)) (hb : EvD X b G (.list dt)) (hl : ds.length + dt.length ≤ sizeLine) : EvN X (.BinOp a .Add b pos) G (ds ++ dt) := fun H0 S H σ o i Q q =>
  we (pe_op op_catL pe_w pe_w) (ha H0 S H σ o i _ fun v1 S1 H1 x1 d1 => hb H0 S1 H1 σ (o.ext x1) x1.i _ fun v2 S2 H2 x2 d2 => by
    have x3 := x1.trans x2
    cases d1 with
    | lst hq hA =>
      cases d2 with
      | lst hq2 hA2 =>
        exact ⟨_, _, _, _, rfl, rfl, x2.i.sqL (x2.s.sqL hq), x2.i.sqL hq2, by rw [DpAll.len hA, DpAll.len hA2]; exact hl, fun p hp => q p _ S2 _ (x3.own (x3.h.none hp) (x3.i.none hp)) (x3.h.none hp) (x3.i.none hp) upd_same (DpAll.app hA2 (x2.s.dpAll hA))⟩)
/-- t[lo:hi] of a tuple -/
theorem ev_slT (ha : EvD X a G (.tuple ds)) (h1 : EvO X lo G l) (h2 : EvO X hi G u) : EvD X (.Subscript a (.Slice lo hi none p2) pos) G (.tuple (cutD ds l u)) := fun H0 S H σ o i Q q =>
  we (pe_slice sl_tupZ pe_w po_w po_w) (ha H0 S H σ o i _ fun v S1 H1 x1 d1 => h1 H0 S1 H1 σ (o.ext x1) x1.i _ fun S2 H2 x2 => h2 H0 S2 H2 σ ((o.ext x1).ext x2) x2.i _ fun S3 H3 x3 => by
    cases d1 with
    | tup hq hA =>
      rename_i ad vs
      have x4 := (x1.trans x2).trans x3
      have hl := DpAll.len hA
      have e3 := x3.s.dpAll (x2.s.dpAll hA)
      have sq := x3.s.sqZ (x2.s.sqZ hq)
      refine ⟨ad, vs, rfl, (x3.i.sqT sq.t), fun z => ?_, fun z p ob hp z1 z2 => ?_⟩
      · have e : cutD ds l u = ds := by
          unfold cutD
          rw [← hl, z.1, z.2, List.drop_zero, Nat.sub_zero, hl, List.take_length]
        refine q _ _ _ x4 ?_
        rw [e]
        exact .tup sq e3
      · refine q _ _ _ (x4.add hp) (.tup (SqZ.of upd_same z1 z2) (((Ex.refl S3).new (x4.i.none hp)).dpAll ?_))
        unfold cutV cutD
        rw [hl]
        exact DpAll.takeD _ (DpAll.dropD _ e3))
/-! in -/
theorem rd_inD {K : Fg} (h1 : SeqAt.shaped d = true) (h2 : SeqAt.shaped (.list ds) = true) : RD K (rInD K) d (.list ds) (.bool (ds.any fun z => PyData.eqv z d)) := fun S H x y e d1 d2 Q q =>
  ⟨d, ds, (e.dp d1).old, (e.dp d2).old, h1, h2, q _ S H (Ext.refl e) (.bl _)⟩
theorem rd_notInD {K : Fg} (h1 : SeqAt.shaped d = true) (h2 : SeqAt.shaped (.list ds) = true) : RD K (rNotInD K) d (.list ds) (.bool (!ds.any fun z => PyData.eqv z d)) := fun S H x y e d1 d2 Q q =>
  ⟨d, ds, (e.dp d1).old, (e.dp d2).old, h1, h2, q _ S H (Ext.refl e) (.bl _)⟩
theorem et_inD (hu : X.A.units + 65 < cLine) (ha : EvD X a G d) (hb : EvD X b G (.list ds)) (h1 : SeqAt.shaped d = true) (h2 : SeqAt.shaped (.list ds) = true) (hm : behindInMarks .In b = false := by rfl) : EvT X (.Compare a [.In] [b] pos) G (ds.any fun z => PyData.eqv z d) :=
  et_op2 (pt_cmpR (op_inD hu) pe_w pe_w hm) ha hb (rd_inD h1 h2)
theorem et_notInD (hu : X.A.units + 65 < cLine) (ha : EvD X a G d) (hb : EvD X b G (.list ds)) (h1 : SeqAt.shaped d = true) (h2 : SeqAt.shaped (.list ds) = true) (hm : behindInMarks .NotIn b = false := by rfl) : EvT X (.Compare a [.NotIn] [b] pos) G (!ds.any fun z => PyData.eqv z d) :=
  et_op2 (pt_cmpR (op_notInD hu) pe_w pe_w hm) ha hb (rd_notInD h1 h2)
/-! min, max of a list of ints -/
theorem dpAll_ints' {K : Fg} {H : Hp} : ∀ {ns : List Int} {vs : List V}, DpAll K H vs (ns.map PyData.int) → vs = ns.map V.int
  | [], _, h => by cases h; rfl
  | n :: ns, _, h => by
    cases h with
    | cons h1 h2 =>
      cases h1
      rw [dpAll_ints' h2]
      rfl
theorem ev_minL {ns : List Int} {m : Int} (hm : X.mg "min" = none) (ha : EvD X a G (.list (ns.map .int))) (h0 : m ∈ ns) (h1 : ∀ y ∈ ns, m ≤ y) (hc : X.calm = true := by rfl) (hg : Gl X "min" := by rfl)
    (he : starEach [a] X.env = (false, eval a X.env) :: starEach [] X.env := by first | exact sk_name | exact sk_const | exact sk_sub | exact sk_bin | exact sk_call | exact sk_tup | exact sk_lst | exact sk_cmp | exact sk_lc | exact sk_un | exact sk_bool | exact sk_attr | exact sk_if | rfl) (hpl : (backTo pos (starEach [] X.env)).any (·.1) = false := by rfl) : EvD X (.Call (.Name "min" p) [a] [] pos) G (.int m) :=
  ev_cb (pe_callB (cr_min hc) hg hm (by decide +kernel) pa_w (by decide) (by decide) he hpl) (ea_cons ha ea_nil he) fun S H vs e d1 Q q => by
    cases d1 with
    | cons d1 d2 =>
      cases d2
      cases d1 with
      | lst hs hA =>
        have e' := dpAll_ints' hA
        subst e'
        refine ⟨_, ns, rfl, e.sqL hs, List.length_pos_of_mem h0, fun m' hm' hle => ?_⟩
        have : m' = m := by
          have := hle m h0
          have := h1 m' hm'
          omega
        subst this
        exact q _ S H (Ext.refl e) (.int _)
theorem ev_maxL {ns : List Int} {m : Int} (hm : X.mg "max" = none) (ha : EvD X a G (.list (ns.map .int))) (h0 : m ∈ ns) (h1 : ∀ y ∈ ns, y ≤ m) (hc : X.calm = true := by rfl) (hg : Gl X "max" := by rfl)
    (he : starEach [a] X.env = (false, eval a X.env) :: starEach [] X.env := by first | exact sk_name | exact sk_const | exact sk_sub | exact sk_bin | exact sk_call | exact sk_tup | exact sk_lst | exact sk_cmp | exact sk_lc | exact sk_un | exact sk_bool | exact sk_attr | exact sk_if | rfl) (hpl : (backTo pos (starEach [] X.env)).any (·.1) = false := by rfl) : EvD X (.Call (.Name "max" p) [a] [] pos) G (.int m) :=
  ev_cb (pe_callB (cr_max hc) hg hm (by decide +kernel) pa_w (by decide) (by decide) he hpl) (ea_cons ha ea_nil he) fun S H vs e d1 Q q => by
    cases d1 with
    | cons d1 d2 =>
      cases d2
      cases d1 with
      | lst hs hA =>
        have e' := dpAll_ints' hA
        subst e'
        refine ⟨_, ns, rfl, e.sqL hs, List.length_pos_of_mem h0, fun m' hm' hle => ?_⟩
        have : m' = m := by
          have := hle m h0
          have := h1 m' hm'
          omega
        subst this
        exact q _ S H (Ext.refl e) (.int _)
end
end DL

/-! sorted of a list of pairs (d, text), the same d in all of them; of a list of texts. -/
namespace DL
open PySem PySem.Spec PyProof.Rows L2

theorem lst_asym {a b : List Nat} (h : a < b) : ¬ b < a := List.lt_asymm h
theorem lst_ntr {a b c : List Nat} (h1 : ¬ b < a) (h2 : ¬ c < b) : ¬ c < a := by
  have h3 : a ≤ b := List.not_lt.mp h1
  have h4 : b ≤ c := List.not_lt.mp h2
  exact List.not_lt.mpr (List.le_trans h3 h4)
/-- the text of a pair -/
def nmV : Option Value → Str
  | some (.str x _) => x
  | _ => ""
def nmD : Data → Str
  | .seq xs _ => nmV xs.toList[1]?
  | _ => ""
def nmO : Option Obj → Str
  | some o => nmD o.data
  | none => ""
def nmOf (h : Heap) : Value → Str
  | .ref a => nmO (h.get? a)
  | _ => ""
structure IsPr (h : Heap) (d : D) (v : Value) : Prop where
  ex : ∃ (a : Addr) (o : Obj) (f : Value) (x : Str) (t : Tok) (n : Nat) (as : List Addr), v = .ref a ∧ h.get? a = some o ∧ o.cls = .type "tuple" ∧ o.data = .seq #[f, .str x t] n ∧ Reads h f d as ∧ nmOf h v = x
theorem IsPr.keeps {h h' : Heap} {d : D} {v : Value} (p : IsPr h d v) (k : ∀ b o, h.get? b = some o → h'.get? b = some o) : IsPr h' d v ∧ nmOf h' v = nmOf h v := by
  obtain ⟨a, o, f, x, t, n, as, rfl, ho, hc, hd, r, e⟩ := p.ex
  have e2 : nmOf h' (.ref a) = x := by
    show nmO (h'.get? a) = x
    rw [k _ _ ho]
    show nmD o.data = x
    rw [hd]
    rfl
  exact ⟨⟨a, o, f, x, t, n, as, rfl, k _ _ ho, hc, hd, Reads.keeps k r, e2⟩, e2.trans e.symm⟩
section
variable {prog : Program} {w : World} {A : Around} {E : Value → Shared → Prop} {s : Shared} {d : D}
abbrev ltN (nm : Value → Str) (v u : Value) : Bool := decide ((nm v).cps.toList < (nm u).cps.toList)
theorem swoN (nm : Value → Str) : SrtO.Swo (ltN nm) :=
  ⟨fun x y h => decide_eq_false (lst_asym (of_decide_eq_true h)), fun x y z h1 h2 => decide_eq_false (lst_ntr (of_decide_eq_false h1) (of_decide_eq_false h2))⟩
theorem pr_cmp {vs : List Value} {nm : Value → Str} (hu : A.units + d.depth < cLine) (hl : d.canLay0 = true) (he : PyData.eqv d d = true) (hp : ∀ v ∈ vs, IsPr s.heap d v ∧ nmOf s.heap v = nm v) :
    SrtO.Cmp prog w A s (tuples' false) (fun p => p.1 ∈ vs) (SrtO.lt2 (ltN nm)) := by
  rintro ⟨v, v'⟩ ⟨u, u'⟩ hv hw
  obtain ⟨pv, ev⟩ := hp v hv
  obtain ⟨pu, eu⟩ := hp u hw
  obtain ⟨a, o, f, x, t, n, as, rfl, ho, hc, hd, r, e⟩ := pv.ex
  obtain ⟨a2, o2, f2, x2, t2, n2, as2, rfl, ho2, hc2, hd2, r2, e2⟩ := pu.ex
  have e3 : ltN nm (.ref a) (.ref a2) = decide (x.cps.toList < x2.cps.toList) := by
    show decide ((nm _).cps.toList < (nm _).cps.toList) = _
    rw [← ev, ← eu, e, e2]
  refine PySem.W.kat_lt ho hd ho2 hd2 (PySem.W.kat_cons ?_)
  refine SeqAt.eqBoolOverData prog w A _ s f f2 d d as as2 _ r r2 hl hl (by rw [Nat.min_self]; exact hu) ?_
  rw [he]
  refine PySem.W.kat_yes (PySem.W.kat_cons (wpAny_eqBool_str ?_))
  by_cases c : x = x2
  · subst c
    rw [decide_eq_true rfl]
    refine PySem.W.kat_yes (PySem.W.kat_nil ⟨rfl, ?_⟩)
    show _ = ltN nm (.ref a) (.ref a2)
    rw [e3, decide_eq_false (List.lt_irrefl _)]
    rfl
  · rw [decide_eq_false c]
    refine PySem.W.kat_no (oneLt_any_str ⟨rfl, ?_⟩)
    exact e3.symm
theorem pr_tups {h : Heap} : ∀ {vs : List Value}, (∀ v ∈ vs, IsPr h d v) → ∃ fs, PySem.W.KatTups h vs fs ∧ fs.length = vs.length ∧ ∀ f ∈ fs, ∃ as, Reads h f d as
  | [], _ => ⟨[], PySem.W.KatTups.nil, rfl, fun f hf => by cases hf⟩
  | v :: vs, hp => by
    obtain ⟨fs, k, l, r⟩ := pr_tups (vs := vs) fun u hu => hp u (List.mem_cons_of_mem _ hu)
    obtain ⟨a, o, f, x, t, n, as, rfl, ho, hc, hd, r1, e⟩ := (hp v List.mem_cons_self).ex
    refine ⟨f :: fs, PySem.W.KatTups.cons ho hc hd rfl k, by rw [List.length_cons, List.length_cons, l], fun g hg => ?_⟩
    rcases List.mem_cons.mp hg with z | z
    · subst z
      exact ⟨_, r1⟩
    · exact r g z
theorem pr_sortable {a : Addr} {vs : List Value} {nm : Value → Str} {ds : List D} (h2 : 2 ≤ vs.length) (hd : d = .tuple ds) (hu : A.units + d.depth < cLine) (hl : d.canLay0 = true) (he : PyData.eqv d d = true)
    (hp : ∀ h' : Heap, (∀ b o, b ≠ a → s.heap.get? b = some o → h'.get? b = some o) → ∀ v ∈ vs, IsPr h' d v ∧ nmOf h' v = nm v) : SrtO.SortableO prog w A s a vs (ltN nm) := by
  intro h' keep
  have hp' := hp h' keep
  obtain ⟨fs, k, l, r⟩ := pr_tups (h := h') fun v hv => (hp' v hv).1
  refine ⟨tuples' false, fun Q E hq => ?_, pr_cmp (s := { s with heap := h' }) hu hl he hp'⟩
  refine PySem.W.kat_kind (T := .type "tuple") k (by omega) (fun f hm => ?_) (by rfl) ?_
  · obtain ⟨as, rr⟩ := r f hm
    subst hd
    cases rr with
    | tuple ho hc _ _ =>
      rw [← hc]
      exact (PySem.W.Looks.ld ho).andThen .now
  · exact hq
end
/-- sorted of pairs (d, text): by their texts -/
def encN (d : D) (n : Str) : D := .tuple [d, .str n]
def rSortedPr (K : Fg) : List V → Hp → VK → Prop := fun vs H Q => ∃ (S : Hp) (a : Addr) (xs : List V) (ds : List D) (ns : List Str), Ex S H ∧ vs = [.ref a] ∧ SqL K H a xs ∧ DpAll K S xs (ns.map (encN (.tuple ds))) ∧ SeqAt.shaped (.tuple ds) = true ∧ (PyData.tuple ds).depth ≤ 32 ∧
  ∀ (ys : List V) (ms : List Str) (p : Addr), ms.Perm ns → ms.Pairwise (fun x y => ¬ y.cps.toList < x.cps.toList) → DpAll K S ys (ms.map (encN (.tuple ds))) → H p = none → Q (.ref p) (upd H p (.lst ys))
theorem dpAll_of {K : Fg} {H : Hp} {α : Type} {enc : α → D} {g : Value → V} {nm : Value → α} : ∀ {us : List Value}, (∀ u ∈ us, Dp K H (g u) (enc (nm u))) → DpAll K H (us.map g) ((us.map nm).map enc)
  | [], _ => .nil
  | u :: us, h => .cons (h u List.mem_cons_self) (dpAll_of fun v hv => h v (List.mem_cons_of_mem _ hv))
section
variable {X : Cx}
theorem prs_of {pins : List (Addr × Obj)} {σ : L2.St} {H : Hp} {s : Shared} (I : Inv X pins σ H s) {S : Hp} (ex : Ex S H) {d : D} : ∀ {ns : List Str} {xs : List V} {us : List Value}, DpAll X.K S xs (ns.map (encN d)) → Vals xs us →
    us.map (nmOf s.heap) = ns ∧ ∀ u ∈ us, ∃ t, u = .ref t ∧ Dp X.K S (.ref t) (encN d (nmOf s.heap u)) ∧ IsPr s.heap d u
  | [], _, _, h, r => by
    cases h
    cases r
    exact ⟨rfl, fun u hu => by cases hu⟩
  | n :: ns, _, _, h, r => by
    cases h with
    | cons h1 h2 =>
      cases r with
      | cons r1 r2 =>
        rename_i us u
        obtain ⟨e, k⟩ := prs_of I ex (ns := ns) h2 r2
        have h1' := h1
        replace h1 := ex.dp h1
        unfold encN at h1
        cases h1 with
        | tup hq hA =>
          rename_i t vs
          cases r1
          obtain ⟨its, rv, ⟨o, ho, hc, m, hd⟩, _⟩ := I.tuple hq.t
          cases hA with
          | cons d1 d2 =>
            cases d2 with
            | cons d2 d3 =>
              cases d3
              cases d2
              cases rv with
              | cons v1 v2 =>
                cases v2 with
                | cons v2 v3 =>
                  cases v3
                  obtain ⟨tk, rfl⟩ := v2
                  obtain ⟨as, rr⟩ := L2.Dp.reads I _ _ _ d1.old v1
                  have en : nmOf s.heap (.ref t) = n := by
                    show nmO (s.heap.get? t) = n
                    rw [ho]
                    show nmD o.data = n
                    rw [hd]
                    rfl
                  refine ⟨by rw [List.map_cons, e, en], fun z hz => ?_⟩
                  rcases List.mem_cons.mp hz with c | c
                  · subst c
                    refine ⟨t, rfl, ?_, ⟨t, o, _, n, tk, m, as, rfl, ho, hc, hd, rr, en⟩⟩
                    rw [en]
                    exact h1'
                  · exact k z c
theorem cr_sortedPr (hu : X.A.units + 64 < cLine) : CallR X (.builtin "sorted") (rSortedPr X.K) := by
  intro pins s σ H vs us Q I r h
  obtain ⟨S, a, xs, ds, ns, ex, rfl, hs, hA, hsh, hdp, q⟩ := h
  obtain ⟨its, rv, hl, hz⟩ := I.list hs
  obtain ⟨u, rfl, ru⟩ := vals1 r
  obtain rfl : u = Value.ref a := ru
  obtain ⟨en, hp⟩ := prs_of I ex hA rv
  refine SrtO.sorted_ord (ltv := ltN (nmOf s.heap)) (swoN _) hl.isList (by rw [← rv.length]; exact hz) (fun h2 h₁ a₁ ha kk => ?_) fun out h1 h2 => ?_
  · refine pr_sortable (s := { s with heap := h₁ }) (ds := ds) h2 rfl ?_ (SeqAt.canLay_of_shaped hsh) (SeqAt.eqv_refl _ (SeqAt.canLay_of_shaped hsh)) fun h' keep v hv => ?_
    · show X.A.units + 1 + 1 + (PyData.tuple ds).depth < cLine
      omega
    · obtain ⟨t, _, _, ip⟩ := hp v hv
      exact ip.keeps fun b o e => keep b o (kk b o e).1 (kk b o e).2
  · have hm : ∀ u ∈ out, u ∈ its := fun u hu => h2.perm.mem_iff.mp hu
    have h3 : ∀ u ∈ out, ∃ t, u = Value.ref t := fun u hu => let ⟨t, e, _⟩ := hp u (hm u hu); ⟨t, e⟩
    obtain ⟨n, hn⟩ := sortedAll_at s.heap its out.toArray
    have hlen : out.length = its.length := h2.perm.length_eq
    refine ⟨.ref _, upd H (s.heap.objs.size + 1) (.lst (out.map backV)), I.laid (t' := s.toks) (fun _ _ => sortedAll_old) (Nat.le_succ _) ⟨?_, out, n, vals_back h3, hn⟩, rfl, q _ (out.map (nmOf s.heap)) _ ?_ ?_ ?_ (I.hok.fresh (Nat.le_succ _))⟩
    · rw [List.length_map, hlen, ← rv.length]
      exact hz
    · rw [← en]
      exact h2.perm.map _
    · exact List.pairwise_map.mpr (h1.imp fun {x y} h => of_decide_eq_false h)
    · refine dpAll_of fun u hu => ?_
      obtain ⟨t, rfl, hd, _⟩ := hp u (hm u hu)
      exact hd
end
/-! the rules -/
def SrtS (l : List Str) : Prop := l.Pairwise (fun x y => ¬ y.cps.toList < x.cps.toList)
theorem str_anti {x y : Str} (h1 : ¬ y.cps.toList < x.cps.toList) (h2 : ¬ x.cps.toList < y.cps.toList) : x = y := by
  have e : x.cps.toList = y.cps.toList := List.le_antisymm (List.not_lt.mp h1) (List.not_lt.mp h2)
  have hc : x.cps = y.cps := Array.toList_inj.mp e
  cases x; cases y
  simp only [Str.mk.injEq]
  exact hc
theorem srtS_uniq : ∀ {l m : List Str}, l.Perm m → SrtS l → SrtS m → l = m
  | [], m, p, _, _ => p.nil_eq
  | x :: l, [], p, _, _ => absurd p.length_eq (by rw [List.length_cons, List.length_nil]; omega)
  | x :: l, y :: m, p, h1, h2 => by
    obtain ⟨a1, a2⟩ := List.pairwise_cons.mp h1
    obtain ⟨b1, b2⟩ := List.pairwise_cons.mp h2
    have e : x = y := by
      by_cases c : x = y
      · exact c
      · have m1 : x ∈ m := (List.mem_cons.mp (p.mem_iff.mp List.mem_cons_self)).resolve_left c
        have m2 : y ∈ l := (List.mem_cons.mp (p.mem_iff.mpr List.mem_cons_self)).resolve_left fun z => c z.symm
        exact str_anti (a1 y m2) (b1 x m1)
    subst e
    rw [srtS_uniq p.cons_inv a2 b2]
theorem risingS_all : ∀ {l : List Str} {p : Str}, risingS p l = true → (∀ y ∈ l, ¬ y.cps.toList < p.cps.toList) ∧ SrtS l
  | [], p, _ => ⟨fun y hy => (nomatch hy), List.Pairwise.nil⟩
  | x :: r, p, h => by
    have h' : (!ltCps x.cps.toList p.cps.toList && risingS x r) = true := h
    obtain ⟨h1, h2⟩ := (Bool.and_eq_true _ _).mp h'
    obtain ⟨i1, i2⟩ := risingS_all h2
    have h3 : ¬ x.cps.toList < p.cps.toList := by
      rw [ltCps_eq] at h1
      intro z
      rw [decide_eq_true z] at h1
      cases h1
    refine ⟨fun y hy => ?_, List.pairwise_cons.mpr ⟨i1, i2⟩⟩
    rcases List.mem_cons.mp hy with z | z
    · subst z
      exact h3
    · exact lst_ntr h3 (i1 y z)
theorem sortedS_srt : ∀ {l : List Str}, sortedS l = true → SrtS l
  | [], _ => List.Pairwise.nil
  | x :: r, h => List.pairwise_cons.mpr (risingS_all h)
section
variable {X : Cx} {G : Gam} {a : Expr} {p pos : Pos} {ds : List D} {ns ms : List Str}
theorem en_sortedPr (hu : X.A.units + 64 < cLine) (hm : X.mg "sorted" = none) (ha : EvD X a G (.list (ns.map (encN (.tuple ds))))) (hsh : SeqAt.shaped (.tuple ds) = true) (hdp : (PyData.tuple ds).depth ≤ 32) (h1 : ms.Perm ns) (h2 : SrtS ms) (hg : Gl X "sorted" := by rfl)
    (he : starEach [a] X.env = (false, eval a X.env) :: starEach [] X.env := by first | exact sk_name | exact sk_const | exact sk_sub | exact sk_bin | exact sk_call | exact sk_tup | exact sk_lst | exact sk_cmp | exact sk_lc | exact sk_un | exact sk_bool | exact sk_attr | exact sk_if | rfl) (hpl : (backTo pos (starEach [] X.env)).any (·.1) = false := by rfl) : EvN X (.Call (.Name "sorted" p) [a] [] pos) G (ms.map (encN (.tuple ds))) := fun H0 S H σ o i Q q =>
  we (pe_callB (cr_sortedPr hu) hg hm (by decide +kernel) pa_w (by decide) (by decide) he hpl) (ea_cons ha ea_nil he H0 S H σ o i _ fun vs S1 H1 x1 d1 => by
    cases d1 with
    | cons d1 d2 =>
      cases d2
      cases d1 with
      | lst hs hA =>
        refine ⟨S1, _, _, ds, ns, x1.i, rfl, x1.i.sqL hs, hA, hsh, hdp, fun ys ms' p m1 m2 m3 hp => ?_⟩
        have e : ms' = ms := srtS_uniq (m1.trans h1.symm) m2 h2
        subst e
        exact q p _ S1 _ (x1.own (x1.h.none hp) (x1.i.none hp)) (x1.h.none hp) (x1.i.none hp) upd_same m3)
/-- sorted of texts -/
theorem en_sortedS (hm : X.mg "sorted" = none) (ha : EvD X a G (.list (ns.map .str))) (hl : ns.length < 64) (h1 : ms.Perm ns) (h2 : SrtS ms) (hg : Gl X "sorted" := by rfl)
    (he : starEach [a] X.env = (false, eval a X.env) :: starEach [] X.env := by first | exact sk_name | exact sk_const | exact sk_sub | exact sk_bin | exact sk_call | exact sk_tup | exact sk_lst | exact sk_cmp | exact sk_lc | exact sk_un | exact sk_bool | exact sk_attr | exact sk_if | rfl) (hpl : (backTo pos (starEach [] X.env)).any (·.1) = false := by rfl) : EvN X (.Call (.Name "sorted" p) [a] [] pos) G (ms.map .str) := fun H0 S H σ o i Q q =>
  we (pe_callB cr_sortedS hg hm (by decide +kernel) pa_w (by decide) (by decide) he hpl) (ea_cons ha ea_nil he H0 S H σ o i _ fun vs S1 H1 x1 d1 => by
    cases d1 with
    | cons d1 d2 =>
      cases d2
      cases d1 with
      | lst hs hA =>
        have e := dpAll_strs' hA
        subst e
        refine ⟨_, ns, rfl, x1.i.sqL hs, hl, fun ys p m1 m2 hp => ?_⟩
        have e : ys = ms := srtS_uniq (m1.trans h1.symm) (sortedS_srt m2) h2
        subst e
        exact q p _ S1 _ (x1.own (x1.h.none hp) (x1.i.none hp)) (x1.h.none hp) (x1.i.none hp) upd_same (dpAll_strs _))
end
end DL

/-! Lists of a function's own, read. -/
namespace DL
open PySem PySem.Spec PyProof.Rows L2
/-- e is a list, its own or not -/
def EvB (X : Cx) (e : Expr) (G : Gam) (ds : List D) : Prop := ∀ (H0 S H : Hp) (σ : L2.St), Hol X.K H0 S H σ G → Ex S H → ∀ Q : VK, (∀ p vs S' H', Ext S H S' H' → SqL X.K H' p vs → DpAll X.K S' vs ds → Q (.ref p) H') → WE X e σ H Q
section
variable {X : Cx} {G : Gam} {a b c e : Expr} {x : Str} {p p2 np pos : Pos} {d da db : D} {ds dt rs : List D} {lo hi : Option Expr} {l u : Option Int}
theorem eb_im (h : EvD X e G (.list ds)) : EvB X e G ds := fun H0 S H σ o i Q q => h H0 S H σ o i Q fun v S1 H1 x1 d1 => by
  cases d1 with
  | lst hs hA => exact q _ _ S1 H1 x1 (x1.i.sqL hs) hA
theorem eb_own (n : Nat) (hN : X.N[n]? = some x := by rfl) (hG : G[n]? = some (.own ds) := by rfl) (hv : Vis X.env.scope x := by first | exact Or.inl rfl | exact Or.inr (Or.inl rfl) | exact Or.inr (Or.inr rfl)) (hd : (x == ("__debug__" : Str)) = false := by decide)
    (hcd : (x == ("__classdict__" : Str)) = false := by decide) : EvB X (.Name x pos) G ds := fun H0 S H σ o i Q q => by
  obtain ⟨p, vs, a1, a2, a3, a4, a5⟩ := o.own n ds hG
  exact we (pe_var (i := n) hN hv hd hcd) ⟨_, a1, q p vs S H (Ext.refl i) (SqL.of a4) a5⟩
theorem ev_ixB {k : Int} (ha : EvB X a G ds) (hb : EvD X b G (.int k)) (h : atI ds k = some d) (hs : PlainIx b := by exact fun _ _ => rfl) : EvD X (.Subscript a b pos) G d := fun H0 S H σ o i Q q =>
  we (pe_ix ix_list pe_w pe_w hs) (ha H0 S H σ o i _ fun p vs S1 H1 x1 sq dA => hb H0 S1 H1 σ (o.ext x1) x1.i _ fun y S2 H2 x2 d2 => by
    cases d2
    obtain ⟨v, h1, h2⟩ := DpAll.at dA h
    exact ⟨_, _, k, v, rfl, rfl, x2.h.sqL sq, h1, q v S2 H2 (x1.trans x2) (x2.s.dp h2)⟩)
theorem ev_lenB (hm : X.mg "len" = none) (ha : EvB X a G ds) (hg : Gl X "len" := by rfl)
    (he : starEach [a] X.env = (false, eval a X.env) :: starEach [] X.env := by first | exact sk_name | exact sk_const | exact sk_sub | exact sk_bin | exact sk_call | exact sk_tup | exact sk_lst | exact sk_cmp | exact sk_lc | exact sk_un | exact sk_bool | exact sk_attr | exact sk_if | rfl) (hpl : (backTo pos (starEach [] X.env)).any (·.1) = false := by rfl) : EvD X (.Call (.Name "len" p) [a] [] pos) G (.int (ds.length : Nat)) := fun H0 S H σ o i Q q =>
  we (pe_callB call_len_seq hg hm PySem.boot_len (pa_cons pe_w pa_nil he) (by decide) (by decide) he hpl) (ha H0 S H σ o i _ fun p vs S1 H1 x1 sq dA => by
    refine ⟨_, _, rfl, .inl sq, ?_⟩
    rw [DpAll.len dA]
    exact q _ S1 H1 x1 (.int _))
theorem et_notInB (hu : X.A.units + 65 < cLine) (ha : EvD X a G d) (hb : EvB X b G ds) (h1 : SeqAt.shaped d = true) (h2 : SeqAt.shaped (.list ds) = true) (hm : behindInMarks .NotIn b = false := by rfl) : EvT X (.Compare a [.NotIn] [b] pos) G (!ds.any fun z => PyData.eqv z d) := fun H0 S H σ o i Q q =>
  wt (pt_cmpR (op_notInD hu) pe_w pe_w hm) (ha H0 S H σ o i _ fun v S1 H1 x1 d1 => hb H0 S1 H1 σ (o.ext x1) x1.i _ fun p vs S2 H2 x2 sq dA =>
    ⟨d, ds, (x2.i.dp (x2.s.dp d1)).old, .lst sq (x2.i.dpAll dA).old, h1, h2, _, rfl, q S2 H2 (x1.trans x2)⟩)
theorem et_inB (hu : X.A.units + 65 < cLine) (ha : EvD X a G d) (hb : EvB X b G ds) (h1 : SeqAt.shaped d = true) (h2 : SeqAt.shaped (.list ds) = true) (hm : behindInMarks .In b = false := by rfl) : EvT X (.Compare a [.In] [b] pos) G (ds.any fun z => PyData.eqv z d) := fun H0 S H σ o i Q q =>
  wt (pt_cmpR (op_inD hu) pe_w pe_w hm) (ha H0 S H σ o i _ fun v S1 H1 x1 d1 => hb H0 S1 H1 σ (o.ext x1) x1.i _ fun p vs S2 H2 x2 sq dA =>
    ⟨d, ds, (x2.i.dp (x2.s.dp d1)).old, .lst sq (x2.i.dpAll dA).old, h1, h2, _, rfl, q S2 H2 (x1.trans x2)⟩)
theorem en_slB (ha : EvB X a G ds) (h1 : EvO X lo G l) (h2 : EvO X hi G u) : EvN X (.Subscript a (.Slice lo hi none p2) pos) G (cutD ds l u) := fun H0 S H σ o i Q q =>
  we (pe_slice sl_list pe_w po_w po_w) (ha H0 S H σ o i _ fun pp vs S1 H1 x1 sq hA => h1 H0 S1 H1 σ (o.ext x1) x1.i _ fun S2 H2 x2 => h2 H0 S2 H2 σ ((o.ext x1).ext x2) x2.i _ fun S3 H3 x3 => by
    have x4 := (x1.trans x2).trans x3
    have hl := DpAll.len hA
    refine ⟨pp, vs, rfl, x3.h.sqL (x2.h.sqL sq), fun p hp => q p _ _ _ (x4.own (x4.h.none hp) (x4.i.none hp)) (x4.h.none hp) (x4.i.none hp) upd_same ?_⟩
    unfold cutV cutD
    rw [hl]
    exact DpAll.takeD _ (DpAll.dropD _ (x3.s.dpAll (x2.s.dpAll hA))))
/-- the last of a list -/
theorem atI_last {α : Type} {l : List α} {a : α} (h : l[l.length - 1]? = some a) : atI l (-1) = some a := by
  have hl : l.length - 1 < l.length := (List.getElem?_eq_some_iff.mp h).1
  have e : ixN l.length (-1) = some (l.length - 1) := by
    unfold ixN
    rw [if_neg (by decide), if_pos (by omega)]
    have e2 : ((-1 : Int) + (l.length : Int)).toNat = l.length - 1 := by omega
    rw [e2]
  unfold atI
  rw [e]
  exact h
/-- -1 as a place -/
theorem ev_minus1 {k : Nat} {p3 : Pos} : EvD X (.UnaryOp .USub (.Constant (.int 1) k p3) pos) G (.int (-1)) := ev_neg ev_int
end
end DL

/-! y = [.. for ..]: comprehensions as statements of their own. -/
namespace DL
open PySem PySem.Spec PyProof.Rows L2
theorem Met.slot {X : Cx} {W : WX} {F : DL.Fin} {E : Ends} {S0 H0 S H S1 H1 S' H' : Hp} {σ : L2.St} {G : Gam} {L : Addr} {acc : List V} {rs : List D} {si : Nat} (m : Met X W S0 H0 F E) (z : Ext S0 H0 S H) (y : Ext S H S' H') (o : Hol X.K H0 S H σ G) (hL : H1 L = none) (x1 : Ext S H S1 H1)
    (n1 : S' L = none) (h1 : H' L = some (.lst acc)) (d1 : DpAll X.K S' acc rs) (k : F.nx (G.set si (.own rs))) : gName si (.ref L) σ H' E.nx := by
  have hL0 : H L = none := x1.h.none hL
  refine m.nx _ S' H' _ (z.trans y) ((o.ext y).set_own (z.h.none hL0) n1 h1 d1 fun j es hj hg hv => ?_) k
  · obtain ⟨q, ws', a1, a2, a3, a4, a5⟩ := o.own j es hg
    rw [a1] at hv
    have z : q = L := V.ref.inj (Option.some.inj (Option.some.inj hv))
    subst z
    rw [a4] at hL0
    cases hL0
section
variable {X : Cx} {G : Gam} {it elt tgt a b c e : Expr} {x : Str} {p p2 np pos : Pos} {scope : Scope} {d da db : D} {ds dt rs : List D} {g : TG} {own : List (Str × Nat)}
/-- [elt for tgt in a list if c] -/
theorem gs_setLcL {y : Str} {py spos : Pos} {W : WX} {F : DL.Fin} (si : Nat) {α : Type} {ifs : List Expr} (ms : List α) (enc : α → D) (bf : α → Bool) (rf : α → D) (he : EvD X it G (.list (ms.map enc)))
    (ht : ∀ (i : Nat) (a : α), ms[i]? = some a → Turn X scope ifs elt g (own.map (·.2)) G (enc a) (bf a) (rf a))
    (hz : ms.length < sizeLine) (hif : ifs.length ≤ 1) (hN : X.N.Nodup) (hc : X.calm = true) (ok : BlkOk X.N X.env.scope scope own)
    (hg : ∀ (s : Shared) (H : Hp) (C : Addr) (cl : List (Str × Addr)) (fp : List Addr), PG (X.blk s H scope (compEnvC scope cl C X.env) fp) tgt g)
    (hs : ∀ x, foldedSetIterable it X.env x = pure x := by intro _; rfl) (k : F.nx (G.set si (.own ((ms.filter bf).map rf)))) (hsw : swapsWith (.ListComp elt [⟨tgt, it, ifs, 0⟩] scope pos) (some (.Name y py)) spos.line X.env = pure true) (hyi : X.N[si]? = some y := by rfl) (hyl : X.env.scope.names.lookup y = some .local := by rfl) : GS X W (.Assign [.Name y py] (.ListComp elt [⟨tgt, it, ifs, 0⟩] scope pos) spos) F G := fun S0 H0 S H σ E z o m => by
  refine ws (ps_setLc (i := si) (own := own) (g := g) (tt := tIfs X scope ifs) (te := TEb X scope elt) hc hN hyi hyl hsw (pi_list pe_w) ok hg (fun s H C cl fp => pts_ifs s H C cl fp hif)
    (fun s H0 C cl fp => ⟨fun pins s1 σ H Q I h => h s H0 C cl fp pins s1 I⟩) hs) (he H0 S H σ o z.i _ fun v S1 H1 x1 d1 => ?_)
  cases d1 with
  | lst hq ha =>
    rename_i ad vs
    have hvl := DpAll.len ha
    rw [List.length_map] at hvl
    refine ⟨ad, rfl, ⟨vs, x1.i.sqL hq⟩, fun L hL => lc_list (K := X.K) (a := ad) (xs := vs) (g := g) (tt := tIfs X scope ifs) (te := TEb X scope elt) (vs := own.map (·.2)) (σ := σ) (H1 := H1) (D := L) (Qd := fun H => gName si (.ref L) σ H E.nx)
      (fun i H' => Lcw X.K S1 H1 L (((ms.take i).filter bf).map rf) H') ⟨S1, [], (Ext.refl x1.i).own hL (x1.i.none hL), x1.i.none hL, upd_same, .nil⟩ ?_ ?_ ?_⟩
    · rintro i H' _ ⟨S', acc, y, _, _, _⟩
      exact y.i.sqL (y.s.sqL hq)
    · rintro i v H' hv ⟨S', acc, y, n1, h1, d1⟩
      obtain ⟨dd, g1, g2⟩ := DpAll.getV ha hv
      rw [List.getElem?_map] at g1
      have il : i < ms.length := by
        have := (List.getElem?_eq_some_iff.mp hv).1
        omega
      have hi : ms[i]? = some ms[i] := List.getElem?_eq_getElem il
      rw [hi] at g1
      have e := Option.some.inj g1
      subst e
      refine (ht i _ hi).go (K := X.K) ((o.ext x1).ext y) y n1 h1 d1 (y.s.dp g2) ?_ hL fun H h => ?_
      · rw [DpAll.len d1, List.length_map]
        have h2 := List.length_filter_le bf (ms.take i)
        rw [List.length_take] at h2
        omega
      · have e : ((ms.take (i + 1)).filter bf).map rf = if bf ms[i] = true then ((ms.take i).filter bf).map rf ++ [rf ms[i]] else ((ms.take i).filter bf).map rf := by
          rw [List.take_add_one, hi, List.filter_append, List.map_append]
          show _ ++ List.map rf (List.filter bf [ms[i]]) = _
          by_cases c : bf ms[i] = true
          · rw [if_pos c, List.filter_cons_of_pos c]
            rfl
          · rw [if_neg c, List.filter_cons_of_neg c]
            exact List.append_nil _
        rw [e]
        exact h
    · rintro H' ⟨S', acc, y, n1, h1, d1⟩
      rw [hvl, List.take_length] at d1
      exact m.slot z (x1.trans y) o hL x1 n1 h1 d1 k
/-- over a tuple -/
theorem gs_setLcT {y : Str} {py spos : Pos} {W : WX} {F : DL.Fin} (si : Nat) {α : Type} {ifs : List Expr} (ms : List α) (enc : α → D) (bf : α → Bool) (rf : α → D) (he : EvD X it G (.tuple (ms.map enc)))
    (ht : ∀ (i : Nat) (a : α), ms[i]? = some a → Turn X scope ifs elt g (own.map (·.2)) G (enc a) (bf a) (rf a))
    (hz : ms.length < sizeLine) (hif : ifs.length ≤ 1) (hN : X.N.Nodup) (hc : X.calm = true) (ok : BlkOk X.N X.env.scope scope own)
    (hg : ∀ (s : Shared) (H : Hp) (C : Addr) (cl : List (Str × Addr)) (fp : List Addr), PG (X.blk s H scope (compEnvC scope cl C X.env) fp) tgt g)
    (hs : ∀ x, foldedSetIterable it X.env x = pure x := by intro _; rfl) (k : F.nx (G.set si (.own ((ms.filter bf).map rf)))) (hsw : swapsWith (.ListComp elt [⟨tgt, it, ifs, 0⟩] scope pos) (some (.Name y py)) spos.line X.env = pure true) (hyi : X.N[si]? = some y := by rfl) (hyl : X.env.scope.names.lookup y = some .local := by rfl) : GS X W (.Assign [.Name y py] (.ListComp elt [⟨tgt, it, ifs, 0⟩] scope pos) spos) F G := fun S0 H0 S H σ E z o m => by
  refine ws (ps_setLc (i := si) (own := own) (g := g) (tt := tIfs X scope ifs) (te := TEb X scope elt) hc hN hyi hyl hsw (pi_tup pe_w) ok hg (fun s H C cl fp => pts_ifs s H C cl fp hif)
    (fun s H0 C cl fp => ⟨fun pins s1 σ H Q I h => h s H0 C cl fp pins s1 I⟩) hs) (he H0 S H σ o z.i _ fun v S1 H1 x1 d1 => ?_)
  cases d1 with
  | tup hq ha =>
    rename_i ad vs
    have hvl := DpAll.len ha
    rw [List.length_map] at hvl
    refine ⟨ad, rfl, ⟨vs, x1.i.sqT hq.t⟩, fun L hL => lc_tup (K := X.K) (a := ad) (xs := vs) (g := g) (tt := tIfs X scope ifs) (te := TEb X scope elt) (vs := own.map (·.2)) (σ := σ) (H1 := H1) (D := L) (Qd := fun H => gName si (.ref L) σ H E.nx)
      (fun i H' => Lcw X.K S1 H1 L (((ms.take i).filter bf).map rf) H') ⟨S1, [], (Ext.refl x1.i).own hL (x1.i.none hL), x1.i.none hL, upd_same, .nil⟩ ?_ ?_ ?_⟩
    · rintro i H' _ ⟨S', acc, y, _, _, _⟩
      exact y.i.sqT (y.s.sqT hq.t)
    · rintro i v H' hv ⟨S', acc, y, n1, h1, d1⟩
      obtain ⟨dd, g1, g2⟩ := DpAll.getV ha hv
      rw [List.getElem?_map] at g1
      have il : i < ms.length := by
        have := (List.getElem?_eq_some_iff.mp hv).1
        omega
      have hi : ms[i]? = some ms[i] := List.getElem?_eq_getElem il
      rw [hi] at g1
      have e := Option.some.inj g1
      subst e
      refine (ht i _ hi).go (K := X.K) ((o.ext x1).ext y) y n1 h1 d1 (y.s.dp g2) ?_ hL fun H h => ?_
      · rw [DpAll.len d1, List.length_map]
        have h2 := List.length_filter_le bf (ms.take i)
        rw [List.length_take] at h2
        omega
      · have e : ((ms.take (i + 1)).filter bf).map rf = if bf ms[i] = true then ((ms.take i).filter bf).map rf ++ [rf ms[i]] else ((ms.take i).filter bf).map rf := by
          rw [List.take_add_one, hi, List.filter_append, List.map_append]
          show _ ++ List.map rf (List.filter bf [ms[i]]) = _
          by_cases c : bf ms[i] = true
          · rw [if_pos c, List.filter_cons_of_pos c]
            rfl
          · rw [if_neg c, List.filter_cons_of_neg c]
            exact List.append_nil _
        rw [e]
        exact h
    · rintro H' ⟨S', acc, y, n1, h1, d1⟩
      rw [hvl, List.take_length] at d1
      exact m.slot z (x1.trans y) o hL x1 n1 h1 d1 k
/-- [elt for tgt in range(n) if c] -/
theorem gs_setLcR {y : Str} {py spos : Pos} {W : WX} {F : DL.Fin} (si : Nat) {ifs : List Expr} {n : Int} {e : Expr} (bf : Nat → Bool) (rf : Nat → D) (hm : X.mg "range" = none) (he : EvD X e G (.int n)) (hn : -(2 ^ 62) ≤ n ∧ n < 2 ^ 62)
    (ht : ∀ i : Nat, (i : Int) < n → Turn X scope ifs elt g (own.map (·.2)) G (.int i) (bf i) (rf i))
    (hz : n.toNat < sizeLine) (hif : ifs.length ≤ 1) (hN : X.N.Nodup) (hc : X.calm = true) (ok : BlkOk X.N X.env.scope scope own)
    (hg : ∀ (s : Shared) (H : Hp) (C : Addr) (cl : List (Str × Addr)) (fp : List Addr), PG (X.blk s H scope (compEnvC scope cl C X.env) fp) tgt g) (hgl : Gl X "range" := by rfl)
    (hs : ∀ x, foldedSetIterable (.Call (.Name "range" p) [e] [] np) X.env x = pure x := by intro _; rfl) (hse : starEach [e] X.env = [(false, eval e X.env)] := by first | exact sk_name | exact sk_const | exact sk_sub | exact sk_bin | exact sk_call | exact sk_tup | exact sk_lst | exact sk_cmp | exact sk_lc | exact sk_un | exact sk_bool | exact sk_attr | exact sk_if | rfl) (k : F.nx (G.set si (.own (((List.range n.toNat).filter bf).map rf)))) (hsw : swapsWith (.ListComp elt [⟨tgt, .Call (.Name "range" p) [e] [] np, ifs, 0⟩] scope pos) (some (.Name y py)) spos.line X.env = pure true) (hyi : X.N[si]? = some y := by rfl) (hyl : X.env.scope.names.lookup y = some .local := by rfl) : GS X W (.Assign [.Name y py] (.ListComp elt [⟨tgt, .Call (.Name "range" p) [e] [] np, ifs, 0⟩] scope pos) spos) F G := fun S0 H0 S H σ E z o m => by
  refine ws (ps_setLc (i := si) (own := own) (g := g) (tt := tIfs X scope ifs) (te := TEb X scope elt) hc hN hyi hyl hsw (pi_range1 hgl hm pa_w hse) ok hg (fun s H C cl fp => pts_ifs s H C cl fp hif)
    (fun s H0 C cl fp => ⟨fun pins s1 σ H Q I h => h s H0 C cl fp pins s1 I⟩) hs) (ea_cons he ea_nil (by exact hse) H0 S H σ o z.i _ fun vs S1 H1 x1 d1 => ?_)
  cases d1 with
  | cons d1 d2 =>
    cases d2
    cases d1
    refine ⟨n, rfl, hn.1, hn.2, fun L hL => lc_range (lo := 0) (n := n.toNat) (g := g) (tt := tIfs X scope ifs) (te := TEb X scope elt) (vs := own.map (·.2)) (σ := σ) (H1 := H1) (D := L) (Qd := fun H => gName si (.ref L) σ H E.nx)
      (fun i H' => Lcw X.K S1 H1 L (((List.range i).filter bf).map rf) H') ⟨S1, [], (Ext.refl x1.i).own hL (x1.i.none hL), x1.i.none hL, upd_same, .nil⟩ ?_ ?_⟩
    · rintro i H' hi ⟨S', acc, y, n1, h1, d1⟩
      have e0 : (0 : Int) + (i : Int) = (i : Int) := Int.zero_add _
      rw [e0]
      refine (ht i (by omega)).go (K := X.K) ((o.ext x1).ext y) y n1 h1 d1 (.int _) ?_ hL fun H h => ?_
      · rw [DpAll.len d1, List.length_map]
        have h2 := List.length_filter_le bf (List.range i)
        rw [List.length_range] at h2
        omega
      · have e : ((List.range (i + 1)).filter bf).map rf = if bf i = true then ((List.range i).filter bf).map rf ++ [rf i] else ((List.range i).filter bf).map rf := by
          rw [List.range_succ, List.filter_append, List.map_append]
          by_cases c : bf i = true
          · rw [if_pos c, List.filter_cons_of_pos c]
            rfl
          · rw [if_neg c, List.filter_cons_of_neg c]
            exact List.append_nil _
        rw [e]
        exact h
    · rintro H' ⟨S', acc, y, n1, h1, d1⟩
      exact m.slot z (x1.trans y) o hL x1 n1 h1 d1 k
end
end DL

/-! dict(a tuple of pairs)[k], the keys texts. -/
namespace DL
open PySem PySem.Spec PyProof.Rows L2
def encP (q : Str × D) : D := .tuple [.str q.1, q.2]
/-- the last one that has the key -/
def lastD : List (Str × D) → Str → Option D
  | [], _ => none
  | q :: r, k => (lastD r k).or (if q.1 = k then some q.2 else none)
/-- what the dict of the pairs vk holds, put over acc -/
def DictSays (K : Fg) (S : Hp) (kvs : List (Str × D)) (vk : List (Key × V)) : Prop := ∀ (acc : List (Key × V)) (k : Str),
  (∀ d, lastD kvs k = some d → ∃ v, valV (mergeK acc vk) (.inr k) = some v ∧ Dp K S v d) ∧ (lastD kvs k = none → valV (mergeK acc vk) (.inr k) = valV acc (.inr k))
theorem pairs_dict {K : Fg} {S : Hp} : ∀ {kvs : List (Str × D)} {vs : List V}, DpAll K S vs (kvs.map encP) →
    ∃ (ps : List Addr) (vk : List (Key × V)), vs = ps.map V.ref ∧ Paired (fun p kv => SqZ K S p [kV kv.1, kv.2]) ps vk ∧ DictSays K S kvs vk
  | [], vs, h => by
    cases h
    exact ⟨[], [], rfl, .nil, fun acc k => ⟨fun d z => (by cases z), fun _ => rfl⟩⟩
  | (x, d) :: r, vs, h => by
    cases h with
    | cons h1 h2 =>
      cases h1 with
      | tup hz hA =>
        rename_i p us
        obtain ⟨ps, vk, rfl, pr, hd⟩ := pairs_dict h2
        cases hA with
        | cons a1 a2 =>
          cases a2 with
          | cons a2 a3 =>
            cases a3
            cases a1
            rename_i v
            refine ⟨p :: ps, (.inr x, v) :: vk, rfl, .cons hz pr, fun acc k => ?_⟩
            obtain ⟨e1, e2⟩ := hd (putK acc (.inr x) v) k
            have em : mergeK acc ((.inr x, v) :: vk) = mergeK (putK acc (.inr x) v) vk := rfl
            have el : lastD ((x, d) :: r) k = (lastD r k).or (if x = k then some d else none) := rfl
            rw [em, el]
            cases c : lastD r k with
            | some d' =>
              refine ⟨fun e z => ?_, fun z => (by cases z)⟩
              cases z
              exact e1 d' c
            | none =>
              have e3 := e2 c
              rw [valV_put] at e3
              show (∀ e, (if x = k then some d else none) = some e → _) ∧ ((if x = k then some d else none) = none → _)
              by_cases xk : x = k
              · subst xk
                rw [if_pos rfl] at e3 ⊢
                refine ⟨fun e z => ?_, fun z => (by cases z)⟩
                cases z
                exact ⟨v, e3, a2⟩
              · rw [if_neg xk]
                rw [if_neg fun z => xk (Sum.inr.inj z).symm] at e3
                exact ⟨fun e z => (by cases z), fun _ => e3⟩
section
variable {X : Cx}
/-- the pairs as they stand in the heap -/
theorem pairs_at {pins : List (Addr × Obj)} {σ : L2.St} {H : Hp} {s : Shared} (I : Inv X pins σ H s) : ∀ {ps : List Addr} {vk : List (Key × V)}, Paired (fun p kv => SqT X.K H p [kV kv.1, kv.2]) ps vk →
    ∃ (pv : List (Value × Value)) (prs : List (Key × Value)), KV vk prs ∧ pv.length = ps.length ∧ prs.length = ps.length ∧
      ∀ (j : Nat) (k v : Value), pv[j]? = some (k, v) → ∃ (b : Addr) (kk : Key), ps[j]? = some b ∧ IsTup s.heap b #[k, v] ∧ prs[j]? = some (kk, v) ∧ (mixKind X.prog X.w).is kk k = true
  | _, _, .nil => ⟨[], [], .nil, rfl, rfl, fun j k v z => by simp at z⟩
  | _, _, .cons (a := p) (b := kv) (l₁ := ps) h t => by
    obtain ⟨pv, prs, r, l1, l2, hp⟩ := pairs_at I t
    obtain ⟨its, rv, ht, _⟩ := I.tuple h
    obtain ⟨u, y, rfl, ru, ry⟩ := vals2 rv
    refine ⟨(u, y) :: pv, (kv.1, y) :: prs, .cons ⟨rfl, ry⟩ r, congrArg (· + 1) l1, congrArg (· + 1) l2, fun j k v z => ?_⟩
    cases j with
    | zero =>
      cases Option.some.inj z
      exact ⟨p, kv.1, rfl, ht, rfl, kV_is ru⟩
    | succ j => exact hp j k v z
theorem sqZ_plain {pins : List (Addr × Obj)} {σ : L2.St} {H : Hp} {s : Shared} {a : Addr} {xs : List V} (I : Inv X pins σ H s) (h : SqZ X.K H a xs) : ∃ its : List Value, Vals xs its ∧ PlainSeq "tuple" s.heap a its.toArray ∧ xs.length ≤ sizeLine := by
  obtain ⟨its, rv, ht, hz⟩ := I.tuple h.t
  refine ⟨its, rv, ?_, hz⟩
  obtain ⟨o, ho, hc, n, hd⟩ := ht
  refine ⟨o, n, ho, hc, ?_, hd⟩
  rcases h with ⟨o', e, _, e2⟩ | ⟨o', is, n', e, e2, _⟩
  · have z := I.hok a _ e
    have z1 : s.heap.get? a = some o' := z.1
    rw [ho] at z1
    cases z1
    exact e2
  · have z1 := I.kIn a o' e
    rw [ho] at z1
    cases z1
    exact e2.2
theorem call_dictPT (hcalm : X.calm = true) : CallR X (.type "dict") (fun xs H Q => ∃ (a : Addr) (ps : List Addr) (vk : List (Key × V)), xs = [.ref a] ∧ SqZ X.K H a (ps.map V.ref) ∧ Paired (fun p kv => SqT X.K H p [kV kv.1, kv.2]) ps vk ∧
    ∀ p, H p = none → Q (.ref p) (upd H p (.dK (mergeK [] vk)))) := by
  rintro pins s σ H xs us Q I r ⟨a, ps, vk, rfl, hq, hp, q⟩
  obtain ⟨u, rfl, rx⟩ := vals1 r
  cases rx
  obtain ⟨its, rv, pl, hz⟩ := sqZ_plain I hq
  have ei := refs_at rv
  subst ei
  rw [List.length_map] at hz
  obtain ⟨pv, prs, rel, l1, l2, hpv⟩ := pairs_at I hp
  refine PySem.call_dict_pairs (knd := mixKind X.prog X.w) (kvs := prs) (PairArg.tuple a (ps.map Value.ref).toArray (fun j => ps.getD j 0) pv) (I.ok.hd hcalm) ⟨pl, ?_, fun j k v z => ?_⟩ ⟨by rw [l1, l2], fun i k v z => ?_⟩ (by rw [l1]; exact hz) fun hh tk hd hk => ?_
  · rw [List.size_toArray, List.length_map, l1]
  · obtain ⟨b, kk, e1, e2, _⟩ := hpv j k v z
    have eb : ps.getD j 0 = b := by rw [List.getD_eq_getElem?_getD, e1]; rfl
    refine ⟨?_, .inl ?_⟩
    · rw [List.getElem?_toArray, List.getElem?_map, e1]
      show some (Value.ref b) = some (Value.ref (ps.getD j 0))
      rw [eb]
    · show s.heap.IsTuple (ps.getD j 0) #[k, v]
      rw [eb]
      exact e2
  · obtain ⟨b, kk, _, _, e3, e4⟩ := hpv i k v z
    exact ⟨kk, e3, e4⟩
  · have big : (s.heap.objs.size == sysModules) = false := beq_eq_false_iff_ne.mpr (Nat.ne_of_gt I.big)
    have len : (mergeK [] vk).length ≤ sizeLine := by
      have z1 := length_mergeK vk []
      have z2 := rel.length
      rw [List.length_nil] at z1
      omega
    exact ⟨.ref s.heap.objs.size, _, I.laid (t' := tk) (o := .dK (mergeK [] vk)) (fun b ob e => hk b ob (fun z => (by cases z)) e) (Nat.le_refl _) ⟨len, big, merged [] prs, KV.merge rel .nil, hd⟩, rfl, q _ (I.hok.fresh (Nat.le_refl _))⟩
variable {G : Gam} {a b : Expr} {d : D} {p pos pos2 : Pos} {kvs : List (Str × D)} {k : Str}
/-- dict(a tuple of pairs)[k] -/
theorem ev_dictIx (hu : X.A.units + 1 < cLine) (hm : X.mg "dict" = none) (ha : EvD X a G (.tuple (kvs.map encP))) (hb : EvD X b G (.str k)) (h : lastD kvs k = some d) (hc : X.calm = true := by rfl) (hg : Gl X "dict" := by rfl) (hs : NoSl b := by exact fun _ _ => rfl)
    (he : starEach [a] X.env = (false, eval a X.env) :: starEach [] X.env := by first | exact sk_name | exact sk_const | exact sk_sub | exact sk_bin | exact sk_call | exact sk_tup | exact sk_lst | exact sk_cmp | exact sk_lc | exact sk_un | exact sk_bool | exact sk_attr | exact sk_if | rfl) (hpl : (backTo pos2 (starEach [] X.env)).any (·.1) = false := by rfl) : EvD X (.Subscript (.Call (.Name "dict" p) [a] [] pos2) b pos) G d := fun H0 S H σ o i Q q =>
  we (pe_dget hu (pe_callTy (call_dictPT hc) hg hm (by decide +kernel) pa_w (by decide) (by decide) he hpl) pe_w hs) (ea_cons ha ea_nil he H0 S H σ o i _ fun vs S1 H1 x1 d1 => by
    cases d1 with
    | cons d1 d2 =>
      cases d2
      cases d1 with
      | tup hz hA =>
        obtain ⟨ps, vk, rfl, pr, hv⟩ := pairs_dict hA
        refine ⟨_, ps, vk, rfl, x1.i.sqZ hz, Paired.mapP pr (fun _ _ z => x1.i.sqT z.t), fun q' hp => ?_⟩
        have x2 := x1.own (o := .dK (mergeK [] vk)) (x1.h.none hp) (x1.i.none hp)
        refine hb H0 S1 _ σ (o.ext x2) x2.i _ fun y S2 H2 x3 d2 => ?_
        cases d2
        obtain ⟨v, e1, e2⟩ := (hv [] k).1 d h
        refine ⟨q', v, rfl, ?_, q v S2 H2 (x2.trans x3) (x3.s.dp e2)⟩
        rw [← e1]
        exact DGet.k (k := .inr k) (x3.h _ _ upd_same))
end
end DL

/-! for x, y in a list or a tuple of pairs. -/
namespace DL
open PySem PySem.Spec PyProof.Rows L2
section
variable {X : Cx} {W : WX} {F : DL.Fin} {G : Gam} {e : Expr} {p2 px py pos : Pos} {x y : Str} {body : List Stmt} {α : Type}
theorem pg_2 {kt : Nat} (i j : Nat) (hi : X.N[i]? = some x := by rfl) (hj : X.N[j]? = some y := by rfl) (hN : X.N.Nodup := by assumption) (hc : X.calm = true := by rfl)
    (hx : Loc X.env.scope x := by first | exact Or.inl rfl | exact Or.inr rfl) (hy : Loc X.env.scope y := by first | exact Or.inl rfl | exact Or.inr rfl)
    (hf : X.fn x = true ∨ X.env.scope.names.lookup x = some .local := by first | exact .inl rfl | exact .inr rfl | assumption) (hf2 : X.fn y = true ∨ X.env.scope.names.lookup y = some .local := by first | exact .inl rfl | exact .inr rfl | assumption)
    (hn : (assignEach [.Name x px, .Name y py] X.env).length = 2 := by rfl) (hst : (assignEach [.Name x px, .Name y py] X.env).findIdx? (·.1) = none := by rfl)
    (hg1 : (assignEach [.Name x px, .Name y py] X.env).map (·.2) = assign (.Name x px) X.env :: (assignEach [.Name y py] X.env).map (·.2) := by rfl) (hg2 : (assignEach [.Name y py] X.env).map (·.2) = assign (.Name y py) X.env :: (assignEach [] X.env).map (·.2) := by rfl) :
    PG X (.Tuple [.Name x px, .Name y py] kt p2) (gTup X.K 2 (gCons (gName i) (gCons (gName j) gNil))) := pg_tup hc (pgs_cons (pg_name hN hi hx hf) (pgs_cons (pg_name hN hj hy hf2) pgs_nil hg2) hg1) hn hst
theorem gs_for2T {kt : Nat} (i j : Nat) (ms : List α) (e1 e2 : α → D) (I : Nat → Gam → Prop) (hg : PG X (.Tuple [.Name x px, .Name y py] kt p2) (gTup X.K 2 (gCons (gName i) (gCons (gName j) gNil)))) (he : EvD X e G (.tuple (ms.map fun a => .tuple [e1 a, e2 a]))) (h0 : I 0 G)
    (hs : ∀ (n : Nat) (a : α) (G' : Gam), ms[n]? = some a → I n G' → GSs X W body (F.turn (I (n + 1))) ((G'.set i (.im (e1 a))).set j (.im (e2 a))))
    (hd : ∀ G', I ms.length G' → F.nx G') (hp : PassesOwn (model X.prog X.w) X.A X.env X.xe) (hc : X.calm = true := by rfl)
    (hst : ∀ x, foldedSetIterable e X.env x = pure x := by intro _; rfl) : GS X W (.For (.Tuple [.Name x px, .Name y py] kt p2) e body [] pos) F G :=
  gs_forTG I hg he h0 (fun n d G' hd' hI => by
    rw [List.getElem?_map] at hd'
    cases c : ms[n]? with
    | none => rw [c] at hd'; cases hd'
    | some a =>
      rw [c] at hd'
      have e := Option.some.inj hd'
      subst e
      exact ⟨[i, j], _, tg_2 i j, hs n a G' c hI⟩) (fun G' h => hd G' (by rw [List.length_map] at h; exact h)) hp hc hst
theorem gs_for2L {kt : Nat} (i j : Nat) (ms : List α) (e1 e2 : α → D) (I : Nat → Gam → Prop) (hg : PG X (.Tuple [.Name x px, .Name y py] kt p2) (gTup X.K 2 (gCons (gName i) (gCons (gName j) gNil)))) (he : EvD X e G (.list (ms.map fun a => .tuple [e1 a, e2 a]))) (h0 : I 0 G)
    (hs : ∀ (n : Nat) (a : α) (G' : Gam), ms[n]? = some a → I n G' → GSs X W body (F.turn (I (n + 1))) ((G'.set i (.im (e1 a))).set j (.im (e2 a))))
    (hd : ∀ G', I ms.length G' → F.nx G') (hp : PassesOwn (model X.prog X.w) X.A X.env X.xe) (hc : X.calm = true := by rfl)
    (hst : ∀ x, foldedSetIterable e X.env x = pure x := by intro _; rfl) : GS X W (.For (.Tuple [.Name x px, .Name y py] kt p2) e body [] pos) F G :=
  gs_forLG I hg he h0 (fun n d G' hd' hI => by
    rw [List.getElem?_map] at hd'
    cases c : ms[n]? with
    | none => rw [c] at hd'; cases hd'
    | some a =>
      rw [c] at hd'
      have e := Option.some.inj hd'
      subst e
      exact ⟨[i, j], _, tg_2 i j, hs n a G' c hI⟩) (fun G' h => hd G' (by rw [List.length_map] at h; exact h)) hp hc hst
end
end DL

/-! A def with a keyword-only parameter that has a default: called without it and with it. -/
namespace DL
open PySem PySem.Spec PyProof.Rows L2
structure DefD (P : Program) (w : World) (K : Fg) (mg : Str → Option Value) (base : Heap) (CX : CXT) (k : Nat) (x : Str) (n : Nat) (ks : List Str) (dds : List D) (R : List D → Out → Prop) : Prop where
  ex : ∃ (f : Addr) (fd : FuncData) (ps : List Str) (dvs : List V) (dus : List Value), FnOk P w K mg base CX k f fd ps (spD K R) ∧ mg x = some (.ref f) ∧ PySem.W.keepIn K (.ref f) = true ∧ Vals dvs dus ∧ Binds K fd ps dus ∧
    (∀ S : Hp, DpAll K S dvs dds) ∧ KBn K fd ps n ks (fun us ws => us ++ ws) (fun vs zs => vs ++ zs)
section
variable {X : Cx} {G : Gam} {e a : Expr} {es : List Expr} {d da : D} {ds dds : List D} {pos p kpos : Pos} {x nm : Str} {k j n : Nat} {R : List D → Out → Prop} {CX : CXT} {ks : List Str}
theorem ev_callD (Fn : DefD X.prog X.w X.K X.mg X.base CX j x n ks dds R) (hr : Room k X.A) (ha : EvA X (e :: es) G ds) (h : R (ds ++ dds) (.val d)) (hj : j ≤ k := by decide) (hx : Passes CX X E0 := by first | exact pass0 | exact passL) (hg : Gl X x := by rfl)
    (hdb : (x == ("__debug__" : Str)) = false := by decide) (he : starEach (e :: es) X.env = (false, eval e X.env) :: starEach es X.env := by first | exact sk_name | exact sk_const | exact sk_sub | exact sk_bin | exact sk_call | exact sk_tup | exact sk_lst | exact sk_cmp | exact sk_lc | exact sk_un | exact sk_bool | exact sk_attr | exact sk_if | rfl) (hpl : (backTo pos (starEach es X.env)).any (·.1) = false := by rfl) :
    EvD X (.Call (.Name x p) (e :: es) [] pos) G d := fun H0 S H σ o i Q q => by
  obtain ⟨f, fd, ps, dvs, dus, F, hm, hk, hv, hb, hd, _⟩ := Fn.ex
  refine we (pe_call F (hr.mono hj) hg hm hk hb hv hx pa_w hdb he hpl) (ha H0 S H σ o i _ fun vs S1 H1 x1 d1 => ?_)
  exact ⟨S1, ds ++ dds, .val d, x1.i, DpAll.app (hd S1) d1, h, fun v S2 H2 x2 d2 => q v S2 H2 (x1.trans x2) d2⟩
theorem ev_callK (Fn : DefD X.prog X.w X.K X.mg X.base CX j x n [nm] dds R) (hr : Room k X.A) (ha : EvA X (e :: es) G ds) (hka : EvD X a G da) (h : R (ds ++ [da]) (.val d)) (hn : ds.length = n := by rfl) (hj : j ≤ k := by decide) (hx : Passes CX X E0 := by first | exact pass0 | exact passL) (hg : Gl X x := by rfl)
    (hdb : (x == ("__debug__" : Str)) = false := by decide) (he : starEach (e :: es) X.env = (false, eval e X.env) :: starEach es X.env := by first | exact sk_name | exact sk_const | exact sk_sub | exact sk_bin | exact sk_call | exact sk_tup | exact sk_lst | exact sk_cmp | exact sk_lc | exact sk_un | exact sk_bool | exact sk_attr | exact sk_if | rfl)
    (hall : (backToKw pos (keywordEach [⟨some nm, a, kpos⟩] X.env)).all (·.1.isSome) = true := by rfl) (hks : (backToKw pos (keywordEach [⟨some nm, a, kpos⟩] X.env)).filterMap (·.1) = [nm] := by rfl)
    (hpl : ((backTo pos (starEach (e :: es) X.env)).any (·.1) || (backToKw pos (keywordEach [⟨some nm, a, kpos⟩] X.env)).any (·.1.isNone)) = false := by rfl) :
    EvD X (.Call (.Name x p) (e :: es) [⟨some nm, a, kpos⟩] pos) G d := fun H0 S H σ o i Q q => by
  obtain ⟨f, fd, ps, dvs, dus, F, hm, hk, hv, hb, hd, kb⟩ := Fn.ex
  refine we (pe_callN F (hr.mono hj) hg hm hk kb hx pa_w (pk_cons pe_w pk_nil) hall hks hdb he hpl) (ha H0 S H σ o i _ fun vs S1 H1 x1 d1 => hka H0 S1 H1 σ (o.ext x1) x1.i _ fun v S2 H2 x2 d2 => ?_)
  refine ⟨(DpAll.len d1).trans hn, rfl, S2, ds ++ [da], .val d, x2.i, DpAll.app (.cons d2 .nil) (x2.s.dpAll d1), h, fun v S3 H3 x3 d3 => q v S3 H3 ((x1.trans x2).trans x3) d3⟩
/-- one keyword-only parameter behind n others, its default a bool -/
theorem defD_bool {P : Program} {w : World} {K : Fg} {mg : Str → Option Value} {base : Heap} {CX : CXT} {k : Nat} {x qual nm : Str} {params : Arguments} {body : List Stmt} {scope : Scope} {ps : List Str} {b : Bool} {R : List D → Out → Prop} {f : Addr} {fd : FuncData} {n : Nat}
    (F : FnOk P w K mg base CX k f fd ps (spD K R)) (Fd : FunD K x qual params body scope [] [(nm, .bl b)] f fd) (hm : mg x = some (.ref f)) (hn : n + 1 = ps.length)
    (h1 : ∀ (D : Addr) (doc pm : Value) (an : Option Addr) (cdv ct : Value) (us ks : List Value), us.length = n → ks.length = 1 → KwChain D ([nm].zip ks) (bindArgs (PySem.W.fnOf x qual params body scope .none (.ref D) doc pm an cdv ct) ⟨us, []⟩) (ps.zip (us ++ ks)))
    (h2 : ∀ (kV doc pm : Value) (an : Option Addr) (cdv ct : Value) (us ws : List Value), us.length = n → ws.length = 1 → bindArgs (PySem.W.fnOf x qual params body scope .none kV doc pm an cdv ct) ⟨us, [nm].zip ws⟩ = pure (ps.zip (us ++ ws))) : DefD P w K mg base CX k x n [nm] [.bool b] R := by
  obtain ⟨dus, hv, hb⟩ := Fd.binds0 n (fun z => by cases z) hn h1
  refine ⟨f, fd, ps, _, dus, F, hm, Fd.kp, hv, hb, fun S => .cons (.bl b) .nil, ⟨fun s us ws X l1 l2 => ?_, fun r1 r2 => r1.append r2⟩⟩
  obtain ⟨oc, od, dV, kV, doc, pm, an, cdv, ct, osl, rfl, lk, hcd, hD, hK⟩ := Fd.ex
  rcases hD with ⟨_, rfl⟩ | ⟨e, _⟩
  · exact .of_eq (h2 kV doc pm an cdv ct us ws l1 l2)
  · exact absurd rfl e
end
section
variable {P : Program} {w : World} {K : Fg} {mg : Str → Option Value} {base : Heap}
/-- a def that may raise, without its binding -/
theorem fn_okX {x qual : Str} {st : Stmt} {f : Addr} {fd : FuncData} {N ps : List Str} {k : Nat} {R : List D → Out → Prop} (F : Fun K x qual st f fd) (Sc : FnScope N ps (defScope st)) (len : ∀ ds o, R ds o → ds.length = ps.length)
    (body : ∀ (cdv : Value) (A : Around) (outer : List Env) (s : Shared) (H : Hp) (E : XK), Room k (Xr P w K mg base N qual st f cdv A outer s H E).A → Takes (Xr P w K mg base N qual st f cdv A outer s H E) (fun cls d _ H => E cls d H) →
      PassesOwn (model P w) (Xr P w K mg base N qual st f cdv A outer s H E).A (Xr P w K mg base N qual st f cdv A outer s H E).env (Xr P w K mg base N qual st f cdv A outer s H E).xe → ∀ ds o, R ds o →
      GSs (Xr P w K mg base N qual st f cdv A outer s H E) (fun cls d _ H => E cls d H) (defBody st) (outFin o) (gam0 N ds)) : FnOk P w K mg base (L2.CX P w) (k + 1) f fd ps (spD K R) := by
  refine F.okX Sc (fun vs H Q E h => ?_) (fun cdv A outer s H vs Q E hr h => ?_)
  · obtain ⟨S, ds, o, _, d1, r, _⟩ := h
    rw [DpAll.len d1]
    exact len ds o r
  · obtain ⟨S, ds, o, i, d1, r, q⟩ := h
    refine ⟨_, pss_w, body cdv A outer s H E hr (takes_of rfl rfl rfl rfl) (passes_of (X := Xr P w K mg base N qual st f cdv A outer s H E) rfl) ds o r S H S H _ _ (Ext.refl i) (hol_start d1) ?_⟩
    cases o with
    | exc y =>
      refine ⟨fun _ _ _ _ _ _ z => z.elim, fun _ _ _ _ _ _ z => z.elim, fun _ _ _ _ _ _ z => z.elim, fun _ _ _ _ _ _ z => z.elim, ?_⟩
      intro y' σ S' H' G' a x' o' q' z
      rw [show y' = y from z] at q' ⊢
      exact q a S' H' x' q'
    | val d =>
      refine ⟨?_, ?_, fun _ _ _ _ _ _ z => z.elim, fun _ _ _ _ _ _ z => z.elim, fun _ _ _ _ _ _ _ _ _ z => z.elim⟩
      · intro σ S' H' G' x' o' z
        exact q .non S' H' x' (by rw [show d = .none from z]; exact .non)
      · intro v S' H' d' x' q' z
        exact q v S' H' x' (by rw [← show d' = d from z]; exact q')
/-- a tuple of two ints of the module -/
theorem ev_gt2 {X : Cx} {G : Gam} {x : Str} {pos : Pos} {a : Addr} {t1 t2 : Tok} {n : Nat} {sl : Array (Option Value)} {i j : Int} (hm : X.mg x = some (.ref a)) (hl : X.K.lookup a = some ⟨.type "tuple", none, .seq #[.int i t1, .int j t2] n, sl⟩) (hg : Gl X x := by rfl) (hdb : (x == ("__debug__" : Str)) = false := by decide) :
    EvD X (.Name x pos) G (.tuple [.int i, .int j]) := fun H0 S H σ o ii Q q =>
  we (pe_glob hg hm (x := x) (u := .ref a) (v := .ref a) rfl hdb) (q (.ref a) S H (Ext.refl ii) (.tup (vs := [.int i, .int j]) (.inr ⟨_, #[.int i t1, .int j t2], n, hl, ⟨rfl, rfl⟩, rfl, (by rw [sizeLine_eq]; show 2 ≤ 16777216; decide), .cons ⟨t1, rfl⟩ (.cons ⟨t2, rfl⟩ .nil)⟩) (.cons (.int i) (.cons (.int j) .nil))))
end
end DL
namespace DL
open PySem PySem.Spec PyProof.Rows L2
theorem ev_notV {X : Cx} {G : Gam} {a : Expr} {pos : Pos} {p : Bool} (h : EvD X a G (.bool p)) : EvD X (.UnaryOp .Not a pos) G (.bool (!p)) := fun H0 S H σ o i Q q =>
  we (pe_not pe_w) (h H0 S H σ o i _ fun v S1 H1 x1 d1 => by
    cases d1
    exact ⟨p, rfl, q _ S1 H1 x1 (.bl _)⟩)
end DL

/-! Written numbers, as lists of signs. -/
namespace MT
open PySem L2 DL TL
open PySem.NumText (AllDigits digitsVal)
/-- a text by its signs -/
def S (l : List Nat) : Str := ⟨l.toArray⟩
theorem tl_S (l : List Nat) : tl (S l) = l := rfl
theorem S_tl (x : Str) : S (tl x) = x := mk_tl x
theorem S_inj {l m : List Nat} (h : S l = S m) : l = m := congrArg tl h
theorem S_eq_iff {l m : List Nat} : S l = S m ↔ l = m := ⟨S_inj, fun h => by rw [h]⟩
theorem S_len (l : List Nat) : (S l).length = l.length := len_tl (S l)
theorem S_app (l m : List Nat) : S l ++ S m = S (l ++ m) := ext_tl (tl_append _ _)
theorem S_cps (l : List Nat) : (S l).cps.toList = l := rfl
theorem s_minus : ("-" : Str) = S [45] := by decide +kernel
theorem s_slash : ("/" : Str) = S [47] := by decide +kernel
theorem s_empty : ("" : Str) = S [] := by decide +kernel
theorem s_one : ("1" : Str) = S [49] := by decide +kernel
theorem str_nat (n : Nat) : Str.ofString (toString ((n : Nat) : Int)) = S (numL n) := ext_tl (tl_num n)
theorem str_neg (n : Nat) (h : 0 < n) : Str.ofString (toString (-((n : Nat) : Int))) = S (45 :: numL n) := by
  refine ext_tl ?_
  rw [PyProof.Rows.toString_neg (show -((n : Nat) : Int) < 0 by omega), show (0 : Int) - -((n : Nat) : Int) = ((n : Nat) : Int) by omega]
  have h1 := tl_ofString ("-" ++ toString ((n : Nat) : Int))
  have h2 := tl_ofString (toString ((n : Nat) : Int))
  rw [tl_num] at h2
  rw [h1, String.toList_append, List.map_append, ← h2]
  rfl
/-- 0 .. 9, / and - -/
def Sign (c : Nat) : Prop := c = 45 ∨ c = 47 ∨ (48 ≤ c ∧ c ≤ 57)
def Alpha (l : List Nat) : Prop := ∀ c ∈ l, Sign c
theorem Alpha.of_app {l m : List Nat} (h : Alpha (l ++ m)) : Alpha l ∧ Alpha m := ⟨fun c hc => h c (List.mem_append_left _ hc), fun c hc => h c (List.mem_append_right _ hc)⟩
theorem Alpha.tail {c : Nat} {l : List Nat} (h : Alpha (c :: l)) : Alpha l := fun d hd => h d (List.mem_cons_of_mem _ hd)
theorem digits_alpha {l : List Nat} (h : AllDigits l) : Alpha l := fun c hc => .inr (.inr (h c hc))
instance decAll (l : List Nat) : Decidable (AllDigits l) := inferInstanceAs (Decidable (∀ c ∈ l, 48 ≤ c ∧ c ≤ 57))
theorem dec_digit : ∀ c : Nat, c < 58 → PySem.Unicode.isDecimal c = decide (48 ≤ c ∧ c ≤ 57) := by decide +kernel
theorem isDecimal_sign {c : Nat} (h : Sign c) : PySem.Unicode.isDecimal c = decide (48 ≤ c ∧ c ≤ 57) := dec_digit c (by rcases h with h | h | h <;> omega)
theorem isdecimal_S {l : List Nat} (h : Alpha l) : Txt.isdecimal (S l) = decide (l ≠ [] ∧ AllDigits l) := by
  have e : Txt.isdecimal (S l) = (decide (l.length > 0) && l.all PySem.Unicode.isDecimal) := by
    unfold Txt.isdecimal
    rw [S_len]
    congr 1
    show (l.toArray).all _ = _
    simp
  rw [e]
  have e2 : l.all PySem.Unicode.isDecimal = decide (AllDigits l) := by
    rw [Bool.eq_iff_iff, List.all_eq_true, decide_eq_true_iff]
    exact ⟨fun z c hc => by
      have := z c hc
      rw [isDecimal_sign (h c hc)] at this
      exact of_decide_eq_true this, fun z c hc => by
      rw [isDecimal_sign (h c hc)]
      exact decide_eq_true (z c hc)⟩
  rw [e2]
  cases l with
  | nil => rfl
  | cons c r =>
    rw [decide_eq_true (show (c :: r).length > 0 by simp), Bool.true_and]
    exact decide_eq_decide.mpr ⟨fun z => ⟨(fun q => by cases q), z⟩, fun z => z.2⟩
/-! ### the sign in front, the parts -/
def isNeg (l : List Nat) : Bool := l.head? == some 45
def body (l : List Nat) : List Nat := if isNeg l then l.tail else l
theorem subAt_minus (l : List Nat) : Builtin.Str.subAt (S l) (S [45]) 0 = isNeg l := by
  unfold Builtin.Str.subAt isNeg
  cases l with
  | nil => rfl
  | cons c r =>
    have e : (S (c :: r)).cps.extract 0 (0 + (S [45]).length) = #[c] := by
      apply Array.toList_inj.mp
      rw [Array.toList_extract]
      rfl
    rw [e]
    show (#[c] == #[45]) = (some c == some 45)
    by_cases h : c = 45
    · subst h
      rfl
    · rw [beq_eq_false_iff_ne.mpr fun z => h (by simpa using z), beq_eq_false_iff_ne.mpr fun z => h (Option.some.inj z)]
theorem startswith_S (l : List Nat) : Txt.startswith (S l) (S [45]) = isNeg l := by
  unfold Txt.startswith
  rw [subAt_minus]
  cases l with
  | nil => rfl
  | cons c r =>
    rw [decide_eq_true (show 0 + (S [45]).length ≤ (S (c :: r)).length by rw [S_len, S_len]; simp), Bool.true_and]
theorem removeprefix_S (l : List Nat) : Txt.removeprefix (S l) (S [45]) = S (body l) := by
  unfold Txt.removeprefix body
  rw [subAt_minus]
  cases h : isNeg l with
  | false => rfl
  | true =>
    cases l with
    | nil => cases h
    | cons c r =>
      show Txt.affix (S (c :: r)) (some ((S [45]).length, (S (c :: r)).length)) = S r
      unfold Txt.affix
      dsimp only
      rw [S_len, S_len]
      show (if ((r.length + 1 - 1 : Nat) == r.length + 1) = true then S (c :: r) else Builtin.Str.strSub (S (c :: r)) 1 (r.length + 1)) = S r
      rw [if_neg (by simp)]
      exact ext_tl (by rw [tl_strSub, tl_S, tl_S]; show (r.take (r.length + 1 - 1)) = r; simp)
theorem cut_head (l : List Nat) : cutS (S l) none (some 1) = S (l.take 1) := by
  unfold cutS
  rw [S_len, HT.sIx_none, show HT.sIx l.length l.length (some 1) = min 1 l.length from HT.sIx_nat l.length l.length 1]
  show S ((l.drop 0).take (min 1 l.length - 0)) = _
  rw [List.drop_zero, Nat.sub_zero]
  cases l with
  | nil => rfl
  | cons c r => rw [Nat.min_eq_left (by simp)]
theorem cut_tail (l : List Nat) : cutS (S l) (some 1) none = S (l.drop 1) := by
  unfold cutS
  rw [S_len, HT.sIx_none, show HT.sIx l.length 0 (some 1) = min 1 l.length from HT.sIx_nat l.length 0 1]
  show S ((l.drop (min 1 l.length)).take (l.length - min 1 l.length)) = _
  cases l with
  | nil => rfl
  | cons c r =>
    rw [Nat.min_eq_left (by simp)]
    show S (r.take (r.length + 1 - 1)) = S r
    simp
theorem head_eq (l : List Nat) : decide (S (l.take 1) = S [45]) = isNeg l := by
  unfold isNeg
  cases l with
  | nil => rfl
  | cons c r =>
    show decide (S [c] = S [45]) = (some c == some 45)
    by_cases h : c = 45
    · subst h
      rfl
    · rw [decide_eq_false fun z => h (List.cons.inj (S_inj z)).1, beq_eq_false_iff_ne.mpr fun z => h (Option.some.inj z)]
theorem body_drop (l : List Nat) (h : isNeg l = true) : body l = l.drop 1 := by
  unfold body
  rw [if_pos h]
  cases l <;> rfl
theorem body_same (l : List Nat) (h : isNeg l = false) : body l = l := by
  unfold body
  rw [if_neg (by rw [h]; exact Bool.false_ne_true)]
theorem neg_split (l : List Nat) : l = (if isNeg l then [45] else []) ++ body l := by
  cases h : isNeg l with
  | false => rw [body_same l h]; rfl
  | true =>
    rw [body_drop l h]
    cases l with
    | nil => cases h
    | cons c r =>
      have e : c = 45 := by
        unfold isNeg at h
        exact Option.some.inj (beq_iff_eq.mp h)
      subst e
      rfl
theorem body_alpha {l : List Nat} (h : Alpha l) : Alpha (body l) := by
  unfold body
  split
  · cases l with
    | nil => exact h
    | cons c r => exact h.tail
  · exact h
theorem body_len (l : List Nat) : (body l).length ≤ l.length := by
  unfold body
  split
  · rw [List.length_tail]
    omega
  · exact Nat.le_refl _
/-- cut at each / -/
def sp : List Nat → List (List Nat)
  | [] => [[]]
  | c :: r => if c = 47 then [] :: sp r else match sp r with
    | [] => [[c]]
    | p :: ps => (c :: p) :: ps
theorem sp_ne : ∀ l : List Nat, sp l ≠ []
  | [] => fun h => nomatch h
  | c :: r => by
    unfold sp
    split
    · exact fun h => nomatch h
    · split <;> exact fun h => nomatch h
theorem joinL_cons (c : Nat) (p : List Nat) (ps : List (List Nat)) : joinL [47] ((c :: p) :: ps) = c :: joinL [47] (p :: ps) := by
  cases ps <;> rfl
theorem sp_join : ∀ l : List Nat, joinL [47] (sp l) = l
  | [] => rfl
  | c :: r => by
    have ih := sp_join r
    unfold sp
    split
    · rename_i h
      subst h
      cases e : sp r with
      | nil => exact absurd e (sp_ne r)
      | cons p ps =>
        rw [e] at ih
        show [] ++ ([47] ++ joinL [47] (p :: ps)) = 47 :: r
        rw [ih]
        rfl
    · cases e : sp r with
      | nil => exact absurd e (sp_ne r)
      | cons p ps =>
        rw [e] at ih
        show joinL [47] ((c :: p) :: ps) = c :: r
        rw [joinL_cons, ih]
theorem sp_free : ∀ (l : List Nat) (p : List Nat), p ∈ sp l → 47 ∉ p
  | [], p, h => by
    have e : p = [] := List.mem_singleton.mp h
    subst e
    exact List.not_mem_nil
  | c :: r, p, h => by
    have ih := sp_free r
    unfold sp at h
    split at h
    · rcases List.mem_cons.mp h with h | h
      · subst h
        exact List.not_mem_nil
      · exact ih p h
    · rename_i hc
      cases e : sp r with
      | nil => exact absurd e (sp_ne r)
      | cons q ps =>
        rw [e] at h ih
        dsimp only at h
        rcases List.mem_cons.mp h with h | h
        · subst h
          intro z
          rcases List.mem_cons.mp z with z | z
          · exact hc z.symm
          · exact ih q List.mem_cons_self z
        · exact ih p (List.mem_cons_of_mem _ h)
theorem sp_sub : ∀ (l : List Nat) (p : List Nat), p ∈ sp l → ∀ c ∈ p, c ∈ l
  | [], p, h, c, hc => by
    have e : p = [] := List.mem_singleton.mp h
    subst e
    exact hc
  | d :: r, p, h, c, hc => by
    have ih := sp_sub r
    unfold sp at h
    split at h
    · rcases List.mem_cons.mp h with h | h
      · subst h
        cases hc
      · exact List.mem_cons_of_mem _ (ih p h c hc)
    · cases e : sp r with
      | nil => exact absurd e (sp_ne r)
      | cons q ps =>
        rw [e] at h ih
        dsimp only at h
        rcases List.mem_cons.mp h with h | h
        · subst h
          rcases List.mem_cons.mp hc with z | z
          · rw [z]
            exact List.mem_cons_self
          · exact List.mem_cons_of_mem _ (ih q List.mem_cons_self c z)
        · exact List.mem_cons_of_mem _ (ih p (List.mem_cons_of_mem _ h) c hc)
theorem split_S (l : List Nat) : Txt.split (S l) (S [47]) = (sp l).map S := by
  refine map_tl_inj ?_
  rw [split_spl _ _ (by rw [tl_S]; exact fun h => nomatch h) (kind_ok (by decide +kernel)), tl_S, tl_S, List.map_map]
  have h := spl_join (s := 47) (S := []) (sp_ne l) (sp_free l)
  rw [sp_join] at h
  rw [h]
  show sp l = (sp l).map id
  rw [List.map_id]
theorem sp_no {l : List Nat} (h : 47 ∉ l) : sp l = [l] := by
  have e := spl_join (s := 47) (S := []) (sp_ne l) (sp_free l)
  rw [sp_join, spl_last1 h] at e
  exact e.symm
theorem sp_two {p q : List Nat} (hp : 47 ∉ p) (hq : 47 ∉ q) : sp (p ++ 47 :: q) = [p, q] := by
  have e := spl_join (s := 47) (S := []) (sp_ne (p ++ 47 :: q)) (sp_free _)
  rw [sp_join] at e
  rw [← e]
  show spl [47] 0 [] (p ++ ([47] ++ q)) = [p, q]
  rw [spl_part1 hp, spl_last1 hq]
  rfl
/-- cut at the first / -/
theorem par_two {p q : List Nat} (hp : 47 ∉ p) : Txt.partition (S (p ++ 47 :: q)) (S [47]) = (S p, S [47], S q) := by
  have h := partition_app (y := S [47]) (s := 47) (S := []) rfl (a := S p) (b := S q) hp
  rw [S_app, S_app] at h
  rw [← h, List.append_assoc]
  rfl
theorem par_no {l : List Nat} (h : 47 ∉ l) : Txt.partition (S l) (S [47]) = (S l, S [], S []) := partition_none (y := S [47]) (s := 47) (S := []) rfl h
theorem first_slash (l : List Nat) : 47 ∉ l ∨ ∃ p q, l = p ++ 47 :: q ∧ 47 ∉ p := by
  induction l with
  | nil => exact .inl List.not_mem_nil
  | cons c r ih =>
    by_cases h : c = 47
    · subst h
      exact .inr ⟨[], r, rfl, List.not_mem_nil⟩
    · rcases ih with ih | ⟨p, q, e, hp⟩
      · exact .inl fun z => (List.mem_cons.mp z).elim (fun z => h z.symm) ih
      · exact .inr ⟨c :: p, q, by rw [e]; rfl, fun z => (List.mem_cons.mp z).elim (fun z => h z.symm) hp⟩
/-! ### digits -/
theorem int_S {l : List Nat} (h : AllDigits l) (h1 : l ≠ []) (h2 : l.length ≤ 4300) : PySem.intText? (S l) = some ((digitsVal l : Nat) : Int) := PySem.intText_digits (x := S l) h h1 (by rw [S_len]; exact h2)
theorem numL_47 (n : Nat) : 47 ∉ numL n := numL_free (.inl (by decide))
theorem map_back : ∀ {l : List Nat}, AllDigits l → (l.map Char.ofNat).map Char.toNat = l
  | [], _ => rfl
  | c :: r, h => by
    have hc := h.head
    have e : ∀ c : Nat, c < 58 → (Char.ofNat c).toNat = c := by decide
    rw [List.map_cons, List.map_cons, map_back h.tail, e c (by omega)]
/-- digits without zeros in front -/
def Canon (l : List Nat) : Prop := l ≠ [] ∧ AllDigits l ∧ (l.head? = some 48 → l = [48])
theorem canon_val {l : List Nat} (h : Canon l) : numL (digitsVal l) = l := by
  obtain ⟨h1, h2, h3⟩ := h
  cases l with
  | nil => exact absurd rfl h1
  | cons c r =>
    have hc := h2.head
    have e := PySem.NumText.toDigits_digitsVal r.length (c :: r) rfl h2 (by
      by_cases z : c = 48
      · subst z
        have := h3 rfl
        exact .inl (by rw [(List.cons.inj this).2]; rfl)
      · exact .inr ⟨c, r, rfl, by omega⟩)
    unfold numL
    rw [e, map_back h2]
theorem numL_canon : ∀ n : Nat, Canon (numL n) := fun n => by
  refine ⟨numL_ne n, numL_digits n, fun h => ?_⟩
  by_cases c : n < 10
  · rw [numL_lt c] at h ⊢
    have e : 48 + n = 48 := Option.some.inj h
    rw [e]
  · exfalso
    have v := numL_val n
    have hd := numL_digits n
    cases e : numL n with
    | nil => exact numL_ne n e
    | cons d r =>
      rw [e] at h v hd
      have e1 : d = 48 := Option.some.inj h
      subst e1
      rw [PySem.NumText.digitsVal_zero] at v
      -- the same value with one digit less: too few digits
      have hl : ∀ (m : Nat) (k : List Nat), AllDigits k → digitsVal k < 10 ^ k.length := by
        intro m k hk
        have : ∀ (k : List Nat) (a : Nat), AllDigits k → k.foldl (fun acc c => acc * 10 + (c - 48)) a < (a + 1) * 10 ^ k.length := by
          intro k
          induction k with
          | nil => intro a _; simp
          | cons c r ih =>
            intro a hk
            have hc := hk.head
            have := ih (a * 10 + (c - 48)) hk.tail
            refine Nat.lt_of_lt_of_le this ?_
            rw [List.length_cons, Nat.pow_succ, Nat.mul_comm (10 ^ r.length) 10, ← Nat.mul_assoc]
            exact Nat.mul_le_mul_right _ (by omega)
        have h0 := this k 0 hk
        unfold digitsVal
        omega
      have lo : 10 ^ r.length ≤ n := by
        apply Classical.byContradiction
        intro z
        by_cases rz : r.length = 0
        · rw [rz] at z
          simp at z
          omega
        · have := numL_len (n := n) (k := r.length) (by omega) (by omega)
          rw [e, List.length_cons] at this
          omega
      have hi := hl 0 r hd.tail
      omega
theorem val_lt {l : List Nat} (h : AllDigits l) : digitsVal l < 10 ^ l.length := by
  have : ∀ (k : List Nat) (a : Nat), AllDigits k → k.foldl (fun acc c => acc * 10 + (c - 48)) a < (a + 1) * 10 ^ k.length := by
    intro k
    induction k with
    | nil => intro a _; simp
    | cons c r ih =>
      intro a hk
      have hc := hk.head
      have := ih (a * 10 + (c - 48)) hk.tail
      refine Nat.lt_of_lt_of_le this ?_
      rw [List.length_cons, Nat.pow_succ, Nat.mul_comm (10 ^ r.length) 10, ← Nat.mul_assoc]
      exact Nat.mul_le_mul_right _ (by omega)
  have h0 := this l 0 h
  unfold digitsVal
  omega
/-! ### a number, written -/
def fmt (x : Rat) : List Nat := (if x.num < 0 then [45] else []) ++ (numL x.num.natAbs ++ (if x.den = 1 then [] else 47 :: numL x.den))
def Nine (x : Rat) : Prop := x.num.natAbs < 10 ^ 9 ∧ x.den < 10 ^ 9
theorem numL_head {n : Nat} {m : List Nat} : isNeg (numL n ++ m) = false := by
  have h := numL_digits n
  have hn := numL_ne n
  unfold isNeg
  cases e : numL n with
  | nil => exact absurd e hn
  | cons c r =>
    rw [e] at h
    have := h.head
    show (some c == some 45) = false
    exact beq_eq_false_iff_ne.mpr fun z => by
      have := Option.some.inj z
      omega
theorem fmt_neg (x : Rat) : isNeg (fmt x) = decide (x.num < 0) := by
  unfold fmt
  by_cases h : x.num < 0
  · rw [if_pos h, decide_eq_true h]
    rfl
  · rw [if_neg h, decide_eq_false h, List.nil_append]
    exact numL_head
theorem fmt_body (x : Rat) : body (fmt x) = numL x.num.natAbs ++ (if x.den = 1 then [] else 47 :: numL x.den) := by
  unfold body
  rw [fmt_neg]
  unfold fmt
  by_cases h : x.num < 0
  · rw [if_pos h, decide_eq_true h, if_pos rfl]
    rfl
  · rw [if_neg h, decide_eq_false h, if_neg Bool.false_ne_true]
    rfl
theorem fmt_alpha (x : Rat) : Alpha (fmt x) := by
  unfold fmt
  intro c hc
  rcases List.mem_append.mp hc with hc | hc
  · split at hc
    · exact .inl (List.mem_singleton.mp hc)
    · cases hc
  · rcases List.mem_append.mp hc with hc | hc
    · exact digits_alpha (numL_digits _) c hc
    · split at hc
      · cases hc
      · rcases List.mem_cons.mp hc with hc | hc
        · exact .inr (.inl hc)
        · exact digits_alpha (numL_digits _) c hc
theorem nine_len {n : Nat} (h : n < 10 ^ 9) : (numL n).length ≤ 9 := numL_len (by decide) h
theorem fmt_len {x : Rat} (h : Nine x) : (fmt x).length ≤ 20 := by
  have h1 := nine_len h.1
  have h2 := nine_len h.2
  unfold fmt
  rw [List.length_append, List.length_append]
  have a1 : (if x.num < 0 then [45] else ([] : List Nat)).length ≤ 1 := by split <;> simp
  have a2 : (if x.den = 1 then [] else 47 :: numL x.den).length ≤ 10 := by
    split
    · simp
    · rw [List.length_cons]
      omega
  omega
theorem fmt_inj {x y : Rat} (h : fmt x = fmt y) : x = y := by
  have hs : decide (x.num < 0) = decide (y.num < 0) := by rw [← fmt_neg, ← fmt_neg, h]
  have hb : sp (body (fmt x)) = sp (body (fmt y)) := by rw [h]
  rw [fmt_body, fmt_body] at hb
  have spf : ∀ x : Rat, sp (numL x.num.natAbs ++ (if x.den = 1 then [] else 47 :: numL x.den)) = (if x.den = 1 then [numL x.num.natAbs] else [numL x.num.natAbs, numL x.den]) := fun x => by
    split
    · rw [List.append_nil, sp_no (numL_47 _)]
    · rw [sp_two (numL_47 _) (numL_47 _)]
  rw [spf, spf] at hb
  have key : numL x.num.natAbs = numL y.num.natAbs ∧ x.den = y.den := by
    by_cases h1 : x.den = 1
    · by_cases h2 : y.den = 1
      · rw [if_pos h1, if_pos h2] at hb
        exact ⟨(List.cons.inj hb).1, by omega⟩
      · rw [if_pos h1, if_neg h2] at hb
        cases (List.cons.inj hb).2
    · by_cases h2 : y.den = 1
      · rw [if_neg h1, if_pos h2] at hb
        cases (List.cons.inj hb).2
      · rw [if_neg h1, if_neg h2] at hb
        have hb' := List.cons.inj hb
        exact ⟨hb'.1, numL_inj (List.cons.inj hb'.2).1⟩
  have hn := numL_inj key.1
  refine Rat.ext ?_ key.2
  by_cases c : x.num < 0
  · rw [decide_eq_true c] at hs
    have := of_decide_eq_true hs.symm
    omega
  · rw [decide_eq_false c] at hs
    have := of_decide_eq_false hs.symm
    omega
/-- the number that a word writes, if it writes one -/
noncomputable def rd (l : List Nat) : Option Rat := open Classical in if h : ∃ x, Nine x ∧ l = fmt x then some (Classical.choose h) else none
theorem rd_fmt {x : Rat} (h : Nine x) : rd (fmt x) = some x := by
  have hx : ∃ y, Nine y ∧ fmt x = fmt y := ⟨x, h, rfl⟩
  unfold rd
  rw [dif_pos hx]
  exact congrArg some (fmt_inj (Classical.choose_spec hx).2).symm
theorem rd_none {l : List Nat} (h : ∀ x, Nine x → l ≠ fmt x) : rd l = none := by
  unfold rd
  rw [dif_neg]
  rintro ⟨x, h1, h2⟩
  exact h x h1 h2
theorem rd_cases (l : List Nat) : (∃ x, Nine x ∧ l = fmt x) ∨ (∀ x, Nine x → l ≠ fmt x) := by
  by_cases h : ∃ x, Nine x ∧ l = fmt x
  · exact .inl h
  · exact .inr fun x h1 h2 => h ⟨x, h1, h2⟩
def optD : Option Rat → D
  | some x => dq x
  | none => .none
end MT

namespace MT
open PySem L2 DL TL
open PySem.NumText (AllDigits digitsVal)
theorem app_slash {p q p' q' : List Nat} (h : p ++ 47 :: q = p' ++ 47 :: q') (hp : 47 ∉ p) (hp' : 47 ∉ p') : p = p' ∧ q = q' := by
  have h1 := par_two (q := q) hp
  have h2 := par_two (q := q') hp'
  rw [h] at h1
  have e := h1.symm.trans h2
  have e1 := Prod.mk.inj e
  have e2 := Prod.mk.inj e1.2
  exact ⟨S_inj e1.1, S_inj e2.2⟩
theorem numL_one : numL 1 = [49] := by decide +kernel
/-- above, below as they are cut out of a word -/
def Cut (l A B : List Nat) : Prop := (body l = A ∧ 47 ∉ A ∧ B = [49]) ∨ (body l = A ++ 47 :: B ∧ 47 ∉ A)
theorem cut_fmt {l A B : List Nat} {x : Rat} (h : Cut l A B) (e : l = fmt x) : A = numL x.num.natAbs ∧ B = numL x.den := by
  subst e
  unfold Cut at h
  rw [fmt_body] at h
  by_cases hd : x.den = 1
  · rw [if_pos hd, List.append_nil] at h
    rcases h with ⟨h1, _, h3⟩ | ⟨h1, _⟩
    · exact ⟨h1.symm, by rw [h3, hd, numL_one]⟩
    · exfalso
      refine numL_47 x.num.natAbs ?_
      rw [h1]
      exact List.mem_append_right _ List.mem_cons_self
  · rw [if_neg hd] at h
    rcases h with ⟨h1, h2, _⟩ | ⟨h1, h2⟩
    · exfalso
      refine h2 ?_
      rw [← h1]
      exact List.mem_append_right _ List.mem_cons_self
    · have := app_slash h1 (numL_47 _) h2
      exact ⟨this.1.symm, this.2.symm⟩
def Whole (l : List Nat) : Prop := l ≠ [] ∧ AllDigits l ∧ l.length ≤ 9
theorem whole_num {n : Nat} (h : n < 10 ^ 9) : Whole (numL n) := ⟨numL_ne n, numL_digits n, nine_len h⟩
/-- the number that is read off -/
def rdY (l A B : List Nat) : Rat := Rat.divInt (if isNeg l then -(digitsVal A : Int) else (digitsVal A : Int)) (digitsVal B : Int)
theorem rdY_fmt {l A B : List Nat} {x : Rat} (h : Cut l A B) (e : l = fmt x) : rdY l A B = x := by
  obtain ⟨h1, h2⟩ := cut_fmt h e
  unfold rdY
  rw [h1, h2, numL_val, numL_val, e, fmt_neg]
  have e1 : (if decide (x.num < 0) = true then -((x.num.natAbs : Nat) : Int) else ((x.num.natAbs : Nat) : Int)) = x.num := by
    by_cases c : x.num < 0
    · rw [if_pos (decide_eq_true c)]
      omega
    · rw [if_neg (by rw [decide_eq_false c]; exact Bool.false_ne_true)]
      omega
  rw [e1, Rat.num_divInt_den]
theorem whole_lt {l : List Nat} (h : Whole l) : digitsVal l < 10 ^ 9 := Nat.lt_of_lt_of_le (val_lt h.2.1) (Nat.pow_le_pow_right (by decide) h.2.2)
theorem rdY_nine {l A B : List Nat} (hA : Whole A) (hB : Whole B) (h0 : digitsVal B ≠ 0) : Nine (rdY l A B) := by
  have h1 := whole_lt hA
  have h2 := whole_lt hB
  have h3 := frac_le (t := if isNeg l then -(digitsVal A : Int) else (digitsVal A : Int)) (b := (digitsVal B : Int)) (by omega)
  unfold Nine rdY
  refine ⟨Nat.lt_of_le_of_lt h3.1 ?_, Nat.lt_of_le_of_lt h3.2 ?_⟩
  · split <;> omega
  · omega
theorem rd_bad {l A B : List Nat} (h : Cut l A B) (hb : ¬ (Whole A ∧ Whole B ∧ digitsVal B ≠ 0)) : rd l = none := rd_none fun x hx e => hb (by
  obtain ⟨h1, h2⟩ := cut_fmt h e
  refine ⟨by rw [h1]; exact whole_num hx.1, by rw [h2]; exact whole_num hx.2, ?_⟩
  rw [h2, numL_val]
  exact x.den_nz)
theorem rd_other {l A B : List Nat} (h : Cut l A B) (hn : fmt (rdY l A B) ≠ l) : rd l = none := rd_none fun x hx e => hn (by rw [rdY_fmt h e]; exact e.symm)
/-! ### by the parts -/
def GoodP (p : List Nat) : Prop := Canon p ∧ p.length ≤ 9
theorem sp_fmt (x : Rat) : sp (body (fmt x)) = (if x.den = 1 then [numL x.num.natAbs] else [numL x.num.natAbs, numL x.den]) := by
  rw [fmt_body]
  split
  · rw [List.append_nil, sp_no (numL_47 _)]
  · rw [sp_two (numL_47 _) (numL_47 _)]
theorem rd_long {l : List Nat} (h : 2 < (sp (body l)).length) : rd l = none := rd_none fun x hx e => by
  subst e
  rw [sp_fmt] at h
  split at h <;> simp at h
theorem rd_part {l p : List Nat} (hp : p ∈ sp (body l)) (h : ¬ GoodP p) : rd l = none := rd_none fun x hx e => by
  subst e
  rw [sp_fmt] at hp
  refine h ?_
  have g : ∀ n : Nat, n < 10 ^ 9 → GoodP (numL n) := fun n hn => ⟨numL_canon n, nine_len hn⟩
  split at hp
  · rw [List.mem_singleton.mp hp]
    exact g _ hx.1
  · rcases List.mem_cons.mp hp with hp | hp
    · rw [hp]
      exact g _ hx.1
    · rw [List.mem_singleton.mp hp]
      exact g _ hx.2
/-- top and bottom by the parts -/
def Par (l : List Nat) (n b : Nat) : Prop := (∃ p, sp (body l) = [p] ∧ GoodP p ∧ n = digitsVal p ∧ b = 1) ∨ (∃ p q, sp (body l) = [p, q] ∧ GoodP p ∧ GoodP q ∧ n = digitsVal p ∧ b = digitsVal q)
theorem par_fmt {l : List Nat} {n b : Nat} {x : Rat} (h : Par l n b) (e : l = fmt x) : n = x.num.natAbs ∧ b = x.den := by
  subst e
  unfold Par at h
  rw [sp_fmt] at h
  by_cases hd : x.den = 1
  · rw [if_pos hd] at h
    rcases h with ⟨p, h1, _, h3, h4⟩ | ⟨p, q, h1, _⟩
    · rw [h3, ← (List.cons.inj h1).1, numL_val]
      exact ⟨rfl, by rw [h4, hd]⟩
    · cases (List.cons.inj h1).2
  · rw [if_neg hd] at h
    rcases h with ⟨p, h1, _⟩ | ⟨p, q, h1, _, _, h3, h4⟩
    · cases (List.cons.inj h1).2
    · have h1' := List.cons.inj h1
      rw [h3, h4, ← h1'.1, ← (List.cons.inj h1'.2).1, numL_val, numL_val]
      exact ⟨rfl, rfl⟩
/-- in lowest terms as they stand -/
def Low (n b : Nat) : Prop := (Rat.divInt (n : Int) (b : Int)).num = n ∧ (Rat.divInt (n : Int) (b : Int)).den = b
theorem low_of (x : Rat) : Low x.num.natAbs x.den := by
  have h : ∀ m : Int, m.natAbs = x.num.natAbs → (Rat.divInt m (x.den : Int)).num.natAbs = x.num.natAbs ∧ (Rat.divInt m (x.den : Int)).den = x.den := fun m hm => by
    rcases (show m = x.num ∨ m = -x.num by omega) with e | e
    · rw [e, Rat.num_divInt_den]
      exact ⟨rfl, rfl⟩
    · have e2 : Rat.divInt (-x.num) (x.den : Int) = -x := by rw [← Rat.neg_divInt, Rat.num_divInt_den]
      rw [e, e2, Rat.neg_num, Rat.neg_den, Int.natAbs_neg]
      exact ⟨rfl, rfl⟩
  obtain ⟨h1, h2⟩ := h (x.num.natAbs : Int) (Int.natAbs_natCast _)
  refine ⟨?_, h2⟩
  have p : 0 ≤ (Rat.divInt (x.num.natAbs : Int) (x.den : Int)).num := Rat.num_nonneg.mpr (Rat.divInt_nonneg (by omega) (by omega))
  omega
theorem rd_small {l : List Nat} {n b : Nat} (h : Par l n b) (h2 : ∃ p q, sp (body l) = [p, q]) (hb : b < 2) : rd l = none := rd_none fun x hx e => by
  have h1 := (par_fmt h e).2
  subst e
  obtain ⟨p, q, h2⟩ := h2
  rw [sp_fmt] at h2
  split at h2
  · cases (List.cons.inj h2).2
  · rename_i hd
    have := x.den_nz
    omega
theorem rd_zero {l : List Nat} {n b : Nat} (h : Par l n b) (hm : isNeg l = true) (hn : n = 0) : rd l = none := rd_none fun x hx e => by
  have h1 := (par_fmt h e).1
  subst e
  rw [fmt_neg] at hm
  have := of_decide_eq_true hm
  omega
theorem rd_high {l : List Nat} {n b : Nat} (h : Par l n b) (hl : ¬ Low n b) : rd l = none := rd_none fun x hx e => by
  obtain ⟨h1, h2⟩ := par_fmt h e
  refine hl ?_
  rw [h1, h2]
  exact low_of x
theorem rd_good {l : List Nat} {n b : Nat} (h : Par l n b) (hb : (∃ p q, sp (body l) = [p, q]) → 2 ≤ b) (hm : isNeg l = true → n ≠ 0) (hl : Low n b) : ∃ y : Rat, rd l = some y ∧ y.num = (if isNeg l then -(n : Int) else (n : Int)) ∧ y.den = b := by
  have hsg : (Rat.divInt (if isNeg l then -(n : Int) else (n : Int)) (b : Int)).num = (if isNeg l then -(n : Int) else (n : Int)) ∧ (Rat.divInt (if isNeg l then -(n : Int) else (n : Int)) (b : Int)).den = b := by
    cases isNeg l with
    | true =>
      rw [if_pos rfl, ← Rat.neg_divInt, Rat.neg_num, Rat.neg_den, hl.1]
      exact ⟨rfl, hl.2⟩
    | false =>
      rw [if_neg Bool.false_ne_true]
      exact hl
  refine ⟨Rat.divInt (if isNeg l then -(n : Int) else (n : Int)) (b : Int), ?_, hsg.1, hsg.2⟩
  generalize Rat.divInt (if isNeg l then -(n : Int) else (n : Int)) (b : Int) = y at hsg
  have hnat : y.num.natAbs = n := by
    rw [hsg.1]
    split <;> omega
  have hneg : decide (y.num < 0) = isNeg l := by
    rw [hsg.1]
    cases e : isNeg l with
    | true =>
      have := hm e
      rw [if_pos rfl]
      exact decide_eq_true (by omega)
    | false =>
      rw [if_neg Bool.false_ne_true]
      exact decide_eq_false (by omega)
  have hbd : body l = numL n ++ (if b = 1 then [] else 47 :: numL b) := by
    have hj := sp_join (body l)
    rcases h with ⟨p, h1, h2, h3, h4⟩ | ⟨p, q, h1, h2, h3, h4, h5⟩
    · rw [h1] at hj
      rw [if_pos h4, h3, canon_val h2.1, List.append_nil]
      exact hj.symm
    · have b2 := hb ⟨p, q, h1⟩
      rw [h1] at hj
      rw [if_neg (by omega), h4, h5, canon_val h2.1, canon_val h3.1]
      exact hj.symm
  have e : l = fmt y := by
    have hs := neg_split l
    unfold fmt
    rw [hsg.2, hnat, ← hbd]
    have e2 : (if y.num < 0 then [45] else ([] : List Nat)) = (if isNeg l then [45] else []) := by
      rw [← hneg]
      by_cases c : y.num < 0
      · rw [if_pos c, if_pos (decide_eq_true c)]
      · rw [if_neg c, if_neg (by rw [decide_eq_false c]; exact Bool.false_ne_true)]
    rw [e2]
    exact hs
  have nine : Nine y := by
    have lt : ∀ p, GoodP p → digitsVal p < 10 ^ 9 := fun p hp => whole_lt ⟨hp.1.1, hp.1.2.1, hp.2⟩
    unfold Nine
    rw [hnat, hsg.2]
    rcases h with ⟨p, h1, h2, h3, h4⟩ | ⟨p, q, h1, h2, h3, h4, h5⟩
    · rw [h3, h4]
      exact ⟨lt p h2, by decide⟩
    · rw [h4, h5]
      exact ⟨lt p h2, lt q h3⟩
  rw [e]
  exact rd_fmt nine
end MT

/-! Clips, as Lean's. -/
namespace MT
open PySem L2 DL
structure Pc where
  len : Rat
  a : Rat
  b : Rat
  c : Rat
deriving DecidableEq
namespace Pc
def val (p : Pc) (t : Rat) : Rat := p.a + t * (p.b + p.c * t)
end Pc
def dRow (p : Pc) : D := .tuple [dq p.a, dq p.b, dq p.c]
def dPc (p : Pc) : D := .tuple [dq p.len, dRow p]
def dTr (t : List Pc) : D := .tuple (t.map dPc)
structure Bp (n : Nat) (p : Pc) : Prop where
  len : Bq n p.len
  a : Bq n p.a
  b : Bq n p.b
  c : Bq n p.c
theorem Bp.mono {n m : Nat} {p : Pc} (h : Bp n p) (l : n ≤ m) : Bp m p := ⟨h.len.mono l, h.a.mono l, h.b.mono l, h.c.mono l⟩
theorem Bp.val {n m : Nat} {p : Pc} {t : Rat} (h : Bp n p) (ht : Bq m t) : Bq (3 * n + 2 * m + 2) (p.val t) := by
  have h1 := h.a.add (ht.mul (h.b.add (h.c.mul ht)))
  exact h1.mono (by omega)
/-- where the pieces begin and end, from s on -/
def jnt (s : Rat) : List Pc → List Rat
  | [] => [s]
  | p :: r => s :: jnt (s + p.len) r
/-- the value at x of the pieces that begin at s -/
def valF (s : Rat) : List Pc → Rat → Rat
  | [], _ => s
  | p :: r, x => if ¬ s + p.len < x ∨ r = [] then p.val (x - s) else valF (s + p.len) r x
theorem jnt_len (s : Rat) : ∀ l : List Pc, (jnt s l).length = l.length + 1
  | [] => rfl
  | p :: r => by
    show (jnt (s + p.len) r).length + 1 = r.length + 1 + 1
    rw [jnt_len]
theorem jnt_drop : ∀ (l : List Pc) (s : Rat) (i : Nat) (u : Rat), (jnt s l)[i]? = some u → (jnt s l).drop i = jnt u (l.drop i)
  | l, s, 0, u, h => by
    have e : s = u := by
      cases l with
      | nil => exact Option.some.inj h
      | cons p r => exact Option.some.inj h
    rw [e]
    rfl
  | [], s, i + 1, u, h => by cases h
  | p :: r, s, i + 1, u, h => jnt_drop r (s + p.len) i u h
theorem jnt_succ {l : List Pc} {s u : Rat} {i : Nat} {p : Pc} (h : (jnt s l)[i]? = some u) (hp : l[i]? = some p) : (jnt s l)[i + 1]? = some (u + p.len) := by
  have e := jnt_drop l s i u h
  have il : i < l.length := (List.getElem?_eq_some_iff.mp hp).1
  have ep : p = l[i] := by
    have := List.getElem?_eq_getElem il
    rw [this] at hp
    exact (Option.some.inj hp).symm
  have e2 : ((jnt s l).drop i)[1]? = some (u + p.len) := by
    rw [e, List.drop_eq_getElem_cons il, ← ep]
    show (u :: jnt (u + p.len) _)[1]? = _
    show (jnt (u + p.len) (List.drop (i + 1) l))[0]? = _
    cases List.drop (i + 1) l <;> rfl
  rw [List.getElem?_drop] at e2
  exact e2
/-! ### sorted, each once -/
def insQ : List Rat → Rat → List Rat
  | [], a => [a]
  | q :: r, a => if q < a then q :: insQ r a else if q = a then q :: r else a :: q :: r
def sortQ (l : List Rat) : List Rat := l.foldl insQ []
theorem insQ_mem {l : List Rat} {a x : Rat} (h : x ∈ insQ l a) : x = a ∨ x ∈ l := by
  induction l with
  | nil => exact .inl (List.mem_singleton.mp h)
  | cons q r ih =>
    unfold insQ at h
    by_cases c : q < a
    · rw [if_pos c] at h
      rcases List.mem_cons.mp h with z | z
      · exact .inr (by rw [z]; exact List.mem_cons_self)
      · rcases ih z with w | w
        · exact .inl w
        · exact .inr (List.mem_cons_of_mem _ w)
    · rw [if_neg c] at h
      by_cases c2 : q = a
      · rw [if_pos c2] at h
        exact .inr h
      · rw [if_neg c2] at h
        rcases List.mem_cons.mp h with z | z
        · exact .inl z
        · exact .inr z
theorem insQ_len (l : List Rat) (a : Rat) : (insQ l a).length ≤ l.length + 1 := by
  induction l with
  | nil => exact Nat.le_refl _
  | cons q r ih =>
    unfold insQ
    split
    · rw [List.length_cons, List.length_cons]; omega
    · split
      · rw [List.length_cons]; omega
      · rw [List.length_cons, List.length_cons]; omega
theorem sortQ_snoc (l : List Rat) (a : Rat) : sortQ (l ++ [a]) = insQ (sortQ l) a := by
  unfold sortQ
  rw [List.foldl_append]
  rfl
theorem sortQ_mem : ∀ {l : List Rat} {x : Rat}, x ∈ sortQ l → x ∈ l := by
  have h : ∀ (l acc : List Rat) (x : Rat), x ∈ l.foldl insQ acc → x ∈ acc ∨ x ∈ l := by
    intro l
    induction l with
    | nil => intro acc x h; exact .inl h
    | cons a r ih =>
      intro acc x h
      rcases ih _ _ h with z | z
      · rcases insQ_mem z with w | w
        · exact .inr (by rw [w]; exact List.mem_cons_self)
        · exact .inl w
      · exact .inr (List.mem_cons_of_mem _ z)
  intro l x hx
  rcases h l [] x hx with z | z
  · cases z
  · exact z
theorem sortQ_len : ∀ l : List Rat, (sortQ l).length ≤ l.length := by
  have h : ∀ (l acc : List Rat), (l.foldl insQ acc).length ≤ acc.length + l.length := by
    intro l
    induction l with
    | nil => intro acc; exact Nat.le_refl _
    | cons a r ih =>
      intro acc
      have h1 := ih (insQ acc a)
      have h2 := insQ_len acc a
      rw [List.length_cons]
      show (r.foldl insQ (insQ acc a)).length ≤ _
      omega
  intro l
  have := h l []
  rw [List.length_nil, Nat.zero_add] at this
  exact this
theorem insQ_at {l : List Rat} {a : Rat} : ∀ {n : Nat}, (∀ q ∈ l.take n, q < a) → insQ l a = l.take n ++ insQ (l.drop n) a := by
  intro n
  induction n generalizing l with
  | zero => intro _; rfl
  | succ n ih =>
    intro h
    cases l with
    | nil => rfl
    | cons q r =>
      have hq : q < a := h q (by rw [List.take_succ_cons]; exact List.mem_cons_self)
      have hr : ∀ x ∈ r.take n, x < a := fun x hx => h x (by rw [List.take_succ_cons]; exact List.mem_cons_of_mem _ hx)
      show (if q < a then _ else _) = _
      rw [if_pos hq, ih hr]
      rfl
/-! ### drawn tracks -/
def bOf (ds : List Int) (j : Nat) : Rat := Rat.divInt (ds.getD (1 + 2 * j) 0 - 3) (1 + ds.getD (1 + 2 * j) 0 % 2)
def cOf (ds : List Int) (j : Nat) : Rat := Rat.divInt (ds.getD (2 + 2 * j) 0 - 2) (1 + ds.getD (2 + 2 * j) 0 % 3)
def trk (ds : List Int) : Nat → Rat → List Rat → List Pc
  | _, _, [] => []
  | j, a, l :: ls => ⟨l, a, bOf ds j, cOf ds j⟩ :: trk ds (j + 1) (Pc.val ⟨l, a, bOf ds j, cOf ds j⟩ l) ls
theorem val_sz {na nb nc m : Nat} {l a b c t : Rat} (ha : Bq na a) (hb : Bq nb b) (hc : Bq nc c) (ht : Bq m t) : Bq (na + (m + (nb + (nc + m) + 1)) + 1) (Pc.val ⟨l, a, b, c⟩ t) := ha.add (ht.mul (hb.add (hc.mul ht)))
end MT

namespace MT
open PySem L2 DL
/-! ### drawn clips -/
def LENS : List Rat := [⟨1, 1, by decide, by decide⟩, ⟨2, 1, by decide, by decide⟩, ⟨1, 2, by decide, by decide⟩, ⟨3, 2, by decide, by decide⟩]
def lensOf (ds : List Int) : List Rat := (List.range (1 + ds.getD 0 0).toNat).map fun j => LENS.getD (ds.getD (2 + j) 0).toNat 0
def MN : List Str := ["go", "up", "m"]
def mkOf (ds : List Int) (L : Rat) (j : Nat) : Rat × Str := (L * Rat.divInt (ds.getD (20 + 2 * j) 0) 8, MN.getD (ds.getD (21 + 2 * j) 0).toNat "")
def addM (acc : List (Rat × Str)) (m : Rat × Str) : List (Rat × Str) := if m ∈ acc then acc else acc ++ [m]
def mksOf (ds : List Int) (L : Rat) : Nat → List (Rat × Str)
  | 0 => []
  | n + 1 => addM (mksOf ds L n) (mkOf ds L n)
def leS (x y : Str) : Bool := decide (¬ y.cps.toList < x.cps.toList)
def srtS (l : List Str) : List Str := l.mergeSort leS
theorem srtS_perm (l : List Str) : (srtS l).Perm l := List.mergeSort_perm l leS
theorem srtS_srt (l : List Str) : SrtS (srtS l) := by
  have h := List.pairwise_mergeSort (le := leS) (fun a b c h1 h2 => by
    have h1 := of_decide_eq_true h1
    have h2 := of_decide_eq_true h2
    exact decide_eq_true (lst_ntr h1 h2)) (fun a b => by
    by_cases c : b.cps.toList < a.cps.toList
    · have : leS b a = true := decide_eq_true (lst_asym c)
      rw [this, Bool.or_true]
    · have : leS a b = true := decide_eq_true c
      rw [this, Bool.true_or]) l
  exact h.imp fun h => of_decide_eq_true h
def atM (ms : List (Rat × Str)) (x : Rat) : List Str := (ms.filter fun m => decide (m.1 = x)).map (·.2)
def ordOf (ms : List (Rat × Str)) : List (Rat × Str) := (sortQ (ms.map (·.1))).flatMap fun x => (srtS (atM ms x)).map fun n => (x, n)
structure Clip where
  len : Rat
  tracks : List (Str × List Pc)
  marks : List (Rat × Str)
def dMk (m : Rat × Str) : D := .tuple [dq m.1, .str m.2]
def dNt (t : Str × List Pc) : D := .tuple [.str t.1, dTr t.2]
def dClip (c : Clip) : D := .tuple [dq c.len, .tuple (c.tracks.map dNt), .tuple (c.marks.map dMk)]
def SZ : List Int := [3, 2, 4, 4, 4, 7, 7, 5, 7, 5, 7, 5, 7, 7, 5, 7, 5, 7, 5, 4, 9, 3, 9, 3, 9, 3]
def sumQ (l : List Rat) : Rat := l.foldl (· + ·) 0
theorem eqv_dMk (m n : Rat × Str) : PyData.eqv (dMk m) (dMk n) = decide (m = n) := by
  obtain ⟨x, s⟩ := m
  obtain ⟨y, t⟩ := n
  have e : PyData.eqv (dMk (x, s)) (dMk (y, t)) = (PyData.eqv (dq x) (dq y) && ((s == t) && true)) := by
    unfold dMk
    simp only [PyData.eqv, PyData.eqvAll]
  rw [e, eqv_dq_iff, Bool.and_true]
  by_cases h1 : x = y
  · subst h1
    by_cases h2 : s = t
    · subst h2
      rw [decide_eq_true rfl, decide_eq_true rfl, beq_self_eq_true]
      rfl
    · rw [decide_eq_true rfl, Bool.true_and, decide_eq_false (fun z => h2 (Prod.mk.inj z).2)]
      exact beq_eq_false_iff_ne.mpr h2
  · rw [decide_eq_false h1, Bool.false_and, decide_eq_false fun z => h1 (Prod.mk.inj z).1]
theorem any_dMk (ms : List (Rat × Str)) (m : Rat × Str) : ((ms.map dMk).any fun z => PyData.eqv z (dMk m)) = decide (m ∈ ms) := by
  induction ms with
  | nil => rfl
  | cons a r ih =>
    rw [List.map_cons, List.any_cons, ih, eqv_dMk]
    by_cases h1 : a = m
    · subst h1
      rw [decide_eq_true rfl, Bool.true_or, decide_eq_true List.mem_cons_self]
    · rw [decide_eq_false h1, Bool.false_or]
      by_cases h2 : m ∈ r
      · rw [decide_eq_true h2, decide_eq_true (List.mem_cons_of_mem _ h2)]
      · rw [decide_eq_false h2, decide_eq_false fun z => (List.mem_cons.mp z).elim (fun e => h1 e.symm) h2]
def clipOf (ds : List Int) (kind : Nat) (n1 n2 : Nat → Str) : Clip :=
  { len := sumQ (lensOf ds)
    tracks := (n1 kind, trk ((ds.drop 5).take 7) 0 ((((ds.drop 5).take 7).getD 0 0 - 3 : Int) : Rat) (lensOf ds)) ::
      (if ds.getD 1 0 = 1 then [(n2 kind, trk ((ds.drop 12).take 7) 0 ((((ds.drop 12).take 7).getD 0 0 - 3 : Int) : Rat) (lensOf ds).reverse)] else [])
    marks := ordOf (mksOf ds (sumQ (lensOf ds)) (ds.getD 19 0 % 4).toNat) }
theorem dMk_lay (m : Rat × Str) (h : PyData.strOk m.2 = true) : (dMk m).canLay0 = true := by simp [dMk, dq, PyData.canLay0, PyData.canLayAll0, h]
theorem dMk_depth (m : Rat × Str) : (dMk m).depth ≤ 3 := by simp [dMk, dq, PyData.depth, PyData.depthAll]
theorem dMk_shaped (m : Rat × Str) (hs : PyData.strOk m.2 = true) : SeqAt.shaped (dMk m) = true := by
  have h := dMk_depth m
  show ((dMk m).canLay0 && decide ((dMk m).depth ≤ 64)) = true
  rw [Bool.and_eq_true]
  exact ⟨dMk_lay m hs, decide_eq_true (by omega)⟩
theorem dMks_lay : ∀ zs : List (Rat × Str), (∀ m ∈ zs, PyData.strOk m.2 = true) → PyData.canLayAll0 (zs.map dMk) = true
  | [], _ => by simp [PyData.canLayAll0]
  | z :: zs, h => by simp [PyData.canLayAll0, dMk_lay z (h z List.mem_cons_self), dMks_lay zs fun m hm => h m (List.mem_cons_of_mem _ hm)]
theorem dMks_depth : ∀ zs : List (Rat × Str), PyData.depthAll (zs.map dMk) ≤ 3
  | [] => by simp [PyData.depthAll]
  | z :: zs => by
    have h1 := dMks_depth zs
    have h2 := dMk_depth z
    simp only [List.map_cons, PyData.depthAll]
    omega
theorem dMks_shaped (zs : List (Rat × Str)) (hs : ∀ m ∈ zs, PyData.strOk m.2 = true) : SeqAt.shaped (.list (zs.map dMk)) = true := by
  have h1 := dMks_depth zs
  have h2 : PyData.depth (.list (zs.map dMk)) ≤ 64 := by
    simp only [PyData.depth]
    omega
  show (PyData.canLay0 (.list (zs.map dMk)) && decide (PyData.depth (.list (zs.map dMk)) ≤ 64)) = true
  rw [Bool.and_eq_true]
  exact ⟨by simp only [PyData.canLay0]; exact dMks_lay zs hs, decide_eq_true h2⟩
theorem MN_ok (i : Nat) : PyData.strOk (MN.getD i "") = true := by
  match i with
  | 0 => decide +kernel
  | 1 => decide +kernel
  | 2 => decide +kernel
  | i + 3 => show PyData.strOk ("" : Str) = true; decide +kernel
theorem mks_ok {ds : List Int} {L : Rat} : ∀ n, ∀ m ∈ mksOf ds L n, PyData.strOk m.2 = true
  | 0, m, h => by cases h
  | n + 1, m, h => by
    have h' : m ∈ (if mkOf ds L n ∈ mksOf ds L n then mksOf ds L n else mksOf ds L n ++ [mkOf ds L n]) := h
    have ih := mks_ok (ds := ds) (L := L) n
    split at h'
    · exact ih m h'
    · rcases List.mem_append.mp h' with z | z
      · exact ih m z
      · rw [List.mem_singleton.mp z]
        exact MN_ok _
theorem LENS_sz (i : Nat) : Bq 4 (LENS.getD i 0) := by
  match i with
  | 0 => exact ⟨by decide, by decide⟩
  | 1 => exact ⟨by decide, by decide⟩
  | 2 => exact ⟨by decide, by decide⟩
  | 3 => exact ⟨by decide, by decide⟩
  | i + 4 => exact ⟨by show (0 : Int).natAbs < _; decide, by show 1 < 2 ^ 4; decide⟩
theorem lens_sz {ds : List Int} : ∀ l ∈ lensOf ds, Bq 4 l := fun l h => by
  obtain ⟨j, _, rfl⟩ := List.mem_map.mp h
  exact LENS_sz _
theorem sumQ_snoc (l : List Rat) (x : Rat) : sumQ (l ++ [x]) = sumQ l + x := by
  unfold sumQ
  rw [List.foldl_append]
  rfl
theorem sumQ_sz : ∀ (n : Nat) (l : List Rat), l.length = n → (∀ x ∈ l, Bq 4 x) → Bq (1 + 5 * n) (sumQ l)
  | 0, l, h, _ => by
    rw [List.eq_nil_of_length_eq_zero h]
    exact ⟨by decide, by decide⟩
  | n + 1, l, h, hs => by
    have e : l = l.take n ++ [l[n]] := by rw [← List.take_succ_eq_append_getElem (by omega), List.take_of_length_le (by omega)]
    rw [e, sumQ_snoc]
    have h1 := sumQ_sz n (l.take n) (by rw [List.length_take]; omega) fun x hx => hs x (List.mem_of_mem_take hx)
    exact (h1.add (hs l[n] (List.getElem_mem _))).mono (by omega)
theorem mks_len (ds : List Int) (L : Rat) : ∀ n, (mksOf ds L n).length ≤ n
  | 0 => Nat.le_refl _
  | n + 1 => by
    have := mks_len ds L n
    show (if _ then _ else _ : List _).length ≤ _
    split
    · omega
    · rw [List.length_append, List.length_singleton]; omega
theorem mks_sz {ds : List Int} {L : Rat} {n0 : Nat} (hL : Bq n0 L) (hd : ∀ i : Nat, 0 ≤ ds.getD (20 + 2 * i) 0 ∧ ds.getD (20 + 2 * i) 0 < 9) : ∀ n, ∀ m ∈ mksOf ds L n, Bq (n0 + 4) m.1
  | 0, m, h => by cases h
  | n + 1, m, h => by
    have h' : m ∈ (if mkOf ds L n ∈ mksOf ds L n then mksOf ds L n else mksOf ds L n ++ [mkOf ds L n]) := h
    have ih := mks_sz hL hd n
    split at h'
    · exact ih m h'
    · rcases List.mem_append.mp h' with z | z
      · exact ih m z
      · rw [List.mem_singleton.mp z]
        have h2 := hd n
        exact hL.mul (Bq.frac (by decide) (by show _ < 16; omega) (by decide))
theorem atM_map (ms : List (Rat × Str)) (x : Rat) : ((ms.filter fun m => decide (m.1 = x)).map dMk) = (atM ms x).map (encN (dq x)) := by
  unfold atM
  rw [List.map_map]
  refine List.map_congr_left fun m hm => ?_
  have e := of_decide_eq_true (List.mem_filter.mp hm).2
  show PyData.tuple [dq m.1, .str m.2] = PyData.tuple [dq x, .str m.2]
  rw [e]
end MT

/-! The place of a position; tracks that go on; their sizes. -/
namespace MT
open PySem L2 DL
/-- the piece in which a position lies, and the place in it -/
def fnd (bk : Bool) : List Pc → Rat → Pc × Rat
  | [], x => (⟨0, 0, 0, 0⟩, x)
  | p :: r, x => if r = [] ∨ x < p.len ∨ (bk = true ∧ x = p.len) then (p, x) else fnd bk r (x - p.len)
/-- each piece begins with the value with which the one before it ends -/
def Ctg : List Pc → Prop
  | [] => True
  | p :: r => (∀ q, r.head? = some q → q.a = p.val p.len) ∧ Ctg r
theorem fnd_val : ∀ {tr : List Pc} {s x : Rat}, tr ≠ [] → Ctg tr → (∀ p ∈ tr, 0 < p.len) → valF s tr x = (fnd false tr (x - s)).1.val (fnd false tr (x - s)).2
  | [], _, _, h, _, _ => absurd rfl h
  | p :: r, s, x, _, hc, hp => by
    have e1 : valF s (p :: r) x = if ¬ s + p.len < x ∨ r = [] then p.val (x - s) else valF (s + p.len) r x := rfl
    have e2 : fnd false (p :: r) (x - s) = if r = [] ∨ x - s < p.len ∨ (false = true ∧ x - s = p.len) then (p, x - s) else fnd false r (x - s - p.len) := rfl
    rw [e1, e2]
    by_cases hr : r = []
    · rw [if_pos (.inr hr), if_pos (.inl hr)]
    · have ih := fnd_val (s := s + p.len) (x := x) hr hc.2 fun q hq => hp q (List.mem_cons_of_mem _ hq)
      have e3 : x - (s + p.len) = x - s - p.len := by grind
      rw [e3] at ih
      by_cases h1 : x - s < p.len
      · rw [if_pos (.inl (by grind)), if_pos (.inr (.inl h1))]
      · rw [if_neg (show ¬ (r = [] ∨ x - s < p.len ∨ (false = true ∧ x - s = p.len)) by rintro (z | z | z); exact hr z; exact h1 z; cases z.1)]
        by_cases h2 : s + p.len < x
        · rw [if_neg (by rintro (z | z); exact z h2; exact hr z), ih]
        · rw [if_pos (.inl h2)]
          have e4 : x - s = p.len := by grind
          rw [e4]
          cases r with
          | nil => exact absurd rfl hr
          | cons q r' =>
            have hq := hc.1 q rfl
            have lq := hp q (List.mem_cons_of_mem _ List.mem_cons_self)
            have e5 : p.len - p.len = (0 : Rat) := by grind
            have e6 : fnd false (q :: r') 0 = (q, 0) := by
              show (if _ then _ else _) = _
              rw [if_pos (.inr (.inl lq))]
            rw [e5, e6]
            show p.val p.len = q.val 0
            rw [← hq]
            unfold Pc.val
            grind
theorem fnd_mem (bk : Bool) : ∀ {tr : List Pc} {x : Rat}, tr ≠ [] → (fnd bk tr x).1 ∈ tr
  | [], _, h => absurd rfl h
  | p :: r, x, _ => by
    have e : fnd bk (p :: r) x = if r = [] ∨ x < p.len ∨ (bk = true ∧ x = p.len) then (p, x) else fnd bk r (x - p.len) := rfl
    rw [e]
    split
    · exact List.mem_cons_self
    · rename_i h
      exact List.mem_cons_of_mem _ (fnd_mem bk fun z => h (.inl z))
theorem fnd_place (bk : Bool) : ∀ {tr : List Pc} {s x : Rat}, ∃ u ∈ jnt s tr, (fnd bk tr (x - s)).2 = x - u
  | [], s, x => ⟨s, List.mem_cons_self, rfl⟩
  | p :: r, s, x => by
    have e : fnd bk (p :: r) (x - s) = if r = [] ∨ x - s < p.len ∨ (bk = true ∧ x - s = p.len) then (p, x - s) else fnd bk r (x - s - p.len) := rfl
    rw [e]
    split
    · exact ⟨s, List.mem_cons_self, rfl⟩
    · obtain ⟨u, hu, e⟩ := fnd_place bk (tr := r) (s := s + p.len) (x := x)
      rw [show x - (s + p.len) = x - s - p.len by grind] at e
      exact ⟨u, List.mem_cons_of_mem _ hu, e⟩
/-! ### drawn tracks -/
theorem trk_len (ds : List Int) : ∀ (ls : List Rat) (j : Nat) (a : Rat), (trk ds j a ls).map (·.len) = ls
  | [], _, _ => rfl
  | l :: ls, j, a => by
    show l :: List.map _ (trk ds (j + 1) _ ls) = _
    rw [trk_len ds ls]
theorem trk_ctg (ds : List Int) : ∀ (ls : List Rat) (j : Nat) (a : Rat), Ctg (trk ds j a ls)
  | [], _, _ => trivial
  | l :: ls, j, a => by
    refine ⟨fun q hq => ?_, trk_ctg ds ls _ _⟩
    cases ls with
    | nil => cases hq
    | cons l' ls =>
      cases Option.some.inj hq
      rfl
theorem trk_n (ds : List Int) (ls : List Rat) (j : Nat) (a : Rat) : (trk ds j a ls).length = ls.length := by
  have h := congrArg List.length (trk_len ds ls j a)
  rw [List.length_map] at h
  exact h
theorem jnt_eq : ∀ (tr : List Pc) (s : Rat) (u : Rat), u ∈ jnt s tr → ∃ i ≤ tr.length, u = ((tr.take i).map (·.len)).foldl (· + ·) s
  | [], s, u, h => ⟨0, Nat.le_refl _, List.mem_singleton.mp h⟩
  | p :: r, s, u, h => by
    rcases List.mem_cons.mp h with z | z
    · exact ⟨0, Nat.zero_le _, z⟩
    · obtain ⟨i, hi, e⟩ := jnt_eq r (s + p.len) u z
      exact ⟨i + 1, Nat.succ_le_succ hi, e⟩
theorem jnt_sz {n : Nat} (hn : 1 ≤ n) : ∀ (tr : List Pc) (s : Rat) (m : Nat), Bq m s → (∀ p ∈ tr, Bq n p.len) → ∀ u ∈ jnt s tr, Bq (m + (n + 1) * tr.length) u
  | [], s, m, hs, _, u, h => by
    rw [List.mem_singleton.mp h]
    exact hs.mono (by omega)
  | p :: r, s, m, hs, hp, u, h => by
    have e : (n + 1) * (p :: r).length = (n + 1) * r.length + (n + 1) := by rw [List.length_cons, Nat.mul_succ]
    rcases List.mem_cons.mp h with z | z
    · rw [z]
      exact hs.mono (by omega)
    · have h1 := hs.add (hp p List.mem_cons_self)
      have := jnt_sz hn r (s + p.len) (m + n + 1) h1 (fun q hq => hp q (List.mem_cons_of_mem _ hq)) u z
      exact this.mono (by omega)
theorem dr9 {dg : List Int} (h : ∀ x ∈ dg, 0 ≤ x ∧ x < 9) (i : Nat) : 0 ≤ dg.getD i 0 ∧ dg.getD i 0 < 9 := by
  rw [List.getD_eq_getElem?_getD]
  cases c : dg[i]? with
  | none => exact ⟨Int.le_refl _, by decide⟩
  | some x => exact h x (List.mem_of_getElem? c)
theorem bOf_sz9 {dg : List Int} (h : ∀ x ∈ dg, 0 ≤ x ∧ x < 9) (j : Nat) : Bq 5 (bOf dg j) := by
  have hx := dr9 h (1 + 2 * j)
  unfold bOf
  exact Bq.frac (by omega) (by show _ < 32; omega) (by show _ < 32; omega)
theorem cOf_sz9 {dg : List Int} (h : ∀ x ∈ dg, 0 ≤ x ∧ x < 9) (j : Nat) : Bq 5 (cOf dg j) := by
  have hx := dr9 h (2 + 2 * j)
  unfold cOf
  exact Bq.frac (by omega) (by show _ < 32; omega) (by show _ < 32; omega)
theorem trk_sz {dg : List Int} (h : ∀ x ∈ dg, 0 ≤ x ∧ x < 9) : ∀ (ls : List Rat) (j n : Nat) (a : Rat), 5 ≤ n → Bq n a → (∀ l ∈ ls, Bq 4 l) → ∀ p ∈ trk dg j a ls, Bp (n + 20 * ls.length) p
  | [], _, _, _, _, _, _, p, hp => by cases hp
  | l :: ls, j, n, a, hn, ha, hl, p, hp => by
    have bl := hl l List.mem_cons_self
    have bb := bOf_sz9 h j
    have bc := cOf_sz9 h j
    have e : 20 * (l :: ls).length = 20 * ls.length + 20 := by rw [List.length_cons, Nat.mul_succ]
    rcases List.mem_cons.mp hp with z | z
    · rw [z]
      exact ⟨bl.mono (by omega), ha.mono (by omega), bb.mono (by omega), bc.mono (by omega)⟩
    · have bv := val_sz (l := l) ha bb bc bl
      have := trk_sz h ls (j + 1) (n + 20) _ (by omega) (bv.mono (by omega)) (fun x hx => hl x (List.mem_cons_of_mem _ hx)) p z
      exact this.mono (by omega)
/-- what is drawn: a clip's tracks -/
structure Drawn (c : Clip) : Prop where
  len : Bq 16 c.len
  lens : ∀ q ∈ c.tracks, q.2 ≠ [] ∧ q.2.length ≤ 3 ∧ Ctg q.2 ∧ (∀ p ∈ q.2, 0 < p.len) ∧ (∀ p ∈ q.2, Bp 70 p) ∧ (∀ p ∈ q.2, Bq 4 p.len)
  names : c.tracks.length ≤ 2 ∧ (∀ q r, c.tracks = [q, r] → q.1 ≠ r.1)
theorem LENS_pos (i : Nat) (h : i < 4) : 0 < LENS.getD i 0 := by
  match i, h with
  | 0, _ => decide
  | 1, _ => decide
  | 2, _ => decide
  | 3, _ => decide
theorem inR_get3 {ds ss : List Int} (h : InR ds ss) : ds.length = ss.length ∧ ∀ (i : Nat) (z : Int), ss[i]? = some z → 0 ≤ ds.getD i 0 ∧ ds.getD i 0 < z := by
  induction h with
  | nil => exact ⟨rfl, fun i z h => by simp at h⟩
  | cons h0 h1 t ih =>
    refine ⟨by rw [List.length_cons, List.length_cons, ih.1], fun i z h => ?_⟩
    cases i with
    | zero =>
      cases Option.some.inj h
      exact ⟨h0, h1⟩
    | succ i => exact ih.2 i z h
theorem drawn_clip {dg : List Int} (hin : InR dg SZ) {k : Nat} {n1 n2 : Nat → Str} (hn : n1 k ≠ n2 k) : Drawn (clipOf dg k n1 n2) := by
  obtain ⟨h26, db⟩ := inR_get3 hin
  have d0 := db 0 3 rfl
  have ln : (lensOf dg).length = (1 + dg.getD 0 0).toNat := by unfold lensOf; rw [List.length_map, List.length_range]
  have l1 : (lensOf dg).length ≤ 3 := by omega
  have l0 : lensOf dg ≠ [] := fun z => by
    rw [z] at ln
    have : ([] : List Rat).length = 0 := rfl
    omega
  have lp : ∀ l ∈ lensOf dg, 0 < l := fun l hl => by
    obtain ⟨j, hj, rfl⟩ := List.mem_map.mp hl
    have hj' := List.mem_range.mp hj
    refine LENS_pos _ ?_
    rcases (show j = 0 ∨ j = 1 ∨ j = 2 by omega) with z | z | z <;> subst z
    · have := db 2 4 rfl
      show (dg.getD 2 0).toNat < 4
      omega
    · have := db 3 4 rfl
      show (dg.getD 3 0).toNat < 4
      omega
    · have := db 4 4 rfl
      show (dg.getD 4 0).toNat < 4
      omega
  have lz := lens_sz (ds := dg)
  have mem9 : ∀ x ∈ dg, 0 ≤ x ∧ x < 9 := fun x hx => by
    obtain ⟨i, il, rfl⟩ := List.getElem_of_mem hx
    have il' : i < SZ.length := by rw [← h26]; exact il
    have z := db i SZ[i] (List.getElem?_eq_getElem il')
    rw [List.getD_eq_getElem?_getD, List.getElem?_eq_getElem il] at z
    have z2 : ∀ s ∈ SZ, s ≤ 9 := by decide +kernel
    have z3 := z2 SZ[i] (List.getElem_mem il')
    have z4 : (some dg[i]).getD 0 = dg[i] := rfl
    omega
  have one : ∀ (n : Nat) (ls : List Rat), (ls = lensOf dg ∨ ls = (lensOf dg).reverse) → ∀ tr, tr = trk ((dg.drop n).take 7) 0 ((((dg.drop n).take 7).getD 0 0 - 3 : Int) : Rat) ls →
      tr ≠ [] ∧ tr.length ≤ 3 ∧ Ctg tr ∧ (∀ p ∈ tr, 0 < p.len) ∧ (∀ p ∈ tr, Bp 70 p) ∧ (∀ p ∈ tr, Bq 4 p.len) := by
    rintro n ls hls tr rfl
    have hl0 : ls ≠ [] ∧ ls.length ≤ 3 ∧ (∀ l ∈ ls, 0 < l) ∧ ∀ l ∈ ls, Bq 4 l := by
      rcases hls with rfl | rfl
      · exact ⟨l0, l1, lp, lz⟩
      · exact ⟨fun z => l0 (List.reverse_eq_nil_iff.mp z), by rw [List.length_reverse]; exact l1, fun l hl => lp l (List.mem_reverse.mp hl), fun l hl => lz l (List.mem_reverse.mp hl)⟩
    have m9 : ∀ x ∈ (dg.drop n).take 7, 0 ≤ x ∧ x < 9 := fun x hx => mem9 x (List.mem_of_mem_drop (List.mem_of_mem_take hx))
    generalize (dg.drop n).take 7 = d7 at m9
    have el := trk_len d7 ls 0 ((d7.getD 0 0 - 3 : Int) : Rat)
    have en := trk_n d7 ls 0 ((d7.getD 0 0 - 3 : Int) : Rat)
    have b0 : Bq 5 ((d7.getD 0 0 - 3 : Int) : Rat) := ⟨by have := dr9 m9 0; show (d7.getD 0 0 - 3).natAbs < 32; omega, by show 1 < 32; decide⟩
    have hm : ∀ p ∈ trk d7 0 ((d7.getD 0 0 - 3 : Int) : Rat) ls, p.len ∈ ls := fun p hp => by
      have := List.mem_map_of_mem (f := fun q : Pc => q.len) hp
      rw [el] at this
      exact this
    refine ⟨fun z => hl0.1 ?_, by rw [en]; exact hl0.2.1, trk_ctg _ _ _ _, fun p hp => hl0.2.2.1 _ (hm p hp), fun p hp => ?_, fun p hp => hl0.2.2.2 _ (hm p hp)⟩
    · rw [z] at el
      exact el.symm
    · exact (trk_sz m9 ls 0 5 _ (Nat.le_refl _) b0 hl0.2.2.2 p hp).mono (by omega)
  refine ⟨(sumQ_sz _ (lensOf dg) rfl lz).mono (by omega), fun q hq => ?_, ?_, ?_⟩
  · rcases List.mem_cons.mp hq with z | z
    · rw [z]
      exact one 5 (lensOf dg) (.inl rfl) _ rfl
    · split at z
      · rw [List.mem_singleton.mp z]
        exact one 12 (lensOf dg).reverse (.inr rfl) _ rfl
      · cases z
  · show List.length (_ :: (if _ then _ else _)) ≤ 2
    split
    · exact Nat.le_refl _
    · exact Nat.le_succ _
  · intro q r h
    have h' : ((n1 k, trk ((dg.drop 5).take 7) 0 ((((dg.drop 5).take 7).getD 0 0 - 3 : Int) : Rat) (lensOf dg)) :: (if dg.getD 1 0 = 1 then [(n2 k, trk ((dg.drop 12).take 7) 0 ((((dg.drop 12).take 7).getD 0 0 - 3 : Int) : Rat) (lensOf dg).reverse)] else [])) = [q, r] := h
    split at h'
    · cases h'
      exact hn
    · cases h'
/-- the tracks as a dict's pairs -/
def kvT (c : Clip) : List (Str × D) := c.tracks.map fun q => (q.1, dTr q.2)
theorem kvT_enc (c : Clip) : (kvT c).map encP = c.tracks.map dNt := by
  unfold kvT
  rw [List.map_map]
  rfl
theorem Drawn.look {c : Clip} (h : Drawn c) {q : Str × List Pc} (hq : q ∈ c.tracks) : lastD (kvT c) q.1 = some (dTr q.2) := by
  unfold kvT
  obtain ⟨h2, h3⟩ := h.names
  match e : c.tracks with
  | [] => rw [e] at hq; cases hq
  | [a] =>
    rw [e] at hq
    rw [List.mem_singleton.mp hq]
    show (Option.or none (if a.1 = a.1 then some (dTr a.2) else none)) = _
    rw [if_pos rfl]
    rfl
  | [a, b] =>
    rw [e] at hq
    have hne := h3 a b e
    rcases List.mem_cons.mp hq with z | z
    · rw [z]
      show Option.or (Option.or none (if b.1 = a.1 then some (dTr b.2) else none)) (if a.1 = a.1 then some (dTr a.2) else none) = _
      rw [if_neg fun z => hne z.symm, if_pos rfl]
      rfl
    · rw [List.mem_singleton.mp z]
      show Option.or (Option.or none (if b.1 = b.1 then some (dTr b.2) else none)) _ = _
      rw [if_pos rfl]
      rfl
  | a :: b :: c' :: r =>
    rw [e] at h2
    simp at h2
end MT

/-! Slopes. -/
namespace MT
open PySem L2 DL
def slp (p : Pc) (t : Rat) : Rat := p.b + 2 * (p.c * t)
def endQ : Rat → List Pc → Rat
  | s, [] => s
  | s, p :: r => endQ (s + p.len) r
theorem endQ_ge : ∀ {tr : List Pc} {s : Rat}, (∀ p ∈ tr, 0 < p.len) → s ≤ endQ s tr
  | [], s, _ => Rat.le_refl
  | p :: r, s, h => by
    have h1 := h p List.mem_cons_self
    have h2 := endQ_ge (tr := r) (s := s + p.len) fun q hq => h q (List.mem_cons_of_mem _ hq)
    show s ≤ endQ (s + p.len) r
    grind
theorem jnt_le : ∀ {tr : List Pc} {s u : Rat}, (∀ p ∈ tr, 0 < p.len) → u ∈ jnt s tr → s ≤ u ∧ u ≤ endQ s tr
  | [], s, u, _, hu => by
    rw [List.mem_singleton.mp hu]
    exact ⟨Rat.le_refl, Rat.le_refl⟩
  | p :: r, s, u, h, hu => by
    have h1 := h p List.mem_cons_self
    have hr : ∀ q ∈ r, 0 < q.len := fun q hq => h q (List.mem_cons_of_mem _ hq)
    rcases List.mem_cons.mp hu with z | z
    · rw [z]
      exact ⟨Rat.le_refl, endQ_ge h⟩
    · have h2 := jnt_le hr z
      refine ⟨?_, h2.2⟩
      have := h2.1
      grind
/-- the piece that is found among those that begin at s -/
def lfd (bk : Bool) (x : Rat) : Rat → List Pc → Option (Pc × Rat) → Option (Pc × Rat)
  | _, [], acc => acc
  | s, p :: r, acc => lfd bk x (s + p.len) r (if (¬ x < s ∧ ¬ s + p.len < x) ∧ (acc.isNone = true ∨ bk = false) then some (p, s) else acc)
theorem lfd_past {bk : Bool} {x : Rat} : ∀ {tr : List Pc} {s : Rat} {acc : Option (Pc × Rat)}, (∀ p ∈ tr, 0 < p.len) → x < s → lfd bk x s tr acc = acc
  | [], _, _, _, _ => rfl
  | p :: r, s, acc, h, hx => by
    have h1 := h p List.mem_cons_self
    show lfd bk x (s + p.len) r _ = acc
    rw [if_neg fun z => z.1.1 hx]
    exact lfd_past (fun q hq => h q (List.mem_cons_of_mem _ hq)) (by grind)
theorem lfd_keep {x : Rat} {z : Pc × Rat} : ∀ {tr : List Pc} {s : Rat}, lfd true x s tr (some z) = some z
  | [], _ => rfl
  | p :: r, s => by
    show lfd true x (s + p.len) r _ = _
    rw [if_neg (by rintro ⟨_, z | z⟩ <;> cases z)]
    exact lfd_keep
theorem lfd_late {x : Rat} : ∀ {tr : List Pc} {s : Rat} {acc : Option (Pc × Rat)}, tr ≠ [] → (∀ p ∈ tr, 0 < p.len) → s ≤ x → x ≤ endQ s tr → ∃ u, lfd false x s tr acc = some ((fnd false tr (x - s)).1, u) ∧ (fnd false tr (x - s)).2 = x - u
  | [], _, _, h, _, _, _ => absurd rfl h
  | p :: r, s, acc, _, h, h0, h1 => by
    have lp := h p List.mem_cons_self
    have hr : ∀ q ∈ r, 0 < q.len := fun q hq => h q (List.mem_cons_of_mem _ hq)
    have e1 : lfd false x s (p :: r) acc = lfd false x (s + p.len) r (if (¬ x < s ∧ ¬ s + p.len < x) ∧ (acc.isNone = true ∨ false = false) then some (p, s) else acc) := rfl
    have e2 : fnd false (p :: r) (x - s) = if r = [] ∨ x - s < p.len ∨ (false = true ∧ x - s = p.len) then (p, x - s) else fnd false r (x - s - p.len) := rfl
    have h1' : x ≤ endQ (s + p.len) r := h1
    rw [e1, e2]
    by_cases hn : r = []
    · subst hn
      have h1'' : x ≤ s + p.len := h1'
      rw [if_pos (⟨⟨by grind, by grind⟩, .inr rfl⟩), if_pos (.inl rfl)]
      exact ⟨s, rfl, rfl⟩
    · by_cases c : x - s < p.len
      · rw [if_pos (⟨⟨by grind, by grind⟩, .inr rfl⟩), if_pos (.inr (.inl c)), lfd_past hr (by grind)]
        exact ⟨s, rfl, rfl⟩
      · rw [if_neg (show ¬ (r = [] ∨ x - s < p.len ∨ (false = true ∧ x - s = p.len)) by rintro (z | z | z); exact hn z; exact c z; cases z.1)]
        have ih := lfd_late (s := s + p.len) (acc := if (¬ x < s ∧ ¬ s + p.len < x) ∧ (acc.isNone = true ∨ false = false) then some (p, s) else acc) hn hr (by grind) h1'
        rw [show x - (s + p.len) = x - s - p.len by grind] at ih
        exact ih
theorem lfd_soon {x : Rat} : ∀ {tr : List Pc} {s : Rat}, tr ≠ [] → (∀ p ∈ tr, 0 < p.len) → s ≤ x → x ≤ endQ s tr → ∃ u, lfd true x s tr none = some ((fnd true tr (x - s)).1, u) ∧ (fnd true tr (x - s)).2 = x - u
  | [], _, h, _, _, _ => absurd rfl h
  | p :: r, s, _, h, h0, h1 => by
    have lp := h p List.mem_cons_self
    have hr : ∀ q ∈ r, 0 < q.len := fun q hq => h q (List.mem_cons_of_mem _ hq)
    have e1 : lfd true x s (p :: r) none = lfd true x (s + p.len) r (if (¬ x < s ∧ ¬ s + p.len < x) ∧ ((none : Option (Pc × Rat)).isNone = true ∨ true = false) then some (p, s) else none) := rfl
    have e2 : fnd true (p :: r) (x - s) = if r = [] ∨ x - s < p.len ∨ (true = true ∧ x - s = p.len) then (p, x - s) else fnd true r (x - s - p.len) := rfl
    have h1' : x ≤ endQ (s + p.len) r := h1
    rw [e1, e2]
    by_cases c : x ≤ s + p.len
    · rw [if_pos (⟨⟨by grind, by grind⟩, .inl rfl⟩), if_pos (.inr (by by_cases c2 : x - s < p.len; exact .inl c2; exact .inr ⟨rfl, by grind⟩)), lfd_keep]
      exact ⟨s, rfl, rfl⟩
    · have hn : r ≠ [] := fun z => by
        subst z
        exact c h1'
      rw [if_neg (show ¬ (r = [] ∨ x - s < p.len ∨ (true = true ∧ x - s = p.len)) by rintro (z | z | z); exact hn z; grind; grind), if_neg (fun z => z.1.2 (by grind))]
      have ih := lfd_soon (s := s + p.len) hn hr (by grind) h1'
      rw [show x - (s + p.len) = x - s - p.len by grind] at ih
      exact ih
/-- a short way around a position that lies far from where pieces meet -/
theorem fnd_near {x d h : Rat} (hd : -h ≤ d ∧ d ≤ h) (h0 : 0 < h) : ∀ {tr : List Pc} {s : Rat}, tr ≠ [] → (∀ p ∈ tr, 0 < p.len) → s ≤ x → x ≤ endQ s tr → (∀ u ∈ jnt s tr, h < x - u ∨ x - u < -h) →
    fnd false tr (x + d - s) = ((fnd false tr (x - s)).1, (fnd false tr (x - s)).2 + d)
  | [], _, hne, _, _, _, _ => absurd rfl hne
  | p :: r, s, _, hp, hs, he, hj => by
    have lp := hp p List.mem_cons_self
    have hr : ∀ q ∈ r, 0 < q.len := fun q hq => hp q (List.mem_cons_of_mem _ hq)
    have j0 := hj s List.mem_cons_self
    have j1 := hj (s + p.len) (List.mem_cons_of_mem _ (by cases r <;> exact List.mem_cons_self))
    have e1 : fnd false (p :: r) (x + d - s) = if r = [] ∨ x + d - s < p.len ∨ (false = true ∧ x + d - s = p.len) then (p, x + d - s) else fnd false r (x + d - s - p.len) := rfl
    have e2 : fnd false (p :: r) (x - s) = if r = [] ∨ x - s < p.len ∨ (false = true ∧ x - s = p.len) then (p, x - s) else fnd false r (x - s - p.len) := rfl
    have he' : x ≤ endQ (s + p.len) r := he
    rw [e1, e2]
    by_cases hn : r = []
    · rw [if_pos (.inl hn), if_pos (.inl hn)]
      show (p, x + d - s) = (p, x - s + d)
      rw [show x + d - s = x - s + d by grind]
    · by_cases c : x - s < p.len
      · rw [if_pos (.inr (.inl (by rcases j1 with z | z <;> grind))), if_pos (.inr (.inl c))]
        show (p, x + d - s) = (p, x - s + d)
        rw [show x + d - s = x - s + d by grind]
      · rw [if_neg (show ¬ (r = [] ∨ x + d - s < p.len ∨ (false = true ∧ x + d - s = p.len)) by rintro (z | z | z); exact hn z; (rcases j1 with y | y <;> grind); cases z.1), if_neg (show ¬ (r = [] ∨ x - s < p.len ∨ (false = true ∧ x - s = p.len)) by rintro (z | z | z); exact hn z; exact c z; cases z.1)]
        have ih := fnd_near hd h0 (tr := r) (s := s + p.len) hn hr (by grind) he' fun u hu => hj u (List.mem_cons_of_mem _ hu)
        rw [show x + d - (s + p.len) = x + d - s - p.len by grind, show x - (s + p.len) = x - s - p.len by grind] at ih
        exact ih
theorem rise_slope (p : Pc) (y h : Rat) (k : Rat) (hk : 2 * h * k = 1) : (p.val (y + h) - p.val (y + -h)) * k = slp p y := by
  unfold Pc.val slp
  have e : p.a + (y + h) * (p.b + p.c * (y + h)) - (p.a + (y + -h) * (p.b + p.c * (y + -h))) = (2 * h) * (p.b + 2 * (p.c * y)) := by grind
  rw [e]
  have e2 : 2 * h * (p.b + 2 * (p.c * y)) * k = (2 * h * k) * (p.b + 2 * (p.c * y)) := by grind
  rw [e2, hk]
  grind
/-! the end of a drawn clip's tracks -/
theorem endQ_sum : ∀ (tr : List Pc) (s : Rat), endQ s tr = (tr.map (·.len)).foldl (· + ·) s
  | [], _ => rfl
  | p :: r, s => endQ_sum r (s + p.len)
theorem foldl_shift : ∀ (l : List Rat) (s t : Rat), l.foldl (· + ·) (s + t) = l.foldl (· + ·) s + t
  | [], _, _ => rfl
  | x :: r, s, t => by
    show r.foldl _ (s + t + x) = r.foldl _ (s + x) + t
    rw [← foldl_shift r (s + x) t, show s + t + x = s + x + t by grind]
theorem sumQ_rev : ∀ l : List Rat, sumQ l.reverse = sumQ l
  | [] => rfl
  | x :: r => by
    rw [List.reverse_cons, sumQ_snoc, sumQ_rev r]
    show sumQ r + x = r.foldl _ (0 + x)
    rw [foldl_shift r 0 x]
    rfl
theorem clip_end {dg : List Int} {k : Nat} {n1 n2 : Nat → Str} : ∀ q ∈ (clipOf dg k n1 n2).tracks, endQ 0 q.2 = (clipOf dg k n1 n2).len := fun q hq => by
  show endQ 0 q.2 = sumQ (lensOf dg)
  rcases List.mem_cons.mp hq with z | z
  · rw [z, endQ_sum, trk_len]
    rfl
  · split at z
    · rw [List.mem_singleton.mp z, endQ_sum, trk_len, ← sumQ_rev]
      rfl
    · cases z
end MT

/-! l[i] = e of an own list; a list's truth; range(a, b); nested targets. -/
namespace DL
open PySem PySem.Spec PyProof.Rows L2
theorem DpAll.set {K : Fg} {S : Hp} {v : V} {d : D} (h : Dp K S v d) : ∀ {vs : List V} {ds : List D} (n : Nat), DpAll K S vs ds → DpAll K S (vs.set n v) (ds.set n d)
  | [], ds, n, q => by
    cases q
    exact .nil
  | u :: vs, ds, 0, q => by
    cases q with
    | cons h1 h2 => exact .cons h h2
  | u :: vs, ds, n + 1, q => by
    cases q with
    | cons h1 h2 => exact .cons h1 (DpAll.set h n h2)
/-- a list that slot i alone holds is written anew in its place -/
theorem Hol.rewrite {K : Fg} {H0 S H : Hp} {σ : L2.St} {G : Gam} {i : Nat} {ds es : List D} {q : Addr} {us : List V} (o : Hol K H0 S H σ G) (hG : G[i]? = some (.own ds)) (a1 : σ[i]? = some (some (.ref q))) (a2 : H0 q = none) (h3 : S q = none) (d1 : DpAll K S us es) :
    Hol K H0 S (upd H q (.lst us)) σ (G.set i (.own es)) := by
  have lt : i < G.length := (List.getElem?_eq_some_iff.mp hG).1
  have e1 : σ.set i (some (.ref q)) = σ := by
    refine List.ext_getElem? fun j => ?_
    by_cases c : i = j
    · subst c
      rw [List.getElem?_set_self (by rw [o.len]; exact lt), a1]
    · rw [List.getElem?_set_ne c]
  have ne : ∀ (j : Nat) (es : List D), j ≠ i → G[j]? = some (.own es) → σ[j]? ≠ some (some (.ref q)) := fun j es hj hg => o.sep i j ds es q (Ne.symm hj) hG hg a1
  have o2 : Hol K H0 S (upd H q (.lst us)) σ (G.set i .no) := by
    have w := (o.drop (i := i))
    refine ⟨w.len, w.im, fun j es hj => ?_, w.sep⟩
    obtain ⟨r, vs, b1, b2, b3, b4, b5⟩ := w.own j es hj
    refine ⟨r, vs, b1, b2, b3, ?_, b5⟩
    have hji : j ≠ i := fun c => by
      subst c
      rw [List.getElem?_set_self lt] at hj
      cases hj
    have hg : G[j]? = some (.own es) := by
      rw [List.getElem?_set_ne (Ne.symm hji)] at hj
      exact hj
    rw [upd_ne fun c => ne j es hji hg (by rw [← c]; exact b1)]
    exact b4
  have o3 := o2.set_own (i := i) (p := q) (ds := es) a2 h3 upd_same d1 fun j es hj hg => by
    rw [List.getElem?_set_ne (Ne.symm hj)] at hg
    exact ne j es hj hg
  rw [List.set_set, e1] at o3
  exact o3
section
variable {X : Cx} {W : WX} {F : DL.Fin} {G : Gam} {e c a b ei : Expr} {d : D} {ds : List D} {pos p np p1 p2 : Pos} {body : List Stmt} {x : Str} {k : Int} {j : Nat}
/-- l[i] = e -/
theorem gs_setIx (n : Nat) (he : EvD X e G d) (hi : EvD X ei G (.int k)) (hj : ixN ds.length k = some j) (kk : F.nx (G.set n (.own (ds.set j d)))) (hN : X.N[n]? = some x := by rfl) (hG : G[n]? = some (.own ds) := by rfl)
    (hv : Vis X.env.scope x := by first | exact Or.inl rfl | exact Or.inr (Or.inl rfl) | exact Or.inr (Or.inr rfl)) (hd : (x == ("__debug__" : Str)) = false := by decide) (hcd : (x == ("__classdict__" : Str)) = false := by decide)
    (hs : swapsWithSole [.Subscript (.Name x p1) ei p2] e pos.line X.env = pure false := by rfl) (hw : swappedStores [.Subscript (.Name x p1) ei p2] e X.env = pure none := by rfl)
    (h1 : (assignEach [.Subscript (.Name x p1) ei p2] X.env).map (·.2) = [assign (.Subscript (.Name x p1) ei p2) X.env] := by rfl)
    (ha : ∀ v, assign (.Subscript (.Name x p1) ei p2) X.env v = (do
      let ov ← holding [v] (eval (.Name x p1) X.env)
      let iv ← holding [v, ov] (eval ei X.env)
      standAt p2
      holding [v, ov, iv] (setItem ov iv v)
      release [v, ov, iv] []) := by intro _; rfl) :
    GS X W (.Assign [.Subscript (.Name x p1) ei p2] e pos) F G := fun S0 H0 S H σ E z o m =>
  ws (ps_asg pe_w (pg_sub (pe_var (i := n) hN hv hd hcd) pe_w set_list ha) hs hw h1) (he H0 S H σ o z.i _ fun v1 S1 H1 x1 d1 => by
    obtain ⟨q, vs, a1, a2, a3, a4, a5⟩ := o.own n ds hG
    have o1 := o.ext x1
    refine ⟨_, a1, hi H0 S1 H1 σ o1 x1.i _ fun v2 S2 H2 x2 d2 => ?_⟩
    cases d2
    have x3 := x1.trans x2
    have h4 : H2 q = some (.lst vs) := x3.h _ _ a4
    have h3 : S2 q = none := x3.n q a3 (by rw [a4]; exact fun z => nomatch z)
    have hl := DpAll.len a5
    refine ⟨q, vs, k, j, rfl, rfl, h4, by rw [hl]; exact hj, ?_⟩
    have z1 := z.trans x3
    exact m.nx σ S2 _ _ (z1.own a2 h3) ((o.ext x3).rewrite hG a1 a2 h3 (DpAll.set (x2.s.dp d1) j (x3.s.dpAll a5))) kk)
/-- a list's truth -/
theorem et_truB (ha : EvB X e G ds) (he : ∀ whole, isTrue e X.env whole = (do let v ← whole; standAt e.pos; holding [v] (truthy v)) := by intro _; rfl) : EvT X e G (!ds.isEmpty) := fun H0 S H σ o i Q q =>
  wt (pt_truth pe_w he) (ha H0 S H σ o i _ fun p vs S1 H1 x1 sq dA => by
    refine ⟨!vs.isEmpty, .inl ⟨vs, sq, rfl⟩, ?_⟩
    have e : vs.isEmpty = ds.isEmpty := by
      have := DpAll.len dA
      cases vs <;> cases ds <;> first | rfl | cases this
    rw [e]
    exact q S1 H1 x1)
/-- for x in range(a, b) -/
theorem gs_forR2 (jx : Nat) (I : Nat → Gam → Prop) {l n : Int} (hm : X.mg "range" = none) (hea : EvD X a G (.int l)) (heb : EvD X b G (.int n)) (hn : -(2 ^ 62) ≤ l ∧ l < 2 ^ 62 ∧ -(2 ^ 62) ≤ n ∧ n < 2 ^ 62) (h0 : I 0 G)
    (hs : ∀ (i : Nat) (G' : Gam), (i : Int) < n - l → I i G' → GSs X W body (F.turn (I (i + 1))) (G'.set jx (.im (.int (l + (i : Int))))))
    (hd : ∀ G', I (n - l).toNat G' → F.nx G') (hp : PassesOwn (model X.prog X.w) X.A X.env X.xe) (hj : X.N[jx]? = some x := by rfl) (hN : X.N.Nodup := by assumption) (hc : X.calm = true := by rfl) (hg : Gl X "range" := by rfl)
    (hx : Loc X.env.scope x := by first | exact Or.inl rfl | exact Or.inr rfl) (hf : X.fn x = true ∨ X.env.scope.names.lookup x = some .local := by first | exact .inl rfl | exact .inr rfl | assumption)
    (hst : ∀ x, foldedSetIterable (.Call (.Name "range" p) [a, b] [] np) X.env x = pure x := by intro _; rfl) (hse : starEach [a, b] X.env = (false, eval a X.env) :: starEach [b] X.env := by first | exact sk_name | exact sk_const | exact sk_sub | exact sk_bin | exact sk_call | exact sk_tup | exact sk_lst | exact sk_cmp | exact sk_lc | exact sk_un | exact sk_bool | exact sk_attr | exact sk_if | rfl) (hse2 : starEach [b] X.env = (false, eval b X.env) :: starEach [] X.env := by first | exact sk_name | exact sk_const | exact sk_sub | exact sk_bin | exact sk_call | exact sk_tup | exact sk_lst | exact sk_cmp | exact sk_lc | exact sk_un | exact sk_bool | exact sk_attr | exact sk_if | rfl) :
    GS X W (.For (.Name x pos) (.Call (.Name "range" p) [a, b] [] np) body [] pos) F G := fun S0 H0 S H σ E z o m => by
  refine ws (ps_for hp hc (pi_range2 hg hm pa_w (by rw [hse, hse2]; rfl) (by rw [hse2]; rfl)) (pg_name hN hj hx hf) pss_w hst) (ea_cons hea (ea_cons heb ea_nil (by exact hse2)) (by exact hse) H0 S H σ o z.i _ fun vs S1 H1 x1 d1 => ?_)
  cases d1 with
  | cons d1 d2 =>
    cases d2 with
    | cons d2 d3 =>
      cases d3
      cases d1
      cases d2
      have z1 := z.trans x1
      have mb := m.bed z1
      refine ⟨l, n, rfl, hn, for_range (lo := l) (n := (n - l).toNat) (fun i σ' H' => Lp X.K S1 (bed S1 H0) (I i) σ' H') ⟨S1, G, z1.bed, (o.ext x1).bed, h0⟩ ?_ ?_⟩
      · rintro i σ' H' hi ⟨S', G', y, o', k⟩
        exact hs i G' (by omega) k S1 (bed S1 H0) S' H' _ _ y (o'.set_im (.int _)) (mb.turn fun _ _ q => q)
      · rintro σ' H' ⟨S', G', y, o', k⟩
        exact mb.nx σ' S' H' G' y o' (hd G' k)
end
section
variable {X : Cx} {W : WX} {F : DL.Fin} {G : Gam} {e : Expr} {pos p2 p3 px py pz pw : Pos} {x y z u : Str} {da db dc dd : D}
theorem pg_1_3 {k1 k2 : Nat} (i j l m : Nat) (hi : X.N[i]? = some x := by rfl) (hj : X.N[j]? = some y := by rfl) (hl : X.N[l]? = some z := by rfl) (hm : X.N[m]? = some u := by rfl) (hN : X.N.Nodup := by assumption) (hc : X.calm = true := by rfl)
    (hx : Loc X.env.scope x := by first | exact Or.inl rfl | exact Or.inr rfl) (hy : Loc X.env.scope y := by first | exact Or.inl rfl | exact Or.inr rfl) (hz : Loc X.env.scope z := by first | exact Or.inl rfl | exact Or.inr rfl) (hu : Loc X.env.scope u := by first | exact Or.inl rfl | exact Or.inr rfl)
    (hf : X.fn x = true ∨ X.env.scope.names.lookup x = some .local := by first | exact .inl rfl | exact .inr rfl | assumption) (hf2 : X.fn y = true ∨ X.env.scope.names.lookup y = some .local := by first | exact .inl rfl | exact .inr rfl | assumption)
    (hf3 : X.fn z = true ∨ X.env.scope.names.lookup z = some .local := by first | exact .inl rfl | exact .inr rfl | assumption) (hf4 : X.fn u = true ∨ X.env.scope.names.lookup u = some .local := by first | exact .inl rfl | exact .inr rfl | assumption)
    (hn : (assignEach [.Name x px, .Tuple [.Name y py, .Name z pz, .Name u pw] k2 p3] X.env).length = 2 := by rfl) (hst : (assignEach [.Name x px, .Tuple [.Name y py, .Name z pz, .Name u pw] k2 p3] X.env).findIdx? (·.1) = none := by rfl)
    (hg1 : (assignEach [.Name x px, .Tuple [.Name y py, .Name z pz, .Name u pw] k2 p3] X.env).map (·.2) = assign (.Name x px) X.env :: (assignEach [.Tuple [.Name y py, .Name z pz, .Name u pw] k2 p3] X.env).map (·.2) := by rfl)
    (hg2 : (assignEach [.Tuple [.Name y py, .Name z pz, .Name u pw] k2 p3] X.env).map (·.2) = assign (.Tuple [.Name y py, .Name z pz, .Name u pw] k2 p3) X.env :: (assignEach [] X.env).map (·.2) := by rfl)
    (hn3 : (assignEach [.Name y py, .Name z pz, .Name u pw] X.env).length = 3 := by rfl) (hst3 : (assignEach [.Name y py, .Name z pz, .Name u pw] X.env).findIdx? (·.1) = none := by rfl)
    (hg3 : (assignEach [.Name y py, .Name z pz, .Name u pw] X.env).map (·.2) = assign (.Name y py) X.env :: (assignEach [.Name z pz, .Name u pw] X.env).map (·.2) := by rfl)
    (hg4 : (assignEach [.Name z pz, .Name u pw] X.env).map (·.2) = assign (.Name z pz) X.env :: (assignEach [.Name u pw] X.env).map (·.2) := by rfl)
    (hg5 : (assignEach [.Name u pw] X.env).map (·.2) = assign (.Name u pw) X.env :: (assignEach [] X.env).map (·.2) := by rfl) :
    PG X (.Tuple [.Name x px, .Tuple [.Name y py, .Name z pz, .Name u pw] k2 p3] k1 p2) (gTup X.K 2 (gCons (gName i) (gCons (gTup X.K 3 (gCons (gName j) (gCons (gName l) (gCons (gName m) gNil)))) gNil))) :=
  pg_tup hc (pgs_cons (pg_name hN hi hx hf) (pgs_cons (pg_tup hc (pgs_cons (pg_name hN hj hy hf2) (pgs_cons (pg_name hN hl hz hf3) (pgs_cons (pg_name hN hm hu hf4) pgs_nil hg5) hg4) hg3) hn3 hst3) pgs_nil hg2) hg1) hn hst
/-- x, (y, z, u) = e -/
theorem gs_unpack13 {k1 k2 : Nat} (i j l m : Nat) (he : EvD X e G (.tuple [da, .tuple [db, dc, dd]])) (hg : PG X (.Tuple [.Name x px, .Tuple [.Name y py, .Name z pz, .Name u pw] k2 p3] k1 p2) (gTup X.K 2 (gCons (gName i) (gCons (gTup X.K 3 (gCons (gName j) (gCons (gName l) (gCons (gName m) gNil)))) gNil))))
    (k : F.nx ((((G.set i (.im da)).set j (.im db)).set l (.im dc)).set m (.im dd)))
    (hs : swapsWithSole [.Tuple [.Name x px, .Tuple [.Name y py, .Name z pz, .Name u pw] k2 p3] k1 p2] e pos.line X.env = pure false := by rfl) (hw : swappedStores [.Tuple [.Name x px, .Tuple [.Name y py, .Name z pz, .Name u pw] k2 p3] k1 p2] e X.env = pure none := by rfl)
    (h1 : (assignEach [.Tuple [.Name x px, .Tuple [.Name y py, .Name z pz, .Name u pw] k2 p3] k1 p2] X.env).map (·.2) = [assign (.Tuple [.Name x px, .Tuple [.Name y py, .Name z pz, .Name u pw] k2 p3] k1 p2) X.env] := by rfl) :
    GS X W (.Assign [.Tuple [.Name x px, .Tuple [.Name y py, .Name z pz, .Name u pw] k2 p3] k1 p2] e pos) F G := gs_asg he hg (tg_1_3 i j l m) k hs hw h1
end
end DL

/-! Normal forms. -/
namespace MT
open PySem L2 DL
def GoesOn (p q : Pc) : Prop := p.val p.len = q.a ∧ slp p p.len = q.b ∧ p.c = q.c
instance (p q : Pc) : Decidable (GoesOn p q) := inferInstanceAs (Decidable (_ ∧ _ ∧ _))
/-- the piece with another length -/
def ext (p : Pc) (l : Rat) : Pc := ⟨l, p.a, p.b, p.c⟩
theorem ext_self (p : Pc) : ext p p.len = p := rfl
def nrmF : Pc → List Pc → List Pc
  | p, [] => [p]
  | p, q :: r => if GoesOn p q then nrmF (ext p (p.len + q.len)) r else p :: nrmF q r
def nrmT : List Pc → List Pc
  | [] => []
  | p :: r => nrmF p r
theorem nrmF_len : ∀ (r : List Pc) (p : Pc), (nrmF p r).length ≤ r.length + 1
  | [], _ => Nat.le_refl _
  | q :: r, p => by
    show (if _ then _ else _ : List Pc).length ≤ r.length + 1 + 1
    by_cases c : GoesOn p q
    · rw [if_pos c]
      exact Nat.le_succ_of_le (nrmF_len r _)
    · rw [if_neg c]
      exact Nat.succ_le_succ (nrmF_len r q)
theorem nrmF_ne (r : List Pc) (p : Pc) : nrmF p r ≠ [] := by
  induction r generalizing p with
  | nil => exact fun z => by cases z
  | cons q r ih =>
    show (if _ then _ else _ : List Pc) ≠ []
    split
    · exact ih _
    · exact fun z => by cases z
theorem nrmF_sz {n k : Nat} : ∀ (r : List Pc) (p : Pc) (m : Nat), (Bq n p.a ∧ Bq n p.b ∧ Bq n p.c ∧ Bq m p.len) → k ≤ m → (∀ q ∈ r, Bp n q ∧ Bq k q.len) → ∀ q ∈ nrmF p r, Bq n q.a ∧ Bq n q.b ∧ Bq n q.c ∧ Bq (m + (k + 1) * r.length) q.len
  | [], p, m, hp, _, _, q, hq => by
    rw [List.mem_singleton.mp hq]
    exact ⟨hp.1, hp.2.1, hp.2.2.1, hp.2.2.2.mono (by omega)⟩
  | x :: r, p, m, hp, hk, hr, q, hq => by
    have hx := hr x List.mem_cons_self
    have e : (k + 1) * (x :: r).length = (k + 1) * r.length + (k + 1) := by rw [List.length_cons, Nat.mul_succ]
    have hq' : q ∈ (if GoesOn p x then nrmF (ext p (p.len + x.len)) r else p :: nrmF x r) := hq
    split at hq'
    · have h := nrmF_sz r (ext p (p.len + x.len)) (m + k + 1) ⟨hp.1, hp.2.1, hp.2.2.1, hp.2.2.2.add hx.2⟩ (by omega) (fun y hy => hr y (List.mem_cons_of_mem _ hy)) q hq'
      exact ⟨h.1, h.2.1, h.2.2.1, h.2.2.2.mono (by omega)⟩
    · rcases List.mem_cons.mp hq' with z | z
      · rw [z]
        exact ⟨hp.1, hp.2.1, hp.2.2.1, hp.2.2.2.mono (by omega)⟩
      · have h := nrmF_sz r x m ⟨hx.1.a, hx.1.b, hx.1.c, hx.2.mono hk⟩ hk (fun y hy => hr y (List.mem_cons_of_mem _ hy)) q z
        exact ⟨h.1, h.2.1, h.2.2.1, h.2.2.2.mono (by omega)⟩
/-! ### no two neighbors could be one -/
def NoOn : List Pc → Prop
  | [] => True
  | p :: r => (∀ q, r.head? = some q → ¬ GoesOn p q) ∧ NoOn r
theorem nrmF_head : ∀ (r : List Pc) (p : Pc), ∃ l t, nrmF p r = ext p l :: t
  | [], p => ⟨p.len, [], rfl⟩
  | q :: r, p => by
    have e0 : nrmF p (q :: r) = if GoesOn p q then nrmF (ext p (p.len + q.len)) r else p :: nrmF q r := rfl
    rw [e0]
    by_cases c : GoesOn p q
    · rw [if_pos c]
      obtain ⟨l, t, e⟩ := nrmF_head r (ext p (p.len + q.len))
      exact ⟨l, t, e⟩
    · rw [if_neg c]
      exact ⟨p.len, nrmF q r, rfl⟩
theorem nrmF_noOn : ∀ (r : List Pc) (p : Pc), NoOn (nrmF p r)
  | [], p => ⟨fun q z => (by cases z), trivial⟩
  | q :: r, p => by
    show NoOn (if _ then _ else _)
    by_cases c : GoesOn p q
    · rw [if_pos c]
      exact nrmF_noOn r _
    · rw [if_neg c]
      refine ⟨fun y hy => ?_, nrmF_noOn r q⟩
      obtain ⟨l, t, e⟩ := nrmF_head r q
      rw [e] at hy
      cases Option.some.inj hy
      exact fun z => c z
theorem nrmT_noOn (l : List Pc) : NoOn (nrmT l) := by
  cases l with
  | nil => trivial
  | cons p r => exact nrmF_noOn r p
theorem nrmF_id : ∀ (r : List Pc) (p : Pc), NoOn (p :: r) → nrmF p r = p :: r
  | [], _, _ => rfl
  | q :: r, p, h => by
    show (if _ then _ else _) = _
    rw [if_neg (h.1 q rfl), nrmF_id r q h.2]
theorem nrmT_id {l : List Pc} (h : NoOn l) : nrmT l = l := by
  cases l with
  | nil => rfl
  | cons p r => exact nrmF_id r p h
theorem nrmT_twice (l : List Pc) : nrmT (nrmT l) = nrmT l := nrmT_id (nrmT_noOn l)
/-! ### the same values -/
theorem on_val {p q : Pc} (h : GoesOn p q) (t : Rat) : p.val (p.len + t) = q.val t ∧ slp p (p.len + t) = slp q t := by
  obtain ⟨h1, h2, h3⟩ := h
  unfold Pc.val slp at *
  constructor <;> grind
theorem nrmF_val : ∀ (r : List Pc) (p : Pc) (s x : Rat), (∀ q ∈ r, 0 < q.len) → valF s (nrmF p r) x = valF s (p :: r) x
  | [], _, _, _, _ => rfl
  | q :: r, p, s, x, h => by
    have lq := h q List.mem_cons_self
    have hr : ∀ y ∈ r, 0 < y.len := fun y hy => h y (List.mem_cons_of_mem _ hy)
    have e0 : nrmF p (q :: r) = if GoesOn p q then nrmF (ext p (p.len + q.len)) r else p :: nrmF q r := rfl
    have e1 : valF s (p :: q :: r) x = if ¬ s + p.len < x ∨ (q :: r) = [] then p.val (x - s) else valF (s + p.len) (q :: r) x := rfl
    have e2 : valF (s + p.len) (q :: r) x = if ¬ s + p.len + q.len < x ∨ r = [] then q.val (x - (s + p.len)) else valF (s + p.len + q.len) r x := rfl
    rw [e0]
    by_cases c : GoesOn p q
    · rw [if_pos c, nrmF_val r _ s x hr]
      have e3 : valF s (ext p (p.len + q.len) :: r) x = if ¬ s + (p.len + q.len) < x ∨ r = [] then p.val (x - s) else valF (s + (p.len + q.len)) r x := rfl
      rw [e3, e1, e2]
      have ev := (on_val c (x - (s + p.len))).1
      rw [show p.len + (x - (s + p.len)) = x - s by grind] at ev
      rw [← ev, show s + (p.len + q.len) = s + p.len + q.len by grind]
      by_cases c1 : s + p.len < x
      · rw [if_neg (show ¬ (¬ s + p.len < x ∨ (q :: r) = []) by rintro (z | z); exact z c1; cases z)]
      · rw [if_pos (show ¬ s + p.len < x ∨ (q :: r) = [] from .inl c1), if_pos (.inl (by grind))]
    · rw [if_neg c]
      have e3 : valF s (p :: nrmF q r) x = if ¬ s + p.len < x ∨ nrmF q r = [] then p.val (x - s) else valF (s + p.len) (nrmF q r) x := rfl
      rw [e3, e1, nrmF_val r q (s + p.len) x hr]
      by_cases c1 : s + p.len < x
      · rw [if_neg (show ¬ (¬ s + p.len < x ∨ nrmF q r = []) by rintro (z | z); exact z c1; exact nrmF_ne r q z), if_neg (show ¬ (¬ s + p.len < x ∨ (q :: r) = []) by rintro (z | z); exact z c1; cases z)]
      · rw [if_pos (.inl c1), if_pos (.inl c1)]
theorem nrmT_val {tr : List Pc} (h : ∀ q ∈ tr, 0 < q.len) (s x : Rat) : valF s (nrmT tr) x = valF s tr x := by
  cases tr with
  | nil => rfl
  | cons p r => exact nrmF_val r p s x fun q hq => h q (List.mem_cons_of_mem _ hq)
theorem nrmF_end : ∀ (r : List Pc) (p : Pc) (s : Rat), endQ s (nrmF p r) = endQ s (p :: r)
  | [], _, _ => rfl
  | q :: r, p, s => by
    show endQ s (if _ then _ else _) = _
    by_cases c : GoesOn p q
    · rw [if_pos c, nrmF_end r]
      show endQ (s + (p.len + q.len)) r = endQ (s + p.len + q.len) r
      rw [show s + (p.len + q.len) = s + p.len + q.len by grind]
    · rw [if_neg c]
      exact nrmF_end r q (s + p.len)
theorem nrmT_end (tr : List Pc) (s : Rat) : endQ s (nrmT tr) = endQ s tr := by
  cases tr with
  | nil => rfl
  | cons p r => exact nrmF_end r p s
/-! ### pieces cut into parts of the same length -/
def prt (p : Pc) (w : Rat) (i : Nat) : Pc := ⟨w, p.val (w * (i : Rat)), slp p (w * (i : Rat)), p.c⟩
def spl (p : Pc) (m : Nat) : List Pc := (List.range m).map (prt p (p.len * Rat.divInt 1 m))
def splT (f : Nat → Nat) : Nat → List Pc → List Pc
  | _, [] => []
  | j, p :: r => spl p (f j) ++ splT f (j + 1) r
theorem prt_on {f p : Pc} {w L0 : Rat} (i : Nat) (h : GoesOn (ext f L0) p) : GoesOn (ext f (L0 + w * (i : Rat))) (prt p w i) := by
  have h1 := on_val h (w * (i : Rat))
  have h1a : f.val (L0 + w * (i : Rat)) = p.val (w * (i : Rat)) := h1.1
  have h1b : slp f (L0 + w * (i : Rat)) = slp p (w * (i : Rat)) := h1.2
  exact ⟨h1a, h1b, h.2.2⟩
theorem parts_one {f p : Pc} {w L0 : Rat} (h : GoesOn (ext f L0) p) (r : List Pc) : ∀ (n i : Nat), nrmF (ext f (L0 + w * (i : Rat))) ((List.range' i n).map (prt p w) ++ r) = nrmF (ext f (L0 + w * ((i + n : Nat) : Rat))) r
  | 0, i => rfl
  | n + 1, i => by
    rw [List.range'_succ, List.map_cons, List.cons_append]
    show (if GoesOn _ _ then _ else _) = _
    rw [if_pos (prt_on i h)]
    have e : ext (ext f (L0 + w * (i : Rat))) ((ext f (L0 + w * (i : Rat))).len + (prt p w i).len) = ext f (L0 + w * ((i + 1 : Nat) : Rat)) := by
      show Pc.mk (L0 + w * (i : Rat) + w) f.a f.b f.c = Pc.mk _ f.a f.b f.c
      have e1 : ((i + 1 : Nat) : Rat) = (i : Rat) + 1 := Rat.natCast_add i 1
      rw [e1, show L0 + w * (i : Rat) + w = L0 + w * ((i : Rat) + 1) by grind]
    rw [e, parts_one h r n (i + 1), show i + 1 + n = i + (n + 1) by omega]
theorem whole_len {l : Rat} {m : Nat} (h : 0 < m) : l * Rat.divInt 1 m * (m : Rat) = l := by
  have e : Rat.divInt 1 m * (m : Rat) = 1 := by
    have e1 : (m : Rat) = Rat.divInt (m : Int) ((1 : Nat) : Int) := (Rat.num_divInt_den (m : Rat)).symm
    rw [e1, Rat.divInt_mul_divInt]
    rw [Int.one_mul, show (m : Int) * ((1 : Nat) : Int) = m by omega]
    exact Rat.divInt_self' (by omega)
  rw [Rat.mul_assoc, e]
  grind
theorem self_on (p : Pc) : GoesOn (ext p 0) p := by
  refine ⟨?_, ?_, rfl⟩
  · show p.a + 0 * (p.b + p.c * 0) = p.a
    grind
  · show p.b + 2 * (p.c * 0) = p.b
    grind
theorem prt0 (p : Pc) (w : Rat) : prt p w 0 = ext p (0 + w * ((1 : Nat) : Rat)) := by
  show Pc.mk w (p.a + w * ((0 : Nat) : Rat) * (p.b + p.c * (w * ((0 : Nat) : Rat)))) (p.b + 2 * (p.c * (w * ((0 : Nat) : Rat)))) p.c = Pc.mk (0 + w * ((1 : Nat) : Rat)) p.a p.b p.c
  have z0 : ((0 : Nat) : Rat) = 0 := rfl
  have z1 : ((1 : Nat) : Rat) = 1 := rfl
  rw [z0, z1]
  congr 1 <;> grind
theorem spl_eq (p : Pc) (m : Nat) : spl p (m + 1) = prt p (p.len * Rat.divInt 1 (m + 1 : Nat)) 0 :: (List.range' 1 m).map (prt p (p.len * Rat.divInt 1 (m + 1 : Nat))) := by
  unfold spl
  rw [List.range_eq_range', List.range'_succ]
  rfl
theorem spl_first {p : Pc} {m : Nat} (h : 0 < m) (r : List Pc) : nrmT (spl p m ++ r) = nrmF p r := by
  obtain ⟨k, rfl⟩ : ∃ k, m = k + 1 := ⟨m - 1, by omega⟩
  rw [spl_eq, List.cons_append]
  show nrmF (prt p _ 0) _ = _
  rw [prt0, parts_one (self_on p) r k 1, show 1 + k = k + 1 by omega, whole_len h, show (0 : Rat) + p.len = p.len by grind]
  rfl
theorem spl_next {p q : Pc} {m : Nat} (h : 0 < m) (r : List Pc) : nrmF q (spl p m ++ r) = nrmF q (p :: r) := by
  have e0 : nrmF q (p :: r) = if GoesOn q p then nrmF (ext q (q.len + p.len)) r else q :: nrmF p r := rfl
  rw [e0]
  by_cases c : GoesOn q p
  · rw [if_pos c]
    have h1 := parts_one (f := q) (L0 := q.len) (w := p.len * Rat.divInt 1 m) c r m 0
    rw [← List.range_eq_range', show (0 : Nat) + m = m by omega, whole_len h] at h1
    have e1 : q.len + p.len * Rat.divInt 1 m * ((0 : Nat) : Rat) = q.len := by
      have z0 : ((0 : Nat) : Rat) = 0 := rfl
      rw [z0]
      grind
    rw [e1] at h1
    exact h1
  · rw [if_neg c]
    have hf := spl_first (p := p) h r
    obtain ⟨k, rfl⟩ : ∃ k, m = k + 1 := ⟨m - 1, by omega⟩
    rw [spl_eq, List.cons_append] at hf ⊢
    have hf' : nrmF (prt p (p.len * Rat.divInt 1 (k + 1 : Nat)) 0) _ = _ := hf
    show (if GoesOn q (prt p _ 0) then _ else _) = _
    rw [if_neg, hf']
    intro z
    refine c ?_
    rw [prt0] at z
    exact z
theorem splT_nrmF {f : Nat → Nat} (hf : ∀ j, 0 < f j) : ∀ (r : List Pc) (j : Nat) (q : Pc), nrmF q (splT f j r) = nrmF q r
  | [], _, _ => rfl
  | p :: r, j, q => by
    show nrmF q (spl p (f j) ++ splT f (j + 1) r) = _
    rw [spl_next (hf j)]
    show (if GoesOn q p then _ else _) = (if GoesOn q p then _ else _)
    rw [splT_nrmF hf r (j + 1), splT_nrmF hf r (j + 1)]
theorem splT_nrm {f : Nat → Nat} (hf : ∀ j, 0 < f j) (tr : List Pc) (j : Nat) : nrmT (splT f j tr) = nrmT tr := by
  cases tr with
  | nil => rfl
  | cons p r =>
    show nrmT (spl p (f j) ++ splT f (j + 1) r) = _
    rw [spl_first (hf j)]
    exact splT_nrmF hf r (j + 1) p
def nrmC (c : Clip) : Clip := { len := c.len, tracks := c.tracks.map fun q => (q.1, nrmT q.2), marks := c.marks }
/-- the texts of a clip -/
def TextOk (c : Clip) : Prop := (∀ q ∈ c.tracks, PyData.strOk q.1 = true) ∧ ∀ m ∈ c.marks, PyData.strOk m.2 = true
theorem eqv_rows (x y z : Rat) (p : Pc) : PyData.eqv (.tuple [dq x, dq y, dq z]) (dRow p) = decide (x = p.a ∧ y = p.b ∧ z = p.c) := by
  have e : PyData.eqv (.tuple [dq x, dq y, dq z]) (dRow p) = (PyData.eqv (dq x) (dq p.a) && (PyData.eqv (dq y) (dq p.b) && (PyData.eqv (dq z) (dq p.c) && true))) := by
    unfold dRow
    simp only [PyData.eqv, PyData.eqvAll]
  rw [e, eqv_dq_iff, eqv_dq_iff, eqv_dq_iff]
  by_cases h1 : x = p.a <;> by_cases h2 : y = p.b <;> by_cases h3 : z = p.c <;> simp [h1, h2, h3]
theorem dPc_lay (p : Pc) : (dPc p).canLay0 = true := by simp [dPc, dRow, dq, PyData.canLay0, PyData.canLayAll0]
theorem dPc_depth (p : Pc) : (dPc p).depth ≤ 4 := by simp [dPc, dRow, dq, PyData.depth, PyData.depthAll]
theorem dPcs_lay : ∀ l : List Pc, PyData.canLayAll0 (l.map dPc) = true
  | [] => by simp [PyData.canLayAll0]
  | p :: r => by simp [PyData.canLayAll0, dPc_lay p, dPcs_lay r]
theorem dPcs_depth : ∀ l : List Pc, PyData.depthAll (l.map dPc) ≤ 4
  | [] => by simp [PyData.depthAll]
  | p :: r => by
    have h1 := dPcs_depth r
    have h2 := dPc_depth p
    simp only [List.map_cons, PyData.depthAll]
    omega
theorem dNt_lay (q : Str × List Pc) (h : PyData.strOk q.1 = true) : (dNt q).canLay0 = true := by simp [dNt, dTr, PyData.canLay0, PyData.canLayAll0, h, dPcs_lay]
theorem dNt_depth (q : Str × List Pc) : (dNt q).depth ≤ 6 := by
  have h := dPcs_depth q.2
  simp only [dNt, dTr, PyData.depth, PyData.depthAll]
  omega
theorem dNts_lay : ∀ l : List (Str × List Pc), (∀ q ∈ l, PyData.strOk q.1 = true) → PyData.canLayAll0 (l.map dNt) = true
  | [], _ => by simp [PyData.canLayAll0]
  | p :: r, h => by simp [PyData.canLayAll0, dNt_lay p (h p List.mem_cons_self), dNts_lay r fun q hq => h q (List.mem_cons_of_mem _ hq)]
theorem dNts_depth : ∀ l : List (Str × List Pc), PyData.depthAll (l.map dNt) ≤ 6
  | [] => by simp [PyData.depthAll]
  | p :: r => by
    have h1 := dNts_depth r
    have h2 := dNt_depth p
    simp only [List.map_cons, PyData.depthAll]
    omega
theorem dClip_shaped {c : Clip} (h : TextOk c) : SeqAt.shaped (dClip c) = true := by
  have h1 := dNts_depth c.tracks
  have h2 := dMks_depth c.marks
  have hl : (dClip c).canLay0 = true := by simp [dClip, dq, PyData.canLay0, PyData.canLayAll0, dNts_lay _ h.1, dMks_lay _ h.2]
  have hd : (dClip c).depth ≤ 64 := by
    simp only [dClip, dq, PyData.depth, PyData.depthAll]
    omega
  show ((dClip c).canLay0 && decide ((dClip c).depth ≤ 64)) = true
  rw [Bool.and_eq_true]
  exact ⟨hl, decide_eq_true hd⟩
theorem same_ne {d : D} (h : SeqAt.shaped d = true) : (!PyData.eqv d d) = false := by
  rw [SeqAt.eqv_refl d (SeqAt.canLay_of_shaped h)]
  rfl
end MT

/-! What laws ask of normal forms. -/
namespace MT
open PySem L2 DL
theorem jnt_last : ∀ (tr : List Pc) (s : Rat), (jnt s tr)[(jnt s tr).length - 1]? = some (endQ s tr)
  | [], _ => rfl
  | p :: r, s => by
    have h := jnt_last r (s + p.len)
    have l := jnt_len (s + p.len) r
    show (s :: jnt (s + p.len) r)[(jnt (s + p.len) r).length + 1 - 1]? = _
    rw [show (jnt (s + p.len) r).length + 1 - 1 = (jnt (s + p.len) r).length - 1 + 1 by omega]
    exact h
theorem noOn_at : ∀ {tr : List Pc} {i : Nat} {p q : Pc}, NoOn tr → tr[i]? = some p → tr[i + 1]? = some q → ¬ GoesOn p q
  | [], _, _, _, _, h, _ => by cases h
  | x :: r, 0, p, q, hn, h1, h2 => by
    cases Option.some.inj h1
    exact hn.1 q (by cases r with | nil => cases h2 | cons y r => exact h2)
  | x :: r, i + 1, p, q, hn, h1, h2 => noOn_at (i := i) hn.2 h1 h2
theorem splT_snoc {f : Nat → Nat} {p : Pc} : ∀ (l : List Pc) (j : Nat), splT f j (l ++ [p]) = splT f j l ++ spl p (f (j + l.length))
  | [], j => by
    show spl p (f j) ++ [] = [] ++ spl p (f (j + 0))
    rw [List.append_nil, List.nil_append]
    rfl
  | q :: r, j => by
    show spl q (f j) ++ splT f (j + 1) (r ++ [p]) = spl q (f j) ++ splT f (j + 1) r ++ spl p (f (j + (r.length + 1)))
    rw [splT_snoc r (j + 1), List.append_assoc, show j + 1 + r.length = j + (r.length + 1) by omega]
/-- sizes for what a law reckons -/
structure SzT (tr : List Pc) : Prop where
  ne : tr ≠ []
  sz : ∀ p ∈ tr, Bp 300 p
  jn : ∀ u ∈ jnt 0 tr, Bq 100 u
  len : tr.length ≤ 100
theorem nrmT_ne {tr : List Pc} (h : tr ≠ []) : nrmT tr ≠ [] := by
  cases tr with
  | nil => exact absurd rfl h
  | cons p r => exact nrmF_ne r p
theorem nrmT_len (tr : List Pc) : (nrmT tr).length ≤ tr.length := by
  cases tr with
  | nil => exact Nat.le_refl _
  | cons p r => exact nrmF_len r p
theorem nrmF_jnt : ∀ (r : List Pc) (p : Pc) (s u : Rat), u ∈ jnt s (nrmF p r) → u ∈ jnt s (p :: r)
  | [], _, _, _, h => h
  | q :: r, p, s, u, h => by
    have h' : u ∈ jnt s (if GoesOn p q then nrmF (ext p (p.len + q.len)) r else p :: nrmF q r) := h
    show u ∈ s :: (s + p.len) :: jnt (s + p.len + q.len) r
    by_cases c : GoesOn p q
    · rw [if_pos c] at h'
      have h2 := nrmF_jnt r _ s u h'
      have h3 : u ∈ s :: jnt (s + (p.len + q.len)) r := h2
      rw [show s + (p.len + q.len) = s + p.len + q.len by grind] at h3
      rcases List.mem_cons.mp h3 with z | z
      · rw [z]
        exact List.mem_cons_self
      · exact List.mem_cons_of_mem _ (List.mem_cons_of_mem _ z)
    · rw [if_neg c] at h'
      have h3 : u ∈ s :: jnt (s + p.len) (nrmF q r) := h'
      rcases List.mem_cons.mp h3 with z | z
      · rw [z]
        exact List.mem_cons_self
      · exact List.mem_cons_of_mem _ (nrmF_jnt r q (s + p.len) u z)
theorem nrmT_jnt {tr : List Pc} {s u : Rat} (h : u ∈ jnt s (nrmT tr)) : u ∈ jnt s tr := by
  cases tr with
  | nil => exact h
  | cons p r => exact nrmF_jnt r p s u h
theorem nrmT_sz {n k : Nat} {tr : List Pc} (h : ∀ q ∈ tr, Bp n q ∧ Bq k q.len) : ∀ q ∈ nrmT tr, Bq n q.a ∧ Bq n q.b ∧ Bq n q.c ∧ Bq (k + (k + 1) * tr.length) q.len := by
  cases tr with
  | nil => exact fun q hq => by cases hq
  | cons p r =>
    intro q hq
    have hp := h p List.mem_cons_self
    have z := nrmF_sz r p k ⟨hp.1.a, hp.1.b, hp.1.c, hp.2⟩ (Nat.le_refl _) (fun y hy => h y (List.mem_cons_of_mem _ hy)) q hq
    have e : (k + 1) * (p :: r).length = (k + 1) * r.length + (k + 1) := by rw [List.length_cons, Nat.mul_succ]
    exact ⟨z.1, z.2.1, z.2.2.1, z.2.2.2.mono (by omega)⟩
/-- a drawn track -/
structure DrT (tr : List Pc) : Prop where
  ne : tr ≠ []
  len : tr.length ≤ 3
  pos : ∀ p ∈ tr, 0 < p.len
  sz : ∀ p ∈ tr, Bp 70 p
  ls : ∀ p ∈ tr, Bq 4 p.len
theorem Drawn.tr {c : Clip} (h : Drawn c) {q : Str × List Pc} (hq : q ∈ c.tracks) : DrT q.2 :=
  let ⟨h1, h2, _, h4, h5, h6⟩ := h.lens q hq
  ⟨h1, h2, h4, h5, h6⟩
theorem bq0 {n : Nat} : Bq (n + 1) 0 := ⟨Nat.two_pow_pos _, Nat.lt_of_lt_of_le (by decide : 1 < 2 ^ 1) (Nat.pow_le_pow_right Nat.two_pos (by omega))⟩
theorem DrT.jn {tr : List Pc} (h : DrT tr) : ∀ u ∈ jnt 0 tr, Bq 16 u := fun u hu => (jnt_sz (by decide) tr 0 1 (bq0 (n := 0)) h.ls u hu).mono (by have := h.len; omega)
theorem DrT.szT {tr : List Pc} (h : DrT tr) : SzT tr := ⟨h.ne, fun p hp => (h.sz p hp).mono (by decide), fun u hu => (h.jn u hu).mono (by decide), by have := h.len; omega⟩
theorem DrT.nrm {tr : List Pc} (h : DrT tr) : SzT (nrmT tr) :=
  ⟨nrmT_ne h.ne, fun p hp => by
    have z := nrmT_sz (n := 70) (k := 4) (fun q hq => ⟨h.sz q hq, h.ls q hq⟩) p hp
    have l := h.len
    exact ⟨z.2.2.2.mono (by omega), z.1.mono (by omega), z.2.1.mono (by omega), z.2.2.1.mono (by omega)⟩, fun u hu => (h.jn u (nrmT_jnt hu)).mono (by decide), by have := nrmT_len tr; have := h.len; omega⟩
/-! parts -/
theorem prt_sz {p : Pc} (hp : Bp 70 p) (hl : Bq 4 p.len) {m i : Nat} (hm : 0 < m) (hm2 : m ≤ 3) (hi : i ≤ 3) : Bp 230 (prt p (p.len * Rat.divInt 1 m) i) ∧ Bq 6 (p.len * Rat.divInt 1 m) ∧ Bq 8 (p.len * Rat.divInt 1 m * (i : Rat)) := by
  have h1 : Bq 2 (Rat.divInt 1 (m : Int)) := Bq.frac (by omega) (by decide) (by omega)
  have h2 := hl.mul h1
  have h3 : Bq 2 ((i : Nat) : Rat) := ⟨by show (i : Int).natAbs < 4; omega, by show 1 < 4; decide⟩
  have h4 := h2.mul h3
  have b2 : Bq 2 (2 : Rat) := ⟨by decide, by decide⟩
  exact ⟨⟨h2.mono (by decide), (hp.val h4).mono (by decide), (hp.b.add (b2.mul (hp.c.mul h4))).mono (by decide), hp.c.mono (by decide)⟩, h2, h4⟩
theorem splT_mem {f : Nat → Nat} : ∀ {r : List Pc} {j : Nat} {q : Pc}, q ∈ splT f j r → ∃ p ∈ r, ∃ j' i, i < f j' ∧ q = prt p (p.len * Rat.divInt 1 (f j')) i
  | [], _, _, h => by cases h
  | p :: r, j, q, h => by
    have h' : q ∈ spl p (f j) ++ splT f (j + 1) r := h
    rcases List.mem_append.mp h' with z | z
    · obtain ⟨i, hi, rfl⟩ := List.mem_map.mp z
      exact ⟨p, List.mem_cons_self, j, i, List.mem_range.mp hi, rfl⟩
    · obtain ⟨p', hp', j', i, hi, e⟩ := splT_mem z
      exact ⟨p', List.mem_cons_of_mem _ hp', j', i, hi, e⟩
theorem splT_len {f : Nat → Nat} (hf : ∀ j, f j ≤ 3) : ∀ (r : List Pc) (j : Nat), (splT f j r).length ≤ 3 * r.length
  | [], _ => Nat.le_refl _
  | p :: r, j => by
    show (spl p (f j) ++ splT f (j + 1) r).length ≤ _
    unfold spl
    rw [List.length_append, List.length_map, List.length_range, List.length_cons]
    have := splT_len hf r (j + 1)
    have := hf j
    omega
theorem DrT.spl {tr : List Pc} (h : DrT tr) {f : Nat → Nat} (h0 : ∀ j, 0 < f j) (hf : ∀ j, f j ≤ 3) : ∀ q ∈ splT f 0 tr, Bp 230 q ∧ Bq 6 q.len := fun q hq => by
  obtain ⟨p, hp, j, i, hi, rfl⟩ := splT_mem hq
  have := hf j
  have z := prt_sz (h.sz p hp) (h.ls p hp) (h0 j) (hf j) (i := i) (by omega)
  exact ⟨z.1, z.2.1⟩
theorem nrm_look {c : Clip} (h : Drawn c) {q : Str × List Pc} (hq : q ∈ c.tracks) : ((nrmC c).tracks.filter fun r => decide (r.1 = q.1)).head? = some (q.1, nrmT q.2) := by
  obtain ⟨h2, h3⟩ := h.names
  show ((c.tracks.map fun q => (q.1, nrmT q.2)).filter fun r => decide (r.1 = q.1)).head? = _
  match e : c.tracks with
  | [] => rw [e] at hq; cases hq
  | [a] =>
    rw [e] at hq
    rw [List.mem_singleton.mp hq]
    simp
  | [a, b] =>
    rw [e] at hq
    have hne := h3 a b e
    rcases List.mem_cons.mp hq with z | z
    · rw [z]
      simp
    · rw [List.mem_singleton.mp z]
      simp [hne]
  | a :: b :: c' :: r =>
    rw [e] at h2
    simp at h2
end MT

/-! When two tracks are told apart. -/
namespace MT
open PySem L2 DL
theorem insQ_has (l : List Rat) (a : Rat) : a ∈ insQ l a := by
  induction l with
  | nil => exact List.mem_cons_self
  | cons q r ih =>
    unfold insQ
    by_cases c : q < a
    · rw [if_pos c]
      exact List.mem_cons_of_mem _ ih
    · rw [if_neg c]
      by_cases c2 : q = a
      · rw [if_pos c2, c2]
        exact List.mem_cons_self
      · rw [if_neg c2]
        exact List.mem_cons_self
theorem insQ_keep {l : List Rat} {a x : Rat} (h : x ∈ l) : x ∈ insQ l a := by
  induction l with
  | nil => cases h
  | cons q r ih =>
    unfold insQ
    by_cases c : q < a
    · rw [if_pos c]
      rcases List.mem_cons.mp h with z | z
      · rw [z]
        exact List.mem_cons_self
      · exact List.mem_cons_of_mem _ (ih z)
    · rw [if_neg c]
      by_cases c2 : q = a
      · rw [if_pos c2]
        exact h
      · rw [if_neg c2]
        exact List.mem_cons_of_mem _ h
theorem insQ_srt {l : List Rat} {a : Rat} (h : l.Pairwise (· < ·)) : (insQ l a).Pairwise (· < ·) := by
  induction l with
  | nil => exact List.pairwise_singleton _ _
  | cons q r ih =>
    obtain ⟨h1, h2⟩ := List.pairwise_cons.mp h
    unfold insQ
    by_cases c : q < a
    · rw [if_pos c]
      refine List.pairwise_cons.mpr ⟨fun x hx => ?_, ih h2⟩
      rcases insQ_mem hx with z | z
      · rw [z]
        exact c
      · exact h1 x z
    · rw [if_neg c]
      by_cases c2 : q = a
      · rw [if_pos c2]
        exact h
      · rw [if_neg c2]
        refine List.pairwise_cons.mpr ⟨fun x hx => ?_, h⟩
        have aq : a < q := by grind
        rcases List.mem_cons.mp hx with z | z
        · rw [z]
          exact aq
        · have := h1 x z
          grind
theorem sortQ_srt (l : List Rat) : (sortQ l).Pairwise (· < ·) := by
  have h : ∀ (l acc : List Rat), acc.Pairwise (· < ·) → (l.foldl insQ acc).Pairwise (· < ·) := by
    intro l
    induction l with
    | nil => intro acc h; exact h
    | cons a r ih => intro acc h; exact ih _ (insQ_srt h)
  exact h l [] List.Pairwise.nil
theorem sortQ_all {l : List Rat} {x : Rat} (h : x ∈ l) : x ∈ sortQ l := by
  have g : ∀ (l acc : List Rat), (x ∈ acc ∨ x ∈ l) → x ∈ l.foldl insQ acc := by
    intro l
    induction l with
    | nil => intro acc h; exact h.resolve_right fun z => by cases z
    | cons a r ih =>
      intro acc h
      refine ih _ ?_
      rcases h with z | z
      · exact .inl (insQ_keep z)
      · rcases List.mem_cons.mp z with y | y
        · rw [y]
          exact .inl (insQ_has _ _)
        · exact .inr y
  exact g l [] (.inr h)
theorem srt_last {l : List Rat} {e : Rat} (h : l.Pairwise (· < ·)) (he : e ∈ l) (hm : ∀ x ∈ l, x ≤ e) : l.getD (l.length - 1) 0 = e := by
  obtain ⟨k, hk, rfl⟩ := List.getElem_of_mem he
  by_cases c : k = l.length - 1
  · subst c
    rw [List.getD_eq_getElem?_getD, List.getElem?_eq_getElem hk]
    rfl
  · have hk2 : k + 1 < l.length := by omega
    have h1 := List.pairwise_iff_getElem.mp h k (k + 1) hk hk2 (by omega)
    have h2 := hm l[k + 1] (List.getElem_mem hk2)
    grind
/-- where a law asks whether two tracks are the same -/
def plQ (tr ot : List Pc) : List Rat := sortQ (jnt 0 tr ++ jnt 0 ot)
def smp (pl : List Rat) (i j : Nat) : Rat := pl.getD i 0 + (pl.getD (i + 1) 0 - pl.getD i 0) * Rat.divInt j 2
def sameB (tr ot : List Pc) : Bool := decide (endQ 0 tr = endQ 0 ot) && (List.range ((plQ tr ot).length - 1)).all fun i => (List.range 3).all fun j => decide (valF 0 tr (smp (plQ tr ot) i j) = valF 0 ot (smp (plQ tr ot) i j))
theorem sameB_true {tr ot : List Pc} (he : endQ 0 tr = endQ 0 ot) (hv : ∀ x, valF 0 tr x = valF 0 ot x) : sameB tr ot = true := by
  unfold sameB
  rw [decide_eq_true he, Bool.true_and, List.all_eq_true]
  intro i _
  rw [List.all_eq_true]
  intro j _
  exact decide_eq_true (hv _)
theorem jnt0_mem (s : Rat) (tr : List Pc) : s ∈ jnt s tr := by cases tr <;> exact List.mem_cons_self
theorem sameB_false {tr ot : List Pc} (hne : tr ≠ []) (h1 : ∀ p ∈ tr, 0 < p.len) (h2 : ∀ p ∈ ot, 0 < p.len) (he : endQ 0 tr = endQ 0 ot) (hv : valF 0 tr (endQ 0 tr) ≠ valF 0 ot (endQ 0 tr)) : sameB tr ot = false := by
  have hE : endQ 0 tr ∈ jnt 0 tr := List.mem_of_getElem? (jnt_last tr 0)
  have hs := sortQ_srt (jnt 0 tr ++ jnt 0 ot)
  have hEm : endQ 0 tr ∈ plQ tr ot := sortQ_all (List.mem_append_left _ hE)
  have h0m : (0 : Rat) ∈ plQ tr ot := sortQ_all (List.mem_append_left _ (jnt0_mem 0 tr))
  have hmax : ∀ x ∈ plQ tr ot, x ≤ endQ 0 tr := fun x hx => by
    rcases List.mem_append.mp (sortQ_mem hx) with z | z
    · exact (jnt_le h1 z).2
    · rw [he]
      exact (jnt_le h2 z).2
  have hl : (plQ tr ot).getD ((plQ tr ot).length - 1) 0 = endQ 0 tr := srt_last hs hEm hmax
  have hpos : 0 < endQ 0 tr := by
    cases tr with
    | nil => exact absurd rfl hne
    | cons p r =>
      have a1 := h1 p List.mem_cons_self
      have a2 := endQ_ge (tr := r) (s := 0 + p.len) fun q hq => h1 q (List.mem_cons_of_mem _ hq)
      show 0 < endQ (0 + p.len) r
      grind
  have hlen : 2 ≤ (plQ tr ot).length := by
    apply Classical.byContradiction
    intro z
    match e : plQ tr ot with
    | [] => rw [e] at h0m; cases h0m
    | [a] =>
      rw [e] at h0m hEm
      have b1 := List.mem_singleton.mp h0m
      have b2 := List.mem_singleton.mp hEm
      rw [b2, ← b1] at hpos
      exact absurd hpos (by decide)
    | a :: b :: r => rw [e] at z; simp at z
  have key : smp (plQ tr ot) ((plQ tr ot).length - 2) 2 = endQ 0 tr := by
    unfold smp
    have e1 : (plQ tr ot).length - 2 + 1 = (plQ tr ot).length - 1 := by omega
    have e2 : Rat.divInt ((2 : Nat) : Int) 2 = 1 := Rat.divInt_self' (by decide)
    rw [e1, hl, e2]
    grind
  unfold sameB
  rw [decide_eq_true he, Bool.true_and]
  apply Bool.eq_false_iff.mpr
  intro z
  rw [List.all_eq_true] at z
  have z1 := z ((plQ tr ot).length - 2) (List.mem_range.mpr (by omega))
  rw [List.all_eq_true] at z1
  have z2 := of_decide_eq_true (z1 2 (List.mem_range.mpr (by decide)))
  rw [key] at z2
  exact hv z2
/-! the last piece changed -/
def chgL (d : Rat) : List Pc → List Pc
  | [] => []
  | [p] => [⟨p.len, p.a, p.b + d, p.c⟩]
  | p :: q :: r => p :: chgL d (q :: r)
theorem chgL_snoc (d : Rat) (p : Pc) : ∀ l : List Pc, chgL d (l ++ [p]) = l ++ [⟨p.len, p.a, p.b + d, p.c⟩]
  | [] => rfl
  | [q] => rfl
  | q :: q' :: r => by
    show q :: chgL d (q' :: r ++ [p]) = q :: _
    have h := chgL_snoc d p (q' :: r)
    rw [h]
    rfl
theorem chgL_zero : ∀ l : List Pc, chgL 0 l = l
  | [] => rfl
  | [p] => by
    show [Pc.mk p.len p.a (p.b + 0) p.c] = [p]
    rw [Rat.add_zero]
  | p :: q :: r => by
    show p :: chgL 0 (q :: r) = _
    rw [chgL_zero (q :: r)]
theorem chgL_len (d : Rat) : ∀ l : List Pc, (chgL d l).map (·.len) = l.map (·.len)
  | [] => rfl
  | [p] => rfl
  | p :: q :: r => by
    show p.len :: (chgL d (q :: r)).map (·.len) = _
    rw [chgL_len d (q :: r)]
    rfl
theorem chgL_end (d : Rat) (l : List Pc) (s : Rat) : endQ s (chgL d l) = endQ s l := by rw [endQ_sum, endQ_sum, chgL_len]
theorem jnt_map : ∀ (l m : List Pc) (s : Rat), l.map (·.len) = m.map (·.len) → jnt s l = jnt s m
  | [], [], _, _ => rfl
  | [], q :: m, _, h => by cases h
  | p :: l, [], _, h => by cases h
  | p :: l, q :: m, s, h => by
    have h' := List.cons.inj h
    have e : p.len = q.len := h'.1
    show s :: jnt (s + p.len) l = s :: jnt (s + q.len) m
    rw [e, jnt_map l m _ h'.2]
theorem chgL_ne {d : Rat} {l : List Pc} (h : l ≠ []) : chgL d l ≠ [] := by
  match l, h with
  | [p], _ => exact fun z => by cases z
  | p :: q :: r, _ => exact fun z => by cases z
theorem chgL_mem {d : Rat} : ∀ {l : List Pc} {q : Pc}, q ∈ chgL d l → ∃ p ∈ l, q.len = p.len ∧ q.a = p.a ∧ (q.b = p.b ∨ q.b = p.b + d) ∧ q.c = p.c
  | [], _, h => by cases h
  | [p], q, h => by
    rw [List.mem_singleton.mp h]
    exact ⟨p, List.mem_cons_self, rfl, rfl, .inr rfl, rfl⟩
  | p :: p' :: r, q, h => by
    have h' : q ∈ p :: chgL d (p' :: r) := h
    rcases List.mem_cons.mp h' with z | z
    · rw [z]
      exact ⟨p, List.mem_cons_self, rfl, rfl, .inl rfl, rfl⟩
    · obtain ⟨x, hx, e⟩ := chgL_mem z
      exact ⟨x, List.mem_cons_of_mem _ hx, e⟩
theorem valF_end {d : Rat} : ∀ {l : List Pc} {s : Rat}, l ≠ [] → (∀ p ∈ l, 0 < p.len) → ∃ w, 0 < w ∧ valF s (chgL d l) (endQ s l) = valF s l (endQ s l) + d * w
  | [], _, h, _ => absurd rfl h
  | [p], s, _, hp => by
    refine ⟨p.len, hp p List.mem_cons_self, ?_⟩
    have e1 : valF s (chgL d [p]) (endQ s [p]) = if ¬ s + p.len < s + p.len ∨ ([] : List Pc) = [] then Pc.val ⟨p.len, p.a, p.b + d, p.c⟩ (s + p.len - s) else s + p.len := rfl
    have e2 : valF s [p] (endQ s [p]) = if ¬ s + p.len < s + p.len ∨ ([] : List Pc) = [] then p.val (s + p.len - s) else s + p.len := rfl
    rw [e1, e2, if_pos (.inr rfl), if_pos (.inr rfl), show s + p.len - s = p.len by grind]
    show p.a + p.len * (p.b + d + p.c * p.len) = p.a + p.len * (p.b + p.c * p.len) + d * p.len
    grind
  | p :: q :: r, s, _, hp => by
    have hr : ∀ y ∈ q :: r, 0 < y.len := fun y hy => hp y (List.mem_cons_of_mem _ hy)
    obtain ⟨w, hw, e⟩ := valF_end (d := d) (l := q :: r) (s := s + p.len) (fun z => by cases z) hr
    refine ⟨w, hw, ?_⟩
    have lq := hr q List.mem_cons_self
    have a2 := endQ_ge (tr := r) (s := s + p.len + q.len) fun y hy => hr y (List.mem_cons_of_mem _ hy)
    have hE : s + p.len < endQ (s + p.len) (q :: r) := by
      show s + p.len < endQ (s + p.len + q.len) r
      grind
    have e1 : valF s (chgL d (p :: q :: r)) (endQ s (p :: q :: r)) = if ¬ s + p.len < endQ (s + p.len) (q :: r) ∨ chgL d (q :: r) = [] then p.val (endQ (s + p.len) (q :: r) - s) else valF (s + p.len) (chgL d (q :: r)) (endQ (s + p.len) (q :: r)) := rfl
    have e2 : valF s (p :: q :: r) (endQ s (p :: q :: r)) = if ¬ s + p.len < endQ (s + p.len) (q :: r) ∨ (q :: r) = [] then p.val (endQ (s + p.len) (q :: r) - s) else valF (s + p.len) (q :: r) (endQ (s + p.len) (q :: r)) := rfl
    rw [e1, e2, if_neg (by rintro (z | z); exact z hE; exact chgL_ne (fun z => by cases z) z), if_neg (by rintro (z | z); exact z hE; cases z), e]
/-! == of tracks -/
theorem eqv_dPc (p q : Pc) : PyData.eqv (dPc p) (dPc q) = decide (p = q) := by
  have e : PyData.eqv (dPc p) (dPc q) = (PyData.eqv (dq p.len) (dq q.len) && (PyData.eqv (.tuple [dq p.a, dq p.b, dq p.c]) (dRow q) && true)) := by
    unfold dPc
    simp only [PyData.eqv, PyData.eqvAll]
    rfl
  rw [e, eqv_dq_iff, eqv_rows]
  obtain ⟨pl, pa, pb, pc⟩ := p
  obtain ⟨ql, qa, qb, qc⟩ := q
  by_cases h1 : pl = ql <;> by_cases h2 : pa = qa <;> by_cases h3 : pb = qb <;> by_cases h4 : pc = qc <;> simp [h1, h2, h3, h4]
theorem eqv_dPcs : ∀ s t : List Pc, PyData.eqvAll (s.map dPc) (t.map dPc) = decide (s = t)
  | [], [] => by simp [PyData.eqvAll]
  | [], q :: t => by simp [PyData.eqvAll]
  | p :: s, [] => by simp [PyData.eqvAll]
  | p :: s, q :: t => by
    rw [List.map_cons, List.map_cons]
    have e : PyData.eqvAll (dPc p :: s.map dPc) (dPc q :: t.map dPc) = (PyData.eqv (dPc p) (dPc q) && PyData.eqvAll (s.map dPc) (t.map dPc)) := by simp only [PyData.eqvAll]
    rw [e, eqv_dPc, eqv_dPcs s t]
    by_cases h1 : p = q <;> by_cases h2 : s = t <;> simp [h1, h2]
theorem eqv_first {c e : Clip} {n : Str} {s t : List Pc} {r u : List (Str × List Pc)} (hc : c.tracks = (n, s) :: r) (he : e.tracks = (n, t) :: u) (h : s ≠ t) : PyData.eqv (dClip c) (dClip e) = false := by
  have e1 : PyData.eqv (dClip c) (dClip e) = (PyData.eqv (dq c.len) (dq e.len) && (PyData.eqvAll (c.tracks.map dNt) (e.tracks.map dNt) && (PyData.eqvAll (c.marks.map dMk) (e.marks.map dMk) && true))) := by
    unfold dClip
    simp only [PyData.eqv, PyData.eqvAll]
  have e2 : PyData.eqvAll (c.tracks.map dNt) (e.tracks.map dNt) = false := by
    rw [hc, he, List.map_cons, List.map_cons]
    have e3 : PyData.eqvAll (dNt (n, s) :: r.map dNt) (dNt (n, t) :: u.map dNt) = (PyData.eqv (dNt (n, s)) (dNt (n, t)) && PyData.eqvAll (r.map dNt) (u.map dNt)) := by simp only [PyData.eqvAll]
    have e4 : PyData.eqv (dNt (n, s)) (dNt (n, t)) = ((n == n) && (PyData.eqvAll (s.map dPc) (t.map dPc) && true)) := by
      unfold dNt dTr
      simp only [PyData.eqv, PyData.eqvAll]
    rw [e3, e4, eqv_dPcs, decide_eq_false h]
    simp
  rw [e1, e2]
  simp
end MT
namespace MT
open PySem L2 DL
theorem splT_pos {f : Nat → Nat} (h0 : ∀ j, 0 < f j) (hf : ∀ j, f j ≤ 3) {tr : List Pc} (h : ∀ p ∈ tr, 0 < p.len) : ∀ q ∈ splT f 0 tr, 0 < q.len := fun q hq => by
  obtain ⟨p, hp, j, i, hi, rfl⟩ := splT_mem hq
  show 0 < p.len * Rat.divInt 1 (f j)
  have a := h p hp
  have b : 0 < Rat.divInt 1 ((f j : Nat) : Int) := by
    have b0 := h0 j
    have b1 := hf j
    rcases (show f j = 1 ∨ f j = 2 ∨ f j = 3 by omega) with z | z | z <;> rw [z] <;> decide
  exact Rat.mul_pos a b
theorem splT_ne {f : Nat → Nat} (h0 : ∀ j, 0 < f j) {tr : List Pc} (h : tr ≠ []) : splT f 0 tr ≠ [] := by
  cases tr with
  | nil => exact absurd rfl h
  | cons p r =>
    intro z
    have z' : spl p (f 0) ++ splT f 1 r = [] := z
    have z2 := congrArg List.length (List.append_eq_nil_iff.mp z').1
    unfold spl at z2
    rw [List.length_map, List.length_range] at z2
    have := h0 0
    simp at z2
    omega
theorem splT_val {f : Nat → Nat} (h0 : ∀ j, 0 < f j) (hf : ∀ j, f j ≤ 3) {tr : List Pc} (h : ∀ p ∈ tr, 0 < p.len) (x : Rat) : valF 0 (splT f 0 tr) x = valF 0 tr x := by
  rw [← nrmT_val (splT_pos h0 hf h) 0 x, splT_nrm h0, nrmT_val h 0 x]
theorem splT_end {f : Nat → Nat} (h0 : ∀ j, 0 < f j) (tr : List Pc) : endQ 0 (splT f 0 tr) = endQ 0 tr := by
  rw [← nrmT_end (splT f 0 tr) 0, splT_nrm h0, nrmT_end]
/-- a track cut into parts, its last part's slope changed by d -/
theorem chg_alike {f : Nat → Nat} (h0 : ∀ j, 0 < f j) (hf : ∀ j, f j ≤ 3) {tr : List Pc} (hne : tr ≠ []) (h : ∀ p ∈ tr, 0 < p.len) (d : Rat) :
    (d = 0 ∧ nrmT (chgL d (splT f 0 tr)) = nrmT tr ∧ sameB tr (chgL d (splT f 0 tr)) = true) ∨ (nrmT tr ≠ nrmT (chgL d (splT f 0 tr)) ∧ sameB tr (chgL d (splT f 0 tr)) = false) := by
  have hp := splT_pos h0 hf h
  by_cases hd : d = 0
  · left
    refine ⟨hd, ?_, ?_⟩
    · rw [hd, chgL_zero, splT_nrm h0]
    · rw [hd, chgL_zero]
      exact sameB_true (splT_end h0 tr).symm fun x => (splT_val h0 hf h x).symm
  · right
    have hpc : ∀ p ∈ chgL d (splT f 0 tr), 0 < p.len := fun q hq => by
      obtain ⟨p, hp', e, _⟩ := chgL_mem hq
      rw [e]
      exact hp p hp'
    obtain ⟨w, hw, e⟩ := valF_end (d := d) (s := 0) (splT_ne h0 hne) hp
    rw [splT_end h0, splT_val h0 hf h] at e
    have hv : valF 0 tr (endQ 0 tr) ≠ valF 0 (chgL d (splT f 0 tr)) (endQ 0 tr) := fun z => by
      rw [e] at z
      have z2 : d * w = 0 := by grind
      rcases Rat.mul_eq_zero.mp z2 with y | y
      · exact hd y
      · rw [y] at hw
        exact absurd hw (by decide)
    refine ⟨fun z => hv ?_, sameB_false hne h hpc (by rw [chgL_end, splT_end h0]) hv⟩
    rw [← nrmT_val h 0, z, nrmT_val hpc 0]
end MT

/-! tuple + tuple. -/
namespace DL
open PySem PySem.Spec PyProof.Rows L2
section
variable {X : Cx} {G : Gam} {a b : Expr} {ds dt : List D} {pos : Pos}
def rCatZ (K : Fg) : R2 := fun x y H Q => ∃ a b xs ys, x = .ref a ∧ y = .ref b ∧ SqT K H a xs ∧ SqT K H b ys ∧ xs.length + ys.length ≤ sizeLine ∧
  (xs = [] → Q (.ref b) H) ∧ (xs ≠ [] → ys = [] → Q (.ref a) H) ∧ (xs ≠ [] → ys ≠ [] → ∀ (p : Addr) (o : Obj), H p = none → o.cls = .type "tuple" → o.dict = none → Q (.ref p) (upd H p (.frz o (.tup (xs ++ ys)))))
theorem op_catZ : OpR X (binaryOp .Add) (rCatZ X.K) := by
  rintro pins s σ H x y v u Q I rx ry ⟨a, b, xs, ys, rfl, rfl, ha, hb, hz, q0, q1, q2⟩
  cases rx
  cases ry
  obtain ⟨its, r1, p1, _⟩ := I.tuple ha
  obtain ⟨its2, r2, p2, _⟩ := I.tuple hb
  by_cases hx : xs = []
  · subst hx
    cases r1
    exact cat_tup0 p1 p2 ⟨.ref b, H, I, rfl, q0 rfl⟩
  · have n1 : its ≠ [] := fun z => hx (r1.nil_iff.mp z)
    refine HT.cat_tup p1 p2 n1 (fun z => ⟨.ref a, H, I, rfl, q1 hx (r2.nil_iff.mp z)⟩) (fun z => ?_) (by rw [← r1.length, ← r2.length]; exact hz)
    exact ⟨.ref s.heap.objs.size, _, tz_laid I (r1.append r2) (by rw [List.length_append]; exact hz), rfl, q2 hx (fun w => z (r2.nil_iff.mpr w)) _ _ (I.hok.fresh (Nat.le_refl _)) rfl rfl⟩
theorem ev_catT (ha : EvD X a G (.tuple ds)) (hb : EvD X b G (.tuple dt)) (hl : ds.length + dt.length ≤ sizeLine) : EvD X (.BinOp a .Add b pos) G (.tuple (ds ++ dt)) := fun H0 S H σ o i Q q =>
  we (pe_op op_catZ pe_w pe_w) (ha H0 S H σ o i _ fun v1 S1 H1 x1 d1 => hb H0 S1 H1 σ (o.ext x1) x1.i _ fun v2 S2 H2 x2 d2 => by
    have x3 := x1.trans x2
    cases d1 with
    | tup hq hA =>
      cases d2 with
      | tup hq2 hA2 =>
        have l1 := DpAll.len hA
        have l2 := DpAll.len hA2
        refine ⟨_, _, _, _, rfl, rfl, x2.i.sqT (x2.s.sqZ hq).t, x2.i.sqT hq2.t, by rw [l1, l2]; exact hl, fun z => ?_, fun z1 z2 => ?_, fun z1 z2 p ob hp y1 y2 => ?_⟩
        · subst z
          cases hA
          exact q _ S2 _ x3 (.tup hq2 hA2)
        · subst z2
          cases hA2
          refine q _ S2 _ x3 ?_
          rw [List.append_nil]
          exact .tup (x2.s.sqZ hq) (x2.s.dpAll hA)
        · exact q _ _ _ (x3.add hp) (.tup (SqZ.of upd_same y1 y2) (((Ex.refl S2).new (x3.i.none hp)).dpAll (DpAll.app hA2 (x2.s.dpAll hA)))))
end
end DL

/-! {f(x) for x in xs} of whole numbers; sorted of it. -/
namespace DL
open PySem PySem.Spec PyProof.Rows L2
abbrev SNil (w : World) (D : Addr) : HO := SetO w D (fun _ => false) 0
/-- one more in the set at D -/
def AddI (w : World) (D : Addr) (y : V) (H : Hp) (N : Hp → Prop) : Prop := ∃ (k : Int) (S : Int → Bool) (n : Nat), y = .int k ∧ H D = some (SetO w D S n) ∧ n + 1 < scanBound ∧
  N (upd H D (SetO w D (fun j => S j || decide (j = k)) (if S k = true then n else n + 1)))
theorem addI {X : Cx} {pins : List (Addr × Obj)} {σ : L2.St} {H : Hp} {s : Shared} {D : Addr} {y : V} {u : Value} {N : Hp → Prop} (I : Inv X pins σ H s) (r : RelV y u) (h : AddI X.w D y H N) :
    wpAny (model X.prog X.w) X.A (call (.builtin "set.add") [.ref D, u]) (fun _ s' => ∃ H', Inv X pins σ H' s' ∧ N H') X.xe s := by
  obtain ⟨k, S, n, rfl, hD, hn, q⟩ := h
  exact thn (mt_sadd pins s σ H (.ref D) [.int k] (.ref D) [u] (fun _ H' => N H') I rfl (.cons r .nil) ⟨D, k, S, n, rfl, rfl, hD, hn, q⟩) fun v s' ⟨x, H', I', _, q'⟩ => ⟨H', I', q'⟩
def tScI (w : World) (wi : TI) (g : TG) (tt : TT) (te : TE) (vs : List Nat) : TE := fun σ H Q =>
  wi σ H fun J H1 => ∀ D : Addr, H1 D = none → ∃ Wn : Nat → Nat → Hp → Prop, (∃ m, Wn 0 m (upd H1 D (SNil w D))) ∧
    ∀ (i m : Nat) (Ha : Hp), Wn i m Ha → (J.stop i Ha ∧ Q (.ref D) Ha) ∨ (J.go i Ha ∧ ∃ N : Hp → Prop, (∀ Hb, N Hb → ∃ k, k < m ∧ Wn (i + 1) k Hb) ∧
      ∀ x Hb, J.yld i Ha x Hb → g x (wipe σ vs) Hb fun τ Hc => wipe τ vs = wipe σ vs ∧ tt τ Hc fun b Hd => if b = true then te τ Hd fun y He => AddI w D y He N else N Hd)
section
variable {X : Cx} {elt tg iter : Expr} {ifs : List Expr} {scope : Scope} {own : List (Str × Nat)} {pos : Pos} {wi : TI} {g : TG} {tt : TT} {te : TE}
theorem pe_scI (hc : X.calm = true) (hN : X.N.Nodup) (hi : PI X tg iter wi) (ok : BlkOk X.N X.env.scope scope own)
    (hg : ∀ (s : Shared) (H : Hp) (C : Addr) (cl : List (Str × Addr)) (fp : List Addr), PG (X.blk s H scope (compEnvC scope cl C X.env) fp) tg g)
    (ht : ∀ (s : Shared) (H : Hp) (C : Addr) (cl : List (Str × Addr)) (fp : List Addr), PTs (X.blk s H scope (compEnvC scope cl C X.env) fp) ifs tt)
    (he : ∀ (s : Shared) (H : Hp) (C : Addr) (cl : List (Str × Addr)) (fp : List Addr), PE (X.blk s H scope (compEnvC scope cl C X.env) fp) elt te)
    (hs : ∀ x, foldedSetIterable iter X.env x = pure x := by intro _; rfl) : PE X (.SetComp elt [⟨tg, iter, ifs, 0⟩] scope pos) (tScI X.w wi g tt te (own.map (·.2))) := by
  refine ⟨fun pins s σ H Q I h => ?_⟩
  rw [PpSet.eval_SetComp]
  have free : ∀ y ∈ scope.names, y.2 = .free → ∃ c, X.env.cells.lookup y.1 = some c := fun y hy e => (ok.free y hy e).elim (fun k => I.ok.has _ (.inl k)) fun k => I.ok.has _ (.inr k)
  refine wpAny_comprehension_free rfl hs (closure_ok free) ok.kind (fun y hy e => by rw [ok.uniq y hy, e]) ?_
  refine thn (hi.run pins s σ H _ I h) fun xv sa hx => thn hx fun itv sb hb => ?_
  obtain ⟨it, fp, tn, J, Hb, rfl, Ib, T, stb, fb, q⟩ := hb
  refine PpSet.newSet_ok (newEnv_comp ?_)
  have dn : Hb sb.heap.objs.size = none := Ib.hok.fresh (Nat.le_refl _)
  obtain ⟨Wn, ⟨m0, w0⟩, turn⟩ := q _ dn
  -- the set is laid
  have Ic : Inv X pins σ (upd Hb sb.heap.objs.size (SNil X.w sb.heap.objs.size)) { sb with heap := sb.heap.push { cls := .type "set", dict := none, data := .set #[] 0 (.fresh 0 0 (!X.w.params.followText "set-order")) } } :=
    Ib.laid (t' := sb.toks) (fun _ _ e => Heap.get?_push_of_some _ e) (Nat.le_refl _) (setO_new (setR_fresh X.w))
  have lt : ∀ b ∈ fp, b < sb.heap.objs.size := fun b hb => let ⟨o, e, _⟩ := T.obj _ _ stb b hb; Heap.lt_size e
  generalize hD : sb.heap.objs.size = D at dn w0 turn Ic lt
  have psz : sb.heap.objs.size < (sb.heap.push { cls := .type "set", dict := none, data := .set #[] 0 (.fresh 0 0 (!X.w.params.followText "set-order")) }).objs.size := by rw [Heap.size_push]; exact Nat.lt_succ_self _
  have stc := T.keep 0 sb.heap (sb.heap.push { cls := .type "set", dict := none, data := .set #[] 0 (.fresh 0 0 (!X.w.params.followText "set-order")) }) stb fun b _ o e => Heap.get?_push_of_some _ e
  generalize hsc : ({ sb with heap := sb.heap.push { cls := .type "set", dict := none, data := .set #[] 0 (.fresh 0 0 (!X.w.params.followText "set-order")) } } : Shared) = sc at Ic ⊢
  have hheap : sc.heap = sb.heap.push { cls := .type "set", dict := none, data := .set #[] 0 (.fresh 0 0 (!X.w.params.followText "set-order")) } := by rw [← hsc]
  rw [← hheap] at psz stc
  generalize hHc : upd Hb D (SNil X.w D) = Hc at Ic w0
  have fc : ∀ b ∈ fp, FpOk X pins Hc b ∧ b < sc.heap.objs.size := fun b hb => by
    have l := lt b hb
    refine ⟨⟨?_, (fb b hb).2⟩, Nat.lt_trans l (by rw [← hD]; exact psz)⟩
    rw [← hHc, upd_ne (Nat.ne_of_lt l)]
    exact (fb b hb).1
  have Id := block_start Ic ok hN fc
  generalize hcl : cellsFrom (sc.heap.objs.size + 1) scope.names (cloFrom X.env.cells scope.names []) = cl at Id
  have pg := hg sc Hc sc.heap.objs.size cl fp
  have pt := ht sc Hc sc.heap.objs.size cl fp
  have pe := he sc Hc sc.heap.objs.size cl fp
  show codeAny _ _ (.compStart _ 0 (.ref it) (.ref D) (compEnvC scope cl sc.heap.objs.size X.env)) (compPost _ X.A X.xe none (EP X pins σ Q) (.ref D) sc.heap.objs.size) _
  have cL : (compEnvC scope cl sc.heap.objs.size X.env).locals = sc.heap.objs.size := rfl
  generalize compEnvC scope cl sc.heap.objs.size X.env = ce at Id pg pt pe cL ⊢
  have std : tn 0 ({ sc with heap := pushCells (sc.heap.push { cls := .type "dict", data := .dict #[] }) scope.names } : Shared).heap := T.keep 0 sc.heap (pushCells (sc.heap.push { cls := .type "dict", data := .dict #[] }) scope.names) stc fun b _ o e => pushCells_keeps _ _ _ _ (Heap.get?_push_of_some _ e)
  generalize ({ sc with heap := pushCells (sc.heap.push { cls := .type "dict", data := .dict #[] }) scope.names } : Shared) = sd at Id std ⊢
  have nfp : ∀ b ∈ fp, Hc b = none := fun b m => (fc b m).1.1
  have stat : ∀ {τ : L2.St} {Hx : Hp} {sx : Shared}, Inv (X.blk sc Hc scope ce fp) [] τ Hx sx → (∀ b ∈ fp, Hx b = none) → ∀ b ∈ fp, FpOk (X.blk sc Hc scope ce fp) [] Hx b := fun {τ Hx sx} Iq n b m =>
    let z := Iq.ok.exf b m
    ⟨n b m, z.1, Iq.ok.exfs b m, .inl m, z.2, fun p hp => absurd hp (List.not_mem_nil)⟩
  have loop : codeAny (model X.prog X.w) X.A (.compLoop (.SetComp elt [⟨tg, iter, ifs, 0⟩] scope pos) 0 (.ref it) (.ref D) ce) (compPost (model X.prog X.w) X.A X.xe none (EP X pins σ Q) (.ref D) sc.heap.objs.size) sd := by
    refine PpSet.compLoopS_any (fun n sx => ∃ i Hx, Inv (X.blk sc Hc scope ce fp) [] (wipe σ (own.map (·.2))) Hx sx ∧ tn i sx.heap ∧ (∀ b ∈ fp, Hx b = none) ∧ Wn i n Hx) ?_ m0 ⟨0, Hc, Id, std, nfp, w0⟩
    rintro n sx ⟨i, Hx, Ix, stx, nx, wx⟩
    rcases turn i n Hx wx with ⟨stop, qq⟩ | ⟨go, N, hNn, step⟩
    · refine thnF (T.done (X.blk sc Hc scope ce fp) rfl rfl rfl hc i [] sx _ Hx (fun _ _ => False) Ix (stat Ix nx) stx stop) ?_
      rintro r sy ⟨rfl, Iy⟩
      have Iz : Inv X pins σ Hx sy := by
        refine Ic.call' (ch := fp) Iy.os Iy.base Iy.hok Iy.bare fun b m => ?_
        obtain ⟨_, f1, _, f3, f4, f5⟩ := (fc b m).1
        exact ⟨f3, f1, f4, f5⟩
      have nC : Hx ce.locals = none := Iy.free
      obtain ⟨mm, hn, _⟩ := Iy.loc
      have hn : sy.heap.Ns ce.locals mm := hn
      rw [cL] at hn nC
      obtain ⟨f0, f1, f2, f3, f4, f5⟩ := Ic.fpOk (Nat.le_refl _) nC
      exact ⟨mm, hn, fun h2 sb2 => ⟨.ref D, Hx, Iz.turned (t' := sy.toks) (fun b o hb e => (sb2.2 b hb).trans e) f0 f1 f3 f4 f5, rfl, qq⟩⟩
    · refine thnF (T.item (X.blk sc Hc scope ce fp) rfl rfl rfl hc i [] sx _ Hx (fun _ _ => False) Ix (stat Ix nx) stx go) ?_
      rintro r sy ⟨u, rfl, hy⟩
      refine thnF hy fun _ sz ⟨x, Hz, Iz, rz, yz, stz, nz⟩ => ?_
      refine thnF (pg.run _ sz _ Hz x u _ (Iz.pinned (stat Iz nz) (T.obj _ _ stz)) rz (step x Hz yz)) fun _ s8 ⟨τ, H8, I8, w8, q8⟩ => ?_
      refine thnF (pt.run _ s8 τ H8 _ I8 q8) fun b s9 ⟨H9, I9, q9⟩ => ?_
      have fin : ∀ {se : Shared} {He : Hp}, Inv (X.blk sc Hc scope ce fp) ([] ++ pinsAt fp sz.heap) τ He se → N He → ∃ k, k < n ∧ ∃ i Hx, Inv (X.blk sc Hc scope ce fp) [] (wipe σ (own.map (·.2))) Hx se ∧ tn i se.heap ∧ (∀ b ∈ fp, Hx b = none) ∧ Wn i k Hx := fun {se He} Ie hne => by
        obtain ⟨k, hk, wk⟩ := hNn He hne
        have pin : ∀ b ∈ fp, ∀ o, sz.heap.get? b = some o → se.heap.get? b = some o ∧ He b = none := fun b m o e => by
          have z := Ie.pin (b, o) (List.mem_append_right _ (List.mem_append_right _ (mem_pinsAt m e)))
          exact ⟨z.1, z.2.1⟩
        refine ⟨k, hk, i + 1, He, (Ie.unpinned (pins := [])).weak (by rw [← w8, wipe_length]) (fun j v e => ?_), T.keep _ _ _ stz fun b m o e => (pin b m o e).1, fun b m => ?_, wk⟩
        · rw [← w8] at e
          exact (wipe_some e).1
        · obtain ⟨o, e, _⟩ := T.obj _ _ stz b m
          exact (pin b m o e).2
      cases b with
      | false =>
        rw [if_neg Bool.false_ne_true] at q9 ⊢
        exact fin I9 q9
      | true =>
        rw [if_pos rfl] at q9 ⊢
        refine thnF (pe.run _ s9 τ H9 _ I9 q9) fun v s10 ⟨yv, H10, I10, r10, q10⟩ => ?_
        exact thnF (addI (X := X.blk sc Hc scope ce fp) I10 r10 q10) fun _ s11 ⟨H11, I11, n11⟩ => fin I11 n11
  exact PpSet.codeAny_compStart_set loop (T.self X.A 0 _ _ _ std loop)
end
end DL

namespace DL
open PySem PySem.Spec PyProof.Rows L2
theorem srtI_uniq : ∀ {l m : List Int}, l.Pairwise (· < ·) → m.Pairwise (· < ·) → (∀ k, k ∈ l ↔ k ∈ m) → l = m
  | [], [], _, _, _ => rfl
  | [], y :: m, _, _, h => by cases (h y).mpr List.mem_cons_self
  | x :: l, [], _, _, h => by cases (h x).mp List.mem_cons_self
  | x :: l, y :: m, h1, h2, h => by
    obtain ⟨a1, a2⟩ := List.pairwise_cons.mp h1
    obtain ⟨b1, b2⟩ := List.pairwise_cons.mp h2
    have e : x = y := by
      rcases List.mem_cons.mp ((h x).mp List.mem_cons_self) with z | z
      · exact z
      · rcases List.mem_cons.mp ((h y).mpr List.mem_cons_self) with z2 | z2
        · exact z2.symm
        · have := b1 x z
          have := a1 y z2
          omega
    subst e
    rw [srtI_uniq a2 b2 fun k => ⟨fun hk => ?_, fun hk => ?_⟩]
    · rcases List.mem_cons.mp ((h k).mp (List.mem_cons_of_mem _ hk)) with z | z
      · have := a1 k hk
        omega
      · exact z
    · rcases List.mem_cons.mp ((h k).mpr (List.mem_cons_of_mem _ hk)) with z | z
      · have := b1 k hk
        omega
      · exact z
section
variable {X : Cx} {G : Gam} {it elt tgt : Expr} {p pos pos2 : Pos} {scope : Scope} {g : TG} {own : List (Str × Nat)}
/-- sorted({elt for tgt in a list}), elt whole numbers -/
theorem en_sortedSc {α : Type} (ms : List α) (enc : α → D) (kf : α → Int) (res : List Int) (hr1 : res.Pairwise (· < ·)) (hr2 : ∀ k, k ∈ res ↔ k ∈ ms.map kf) (he : EvD X it G (.list (ms.map enc)))
    (ht : ∀ (i : Nat) (a : α), ms[i]? = some a → Turn X scope [] elt g (own.map (·.2)) G (enc a) true (.int (kf a))) (hz : ms.length < 63) (hm : X.mg "sorted" = none) (hN : X.N.Nodup) (hc : X.calm = true) (ok : BlkOk X.N X.env.scope scope own)
    (hg : ∀ (s : Shared) (H : Hp) (C : Addr) (cl : List (Str × Addr)) (fp : List Addr), PG (X.blk s H scope (compEnvC scope cl C X.env) fp) tgt g) (hgl : Gl X "sorted" := by rfl)
    (hs : ∀ x, foldedSetIterable it X.env x = pure x := by intro _; rfl) (hse : starEach [.SetComp elt [⟨tgt, it, [], 0⟩] scope pos] X.env = (false, eval (.SetComp elt [⟨tgt, it, [], 0⟩] scope pos) X.env) :: starEach [] X.env := by rfl)
    (hpl : (backTo pos2 (starEach [] X.env)).any (·.1) = false := by rfl) : EvN X (.Call (.Name "sorted" p) [.SetComp elt [⟨tgt, it, [], 0⟩] scope pos] [] pos2) G (res.map .int) := fun H0 S H σ o i Q q => by
  refine we (pe_callB (cr_sortedSet hc) hgl hm (by decide +kernel) (pa_cons (pe_scI (own := own) (g := g) (tt := tYes) (te := TEb X scope elt) hc hN (pi_list pe_w) ok hg (fun _ _ _ _ _ => pts_nil)
    (fun s H0 C cl fp => ⟨fun pins s1 σ H Q I h => h s H0 C cl fp pins s1 I⟩) hs) pa_nil hse) (by decide) (by decide) hse hpl) (he H0 S H σ o i _ fun v S1 H1 x1 d1 => ?_)
  cases d1 with
  | lst hq ha =>
    rename_i ad vs
    have hvl := DpAll.len ha
    rw [List.length_map] at hvl
    refine ⟨ad, rfl, ⟨vs, x1.i.sqL hq⟩, fun L hL => ⟨fun i m Ha => m = ms.length - i ∧ i ≤ ms.length ∧ ∃ (S' : Hp) (F : Int → Bool) (n : Nat), Ext S1 H1 S' Ha ∧ S' L = none ∧ Ha L = some (SetO X.w L F n) ∧ n ≤ i ∧ ∀ k, F k = true ↔ k ∈ (ms.take i).map kf, ⟨ms.length, ?_⟩, ?_⟩⟩
    · refine ⟨by omega, Nat.zero_le _, S1, _, 0, (Ext.refl x1.i).own hL (x1.i.none hL), x1.i.none hL, upd_same, Nat.le_refl _, fun k => ?_⟩
      rw [List.take_zero]
      exact ⟨fun z => (by cases z), fun z => (by cases z)⟩
    · rintro i m Ha ⟨rfl, hi, S', F, n, y, n1, h1, hn, hF⟩
      have sq : SqL X.K Ha ad vs := y.i.sqL (y.s.sqL hq)
      by_cases hlt : i < ms.length
      · have hmi : ms[i]? = some ms[i] := List.getElem?_eq_getElem hlt
        have hv : vs[i]? = some vs[i] := List.getElem?_eq_getElem (by omega)
        refine .inr ⟨⟨vs, vs[i], sq, hv⟩, fun Hb => i + 1 ≤ ms.length ∧ ∃ (S' : Hp) (F : Int → Bool) (n : Nat), Ext S1 H1 S' Hb ∧ S' L = none ∧ Hb L = some (SetO X.w L F n) ∧ n ≤ i + 1 ∧ ∀ k, F k = true ↔ k ∈ (ms.take (i + 1)).map kf, fun Hb hb => ⟨ms.length - (i + 1), by omega, rfl, hb.1, hb.2⟩, fun x Hb yl => ?_⟩
        obtain ⟨rfl, yl⟩ := yl
        have hx := yl vs sq
        obtain ⟨dd, g1, g2⟩ := DpAll.getV ha hx
        rw [List.getElem?_map, hmi] at g1
        have e := Option.some.inj g1
        subst e
        obtain ⟨is, G', t1, t2, _, t4⟩ := ht i _ hmi
        have o1 := (o.ext x1).ext y
        refine t1 H0 S' Hb _ x (o1.wiped (own.map (·.2))) y.i (y.s.dp g2) _ fun τ oτ wτ => ⟨(wτ _ t2).trans (wipe_wipe σ _), ?_⟩
        unfold tYes
        dsimp only
        rw [if_pos rfl]
        intro s2 H02 C cl fp
        refine t4 rfl s2 H02 C cl fp H0 S' Hb τ oτ y.i _ fun v2 S4 H4 x4 d4 => ?_
        cases d4
        have n4 : S4 L = none := x4.n L n1 (by rw [h1]; exact fun z => nomatch z)
        have h4 : H4 L = some (SetO X.w L F n) := x4.h _ _ h1
        refine ⟨kf ms[i], F, n, rfl, h4, by unfold scanBound; omega, hlt, S4, fun j => F j || decide (j = kf ms[i]), if F (kf ms[i]) = true then n else n + 1, (y.trans x4).own hL n4, n4, upd_same, by split <;> omega, fun k => ?_⟩
        rw [List.take_add_one, hmi, List.map_append, List.mem_append, Bool.or_eq_true, hF k, decide_eq_true_eq]
        exact ⟨fun z => z.imp id fun e => by rw [e]; exact List.mem_cons_self, fun z => z.imp id fun e => List.mem_singleton.mp e⟩
      · have e : i = ms.length := by omega
        subst e
        rw [List.take_length] at hF
        refine .inl ⟨⟨vs, sq, by omega⟩, L, F, n, rfl, h1, by omega, fun ns pp h2 h3 h5 hp => ?_⟩
        have e2 : ns = res := srtI_uniq h2 hr1 fun k => by rw [h3, hF, hr2]
        subst e2
        exact q pp _ S' _ ((x1.trans y).own (x1.h.none (y.h.none hp)) (y.i.none hp)) (x1.h.none (y.h.none hp)) (y.i.none hp) upd_same (dpAll_ints ns)
end
end DL

/-! Numbers over one bottom; the extremes of a quadratic. -/
namespace MT
open PySem L2 DL
def cbQ (l : List Rat) : Nat := l.foldl (fun b q => Nat.lcm b q.den) 1
def topQ (B : Nat) (q : Rat) : Int := q.num * ((B / q.den : Nat) : Int)
theorem cb_dvd : ∀ (l : List Rat) (b : Nat), b ∣ l.foldl (fun b q => Nat.lcm b q.den) b ∧ ∀ q ∈ l, q.den ∣ l.foldl (fun b q => Nat.lcm b q.den) b
  | [], b => ⟨Nat.dvd_refl _, fun q h => by cases h⟩
  | x :: r, b => by
    obtain ⟨h1, h2⟩ := cb_dvd r (Nat.lcm b x.den)
    refine ⟨Nat.dvd_trans (Nat.dvd_lcm_left _ _) h1, fun q hq => ?_⟩
    rcases List.mem_cons.mp hq with z | z
    · rw [z]
      exact Nat.dvd_trans (Nat.dvd_lcm_right _ _) h1
    · exact h2 q z
theorem cb_pos : ∀ (l : List Rat) (b : Nat), 0 < b → 0 < l.foldl (fun b q => Nat.lcm b q.den) b
  | [], _, h => h
  | x :: r, b, h => cb_pos r _ (Nat.lcm_pos h x.den_pos)
theorem lcm_le (a b : Nat) (h : 0 < a) (h2 : 0 < b) : Nat.lcm a b ≤ a * b := Nat.le_of_dvd (Nat.mul_pos h h2) (Nat.lcm_dvd (Nat.dvd_mul_right _ _) (Nat.dvd_mul_left _ _))
theorem cb_sz {n : Nat} : ∀ (l : List Rat) (b m : Nat), 0 < b → b < 2 ^ m → (∀ q ∈ l, Bq n q) → l.foldl (fun b q => Nat.lcm b q.den) b < 2 ^ (m + n * l.length)
  | [], _, _, _, h, _ => h
  | x :: r, b, m, h0, h, hs => by
    have hx := hs x List.mem_cons_self
    have e : n * (x :: r).length = n * r.length + n := by rw [List.length_cons, Nat.mul_succ]
    have h1 : Nat.lcm b x.den < 2 ^ (m + n) := Nat.lt_of_le_of_lt (lcm_le b x.den h0 x.den_pos) (pow_lt h hx.2)
    have h2 := cb_sz r (Nat.lcm b x.den) (m + n) (Nat.lcm_pos h0 x.den_pos) h1 fun q hq => hs q (List.mem_cons_of_mem _ hq)
    rw [e, show m + (n * r.length + n) = m + n + n * r.length by omega]
    exact h2
theorem top_back {B : Nat} {q : Rat} (h : q.den ∣ B) (hB : 0 < B) : Rat.divInt (topQ B q) (B : Int) = q := by
  obtain ⟨k, rfl⟩ := h
  have hd := q.den_pos
  have e : q.den * k / q.den = k := Nat.mul_div_cancel_left _ hd
  have hk : 0 < k := Nat.pos_of_mul_pos_left hB
  unfold topQ
  rw [e, Int.natCast_mul, Rat.divInt_mul_right (by omega)]
  exact Rat.num_divInt_den q
theorem top_lt {B : Nat} {q r : Rat} (hq : q.den ∣ B) (hr : r.den ∣ B) (hB : 0 < B) (h : q < r) : topQ B q < topQ B r := by
  obtain ⟨k, hk⟩ := hq
  obtain ⟨m, hm⟩ := hr
  have e1 : B / q.den = k := by rw [hk]; exact Nat.mul_div_cancel_left _ q.den_pos
  have e2 : B / r.den = m := by rw [hm]; exact Nat.mul_div_cancel_left _ r.den_pos
  have h' := (Rat.lt_iff q r).mp h
  unfold topQ
  rw [e1, e2]
  apply Int.lt_of_not_ge
  intro z
  have d1 : (0 : Int) < (q.den : Int) := by have := q.den_pos; omega
  have d2 : (0 : Int) < (r.den : Int) := by have := r.den_pos; omega
  have hB' : (0 : Int) < (B : Int) := by omega
  have k1 : (B : Int) = (q.den : Int) * (k : Int) := by rw [hk]; exact Int.natCast_mul _ _
  have k2 : (B : Int) = (r.den : Int) * (m : Int) := by rw [hm]; exact Int.natCast_mul _ _
  have z1 := Int.mul_le_mul_of_nonneg_right z (Int.le_of_lt (Int.mul_pos d1 d2))
  have z2 : r.num * (q.den : Int) * (B : Int) ≤ q.num * (r.den : Int) * (B : Int) := by
    have a1 : r.num * (m : Int) * ((q.den : Int) * (r.den : Int)) = r.num * (q.den : Int) * (B : Int) := by rw [k2]; grind
    have a2 : q.num * (k : Int) * ((q.den : Int) * (r.den : Int)) = q.num * (r.den : Int) * (B : Int) := by rw [k1]; grind
    rw [← a1, ← a2]
    exact z1
  have z3 := Int.le_of_mul_le_mul_right z2 hB'
  omega
theorem sortQ_iff {l : List Rat} {x : Rat} : x ∈ sortQ l ↔ x ∈ l := ⟨sortQ_mem, sortQ_all⟩
theorem tops_srt {l : List Rat} : ((sortQ l).map (topQ (cbQ l))).Pairwise (· < ·) := by
  have hB := cb_pos l 1 (by decide)
  have hd := (cb_dvd l 1).2
  have h := sortQ_srt l
  rw [List.pairwise_map]
  refine h.imp_of_mem fun {a b} ha hb hab => ?_
  exact top_lt (hd a (sortQ_mem ha)) (hd b (sortQ_mem hb)) hB hab
theorem tops_mem {l : List Rat} (k : Int) : k ∈ (sortQ l).map (topQ (cbQ l)) ↔ k ∈ l.map (topQ (cbQ l)) := by
  constructor
  · intro h
    obtain ⟨x, hx, rfl⟩ := List.mem_map.mp h
    exact List.mem_map_of_mem (sortQ_mem hx)
  · intro h
    obtain ⟨x, hx, rfl⟩ := List.mem_map.mp h
    exact List.mem_map_of_mem (sortQ_all hx)
/-! a quadratic between two places -/
def Qd (a b c t : Rat) : Rat := a + t * (b + c * t)
/-- the turn -/
theorem quad_low {a b c l r x : Rat} (h1 : l ≤ x) (h2 : x ≤ r) : Qd a b c l ≤ Qd a b c x ∨ Qd a b c r ≤ Qd a b c x ∨ (c ≠ 0 ∧ ∃ t, l < t ∧ t < r ∧ t * (-2 * c) = b ∧ Qd a b c t ≤ Qd a b c x) := by
  have el : Qd a b c x - Qd a b c l = (x - l) * (b + c * (x + l)) := by unfold Qd; grind
  have er : Qd a b c x - Qd a b c r = (r - x) * (-(b + c * (x + r))) := by unfold Qd; grind
  have pl : 0 ≤ b + c * (x + l) → Qd a b c l ≤ Qd a b c x := fun h => by
    have := Rat.mul_nonneg (show 0 ≤ x - l by grind) h
    grind
  have pr : 0 ≤ -(b + c * (x + r)) → Qd a b c r ≤ Qd a b c x := fun h => by
    have := Rat.mul_nonneg (show 0 ≤ r - x by grind) h
    grind
  by_cases h3 : 0 ≤ b + c * (x + l)
  · exact .inl (pl h3)
  · by_cases h4 : 0 ≤ -(b + c * (x + r))
    · exact .inr (.inl (pr h4))
    · -- b + c (x + l) < 0 < b + c (x + r): c > 0
      right
      right
      have cp : 0 < c := by
        apply Classical.byContradiction
        intro z
        have h5 : 0 ≤ (-c) * (r - l) := Rat.mul_nonneg (by grind) (by grind)
        grind
      have c0 : c ≠ 0 := fun z => by rw [z] at cp; exact absurd cp (by decide)
      have n2 : -2 * c ≠ 0 := fun z => c0 (by grind)
      refine ⟨c0, b / (-2 * c), ?_, ?_, Rat.div_mul_cancel n2, ?_⟩
      all_goals
        have ht : b / (-2 * c) * (-2 * c) = b := Rat.div_mul_cancel n2
        generalize b / (-2 * c) = t at ht
      · apply Classical.byContradiction
        intro z
        have h5 : 0 ≤ c * (x - l) := Rat.mul_nonneg (by grind) (by grind)
        have h6 : 0 ≤ c * (l - t) := Rat.mul_nonneg (by grind) (by grind)
        have e : b + c * (x + l) = c * (x - l) + 2 * (c * (l - t)) := by rw [← ht]; grind
        rw [e] at h3
        exact h3 (by grind)
      · apply Classical.byContradiction
        intro z
        have h5 : 0 ≤ c * (r - x) := Rat.mul_nonneg (by grind) (by grind)
        have h6 : 0 ≤ c * (t - r) := Rat.mul_nonneg (by grind) (by grind)
        have e : -(b + c * (x + r)) = c * (r - x) + 2 * (c * (t - r)) := by rw [← ht]; grind
        rw [e] at h4
        exact h4 (by grind)
      · have h5 : 0 ≤ (x - t) * (x - t) := by
          by_cases z : 0 ≤ x - t
          · exact Rat.mul_nonneg z z
          · have := Rat.mul_nonneg (show 0 ≤ t - x by grind) (show 0 ≤ t - x by grind)
            grind
        have h6 := Rat.mul_nonneg (show 0 ≤ c by grind) h5
        have e : Qd a b c x - Qd a b c t = c * ((x - t) * (x - t)) := by
          unfold Qd
          rw [← ht]
          grind
        grind
theorem quad_high {a b c l r x : Rat} (h1 : l ≤ x) (h2 : x ≤ r) : Qd a b c x ≤ Qd a b c l ∨ Qd a b c x ≤ Qd a b c r ∨ (c ≠ 0 ∧ ∃ t, l < t ∧ t < r ∧ t * (-2 * c) = b ∧ Qd a b c x ≤ Qd a b c t) := by
  have neg : ∀ t, Qd (-a) (-b) (-c) t = -Qd a b c t := fun t => by unfold Qd; grind
  rcases quad_low (a := -a) (b := -b) (c := -c) h1 h2 with h | h | ⟨h0, t, h3, h4, h5, h6⟩
  · rw [neg, neg] at h
    exact .inl (by grind)
  · rw [neg, neg] at h
    exact .inr (.inl (by grind))
  · rw [neg, neg] at h6
    refine .inr (.inr ⟨fun z => h0 (by rw [z]; rfl), t, h3, h4, by grind, by grind⟩)
end MT

/-! Where a track's values are least and greatest. -/
namespace MT
open PySem L2 DL
def pc0 : Pc := ⟨0, 0, 0, 0⟩
/-- where a piece that begins at s turns -/
def t1Q (s : Rat) (p : Pc) : List Rat := if p.c = 0 then [] else if 0 < p.b / (-2 * p.c) ∧ p.b / (-2 * p.c) < p.len then [s + p.b / (-2 * p.c)] else []
def tnQ (tr : List Pc) (n : Nat) : List Rat := (List.range n).flatMap fun i => t1Q ((jnt 0 tr).getD i 0) (tr.getD i pc0)
theorem tnQ_succ {tr : List Pc} {n : Nat} : tnQ tr (n + 1) = tnQ tr n ++ t1Q ((jnt 0 tr).getD n 0) (tr.getD n pc0) := by
  unfold tnQ
  rw [List.range_succ, List.flatMap_append, List.flatMap_cons, List.flatMap_nil, List.append_nil]
theorem t1Q_len {s : Rat} {p : Pc} : (t1Q s p).length ≤ 1 := by
  unfold t1Q
  split
  · exact Nat.zero_le _
  · split
    · exact Nat.le_refl _
    · exact Nat.zero_le _
theorem tnQ_len {tr : List Pc} : ∀ n, (tnQ tr n).length ≤ n
  | 0 => Nat.le_refl _
  | n + 1 => by
    rw [tnQ_succ, List.length_append]
    exact Nat.add_le_add (tnQ_len n) t1Q_len
theorem tnQ_mem {tr : List Pc} {n : Nat} {x : Rat} (h : x ∈ tnQ tr n) : ∃ i < n, x ∈ t1Q ((jnt 0 tr).getD i 0) (tr.getD i pc0) := by
  obtain ⟨i, hi, hx⟩ := List.mem_flatMap.mp h
  exact ⟨i, List.mem_range.mp hi, hx⟩
theorem mem_tnQ {tr : List Pc} {n i : Nat} {x : Rat} (hi : i < n) (h : x ∈ t1Q ((jnt 0 tr).getD i 0) (tr.getD i pc0)) : x ∈ tnQ tr n := List.mem_flatMap.mpr ⟨i, List.mem_range.mpr hi, h⟩
theorem valF_at : ∀ {tr : List Pc} {s x u : Rat} {i : Nat} {p : Pc}, Ctg tr → (∀ q ∈ tr, 0 < q.len) → (jnt s tr)[i]? = some u → tr[i]? = some p → u ≤ x → x ≤ u + p.len → valF s tr x = p.val (x - u)
  | [], _, _, _, _, _, _, _, _, h, _, _ => by cases h
  | q :: r, s, x, u, 0, p, _, _, hu, hp, h1, h2 => by
    cases Option.some.inj hu
    cases Option.some.inj hp
    have e : valF s (q :: r) x = if ¬ s + q.len < x ∨ r = [] then q.val (x - s) else valF (s + q.len) r x := rfl
    rw [e, if_pos (.inl (by grind))]
  | q :: r, s, x, u, i + 1, p, hc, hl, hu, hp, h1, h2 => by
    have e : valF s (q :: r) x = if ¬ s + q.len < x ∨ r = [] then q.val (x - s) else valF (s + q.len) r x := rfl
    have hr : ∀ y ∈ r, 0 < y.len := fun y hy => hl y (List.mem_cons_of_mem _ hy)
    have ih := valF_at (tr := r) (s := s + q.len) (x := x) (u := u) (i := i) (p := p) hc.2 hr hu hp h1 h2
    have hle := (jnt_le hr (List.mem_of_getElem? (show (jnt (s + q.len) r)[i]? = some u from hu))).1
    have hn : r ≠ [] := fun z => by
      rw [z] at hp
      cases hp
    rw [e]
    by_cases c : s + q.len < x
    · rw [if_neg (by rintro (z | z); exact z c; exact hn z)]
      exact ih
    · rw [if_pos (.inl c), ← ih]
      have ex : x = s + q.len := by grind
      match r, hn, hc, hr with
      | y :: r', _, hc, hr =>
        have hy := hr y List.mem_cons_self
        have e2 : valF (s + q.len) (y :: r') x = if ¬ s + q.len + y.len < x ∨ r' = [] then y.val (x - (s + q.len)) else valF (s + q.len + y.len) r' x := rfl
        rw [e2, if_pos (.inl (by grind)), ex]
        have ha := hc.1 y rfl
        have e3 : y.val (s + q.len - (s + q.len)) = y.a := by
          unfold Pc.val
          grind
        rw [e3, ha]
        congr 1
        grind
theorem jnt_loc : ∀ {tr : List Pc} {s x : Rat}, tr ≠ [] → s ≤ x → x ≤ endQ s tr → ∃ (i : Nat) (u : Rat) (p : Pc), (jnt s tr)[i]? = some u ∧ tr[i]? = some p ∧ u ≤ x ∧ x ≤ u + p.len
  | [], _, _, h, _, _ => absurd rfl h
  | q :: r, s, x, _, h1, h2 => by
    have h2' : x ≤ endQ (s + q.len) r := h2
    by_cases c : x ≤ s + q.len
    · exact ⟨0, s, q, rfl, rfl, h1, c⟩
    · have hn : r ≠ [] := fun z => by
        rw [z] at h2'
        exact c h2'
      obtain ⟨i, u, p, a1, a2, a3, a4⟩ := jnt_loc (tr := r) (s := s + q.len) hn (by grind) h2'
      exact ⟨i + 1, u, p, a1, a2, a3, a4⟩
def btwQ (l : List Rat) (u v : Rat) : List Rat := l.filter fun q => decide (u < q) && decide (q < v)
theorem btwQ_iff {l : List Rat} {u v x : Rat} : x ∈ btwQ l u v ↔ x ∈ l ∧ u < x ∧ x < v := by
  unfold btwQ
  rw [List.mem_filter, Bool.and_eq_true, decide_eq_true_iff, decide_eq_true_iff]
/-- the positions at which the program looks -/
def posQ (tr : List Pc) (u v : Rat) : List Rat := u :: (btwQ (jnt 0 tr ++ tnQ tr tr.length) u v ++ [v])
theorem posQ_in {tr : List Pc} {u v x : Rat} (h : u ≤ v) (hx : x ∈ posQ tr u v) : u ≤ x ∧ x ≤ v := by
  rcases List.mem_cons.mp hx with z | z
  · rw [z]
    exact ⟨Rat.le_refl, h⟩
  · rcases List.mem_append.mp z with z | z
    · have := btwQ_iff.mp z
      exact ⟨Rat.le_of_lt this.2.1, Rat.le_of_lt this.2.2⟩
    · rw [List.mem_singleton.mp z]
      exact ⟨h, Rat.le_refl⟩
theorem posQ_len {tr : List Pc} {u v : Rat} : (posQ tr u v).length ≤ 2 * tr.length + 3 := by
  have h1 := List.length_filter_le (fun q => decide (u < q) && decide (q < v)) (jnt 0 tr ++ tnQ tr tr.length)
  have h2 := tnQ_len (tr := tr) tr.length
  have h3 := jnt_len 0 tr
  rw [List.length_append] at h1
  show (btwQ _ _ _ ++ [v]).length + 1 ≤ _
  rw [List.length_append]
  show (btwQ _ _ _).length + 1 + 1 ≤ _
  have e : (btwQ (jnt 0 tr ++ tnQ tr tr.length) u v).length = (List.filter (fun q => decide (u < q) && decide (q < v)) (jnt 0 tr ++ tnQ tr tr.length)).length := rfl
  omega
theorem lo_mem {l : List Rat} {u v w : Rat} (hw : w ∈ l) (hv : w ≤ v) (huv : u ≤ v) {q : List Rat} (hq : ∀ y, y = u ∨ y = v ∨ y ∈ btwQ l u v → y ∈ q) : max u w ∈ q := by
  by_cases c : u < w
  · have e : max u w = w := by grind
    rw [e]
    by_cases c2 : w < v
    · exact hq w (.inr (.inr (btwQ_iff.mpr ⟨hw, c, c2⟩)))
    · exact hq w (.inr (.inl (by grind)))
  · have e : max u w = u := by grind
    rw [e]
    exact hq u (.inl rfl)
theorem hi_mem {l : List Rat} {u v w : Rat} (hw : w ∈ l) (hv : u ≤ w) (huv : u ≤ v) {q : List Rat} (hq : ∀ y, y = u ∨ y = v ∨ y ∈ btwQ l u v → y ∈ q) : min v w ∈ q := by
  by_cases c : w < v
  · have e : min v w = w := by grind
    rw [e]
    by_cases c2 : u < w
    · exact hq w (.inr (.inr (btwQ_iff.mpr ⟨hw, c2, c⟩)))
    · exact hq w (.inl (by grind))
  · have e : min v w = v := by grind
    rw [e]
    exact hq v (.inr (.inl rfl))
theorem posQ_has {tr : List Pc} {u v : Rat} : ∀ y, y = u ∨ y = v ∨ y ∈ btwQ (jnt 0 tr ++ tnQ tr tr.length) u v → y ∈ posQ tr u v := by
  rintro y (rfl | rfl | h)
  · exact List.mem_cons_self
  · exact List.mem_cons_of_mem _ (List.mem_append_right _ (List.mem_singleton.mpr rfl))
  · exact List.mem_cons_of_mem _ (List.mem_append_left _ h)
/-- both bounds at once: a value between is at least one, and at most one, of those at the positions -/
theorem ext_both {tr : List Pc} {u v x : Rat} (hne : tr ≠ []) (hc : Ctg tr) (hl : ∀ q ∈ tr, 0 < q.len) (h0 : 0 ≤ u) (hv : v ≤ endQ 0 tr) (hux : u ≤ x) (hxv : x ≤ v) :
    (∃ y ∈ posQ tr u v, valF 0 tr y ≤ valF 0 tr x) ∧ ∃ y ∈ posQ tr u v, valF 0 tr x ≤ valF 0 tr y := by
  obtain ⟨i, w, p, hw, hp, h1, h2⟩ := jnt_loc (tr := tr) (s := 0) (x := x) hne (by grind) (by grind)
  have hw1 := jnt_succ hw hp
  have il : i < tr.length := (List.getElem?_eq_some_iff.mp hp).1
  have hpl := hl p (List.mem_of_getElem? hp)
  have huv : u ≤ v := by grind
  have at_ : ∀ y, w ≤ y → y ≤ w + p.len → valF 0 tr y = Qd p.a p.b p.c (y - w) := fun y a b => valF_at hc hl hw hp a b
  have lm : max u w ∈ posQ tr u v := lo_mem (List.mem_append_left _ (List.mem_of_getElem? hw)) (by grind) huv posQ_has
  have rm : min v (w + p.len) ∈ posQ tr u v := hi_mem (List.mem_append_left _ (List.mem_of_getElem? hw1)) (by grind) huv posQ_has
  have l1 : w ≤ max u w ∧ max u w ≤ x ∧ u ≤ max u w := by grind
  have r1 : x ≤ min v (w + p.len) ∧ min v (w + p.len) ≤ w + p.len ∧ min v (w + p.len) ≤ v := by grind
  generalize max u w = l at lm l1
  generalize min v (w + p.len) = r at rm r1
  have el := at_ l l1.1 (by grind)
  have er := at_ r (by grind) r1.2.1
  have ex := at_ x h1 h2
  have turn : ∀ t, p.c ≠ 0 → l - w < t → t < r - w → t * (-2 * p.c) = p.b → w + t ∈ posQ tr u v ∧ valF 0 tr (w + t) = Qd p.a p.b p.c t := fun t c0 t1 t2 t3 => by
    have n2 : -2 * p.c ≠ 0 := fun z => c0 (by grind)
    have et : p.b / (-2 * p.c) = t := by
      rw [← t3]
      exact Rat.mul_div_cancel n2
    have hm : w + t ∈ tnQ tr tr.length := by
      refine mem_tnQ il ?_
      rw [List.getD_eq_getElem?_getD, List.getD_eq_getElem?_getD, hw, hp]
      show w + t ∈ t1Q w p
      unfold t1Q
      rw [if_neg c0, et, if_pos ⟨by grind, by grind⟩]
      exact List.mem_singleton.mpr rfl
    refine ⟨posQ_has _ (.inr (.inr (btwQ_iff.mpr ⟨List.mem_append_right _ hm, by grind, by grind⟩))), ?_⟩
    rw [at_ (w + t) (by grind) (by grind), show w + t - w = t by grind]
  constructor
  · rcases quad_low (a := p.a) (b := p.b) (c := p.c) (l := l - w) (r := r - w) (x := x - w) (by grind) (by grind) with h | h | ⟨c0, t, t1, t2, t3, h⟩
    · exact ⟨l, lm, by rw [el, ex]; exact h⟩
    · exact ⟨r, rm, by rw [er, ex]; exact h⟩
    · obtain ⟨m1, m2⟩ := turn t c0 t1 t2 t3
      exact ⟨w + t, m1, by rw [m2, ex]; exact h⟩
  · rcases quad_high (a := p.a) (b := p.b) (c := p.c) (l := l - w) (r := r - w) (x := x - w) (by grind) (by grind) with h | h | ⟨c0, t, t1, t2, t3, h⟩
    · exact ⟨l, lm, by rw [el, ex]; exact h⟩
    · exact ⟨r, rm, by rw [er, ex]; exact h⟩
    · obtain ⟨m1, m2⟩ := turn t c0 t1 t2 t3
      exact ⟨w + t, m1, by rw [m2, ex]; exact h⟩
/-! the law's candidates -/
def innQ (s : Rat) (p : Pc) : List Rat := if p.c = 0 then [s] else [s, s - p.b / (2 * p.c)]
def c1Q (s e u v : Rat) (p : Pc) : List Rat := (innQ s p).filter fun q => (!decide (q < s) && !decide (e < q)) && (!decide (q < u) && !decide (v < q))
def canQ (tr : List Pc) (u v : Rat) (n : Nat) : List Rat := [u, v] ++ (List.range n).flatMap fun i => c1Q ((jnt 0 tr).getD i 0) ((jnt 0 tr).getD (i + 1) 0) u v (tr.getD i pc0)
theorem canQ_succ {tr : List Pc} {u v : Rat} {n : Nat} : canQ tr u v (n + 1) = canQ tr u v n ++ c1Q ((jnt 0 tr).getD n 0) ((jnt 0 tr).getD (n + 1) 0) u v (tr.getD n pc0) := by
  unfold canQ
  rw [List.range_succ, List.flatMap_append, List.flatMap_cons, List.flatMap_nil, List.append_nil, ← List.append_assoc]
theorem c1Q_len {s e u v : Rat} {p : Pc} : (c1Q s e u v p).length ≤ 2 := by
  refine Nat.le_trans (List.length_filter_le _ _) ?_
  unfold innQ
  split
  · exact Nat.le_succ _
  · exact Nat.le_refl _
theorem canQ_len {tr : List Pc} {u v : Rat} : ∀ n, (canQ tr u v n).length ≤ 2 + 2 * n
  | 0 => Nat.le_refl _
  | n + 1 => by
    rw [canQ_succ, List.length_append]
    have h1 := canQ_len (tr := tr) (u := u) (v := v) n
    have h2 := c1Q_len (s := (jnt 0 tr).getD n 0) (e := (jnt 0 tr).getD (n + 1) 0) (u := u) (v := v) (p := tr.getD n pc0)
    omega
theorem canQ_in {tr : List Pc} {u v x : Rat} {n : Nat} (h : u ≤ v) (hx : x ∈ canQ tr u v n) : u ≤ x ∧ x ≤ v := by
  rcases List.mem_append.mp hx with z | z
  · rcases List.mem_cons.mp z with z | z
    · rw [z]
      exact ⟨Rat.le_refl, h⟩
    · rw [List.mem_singleton.mp z]
      exact ⟨h, Rat.le_refl⟩
  · obtain ⟨i, _, hx⟩ := List.mem_flatMap.mp z
    have h2 := (List.mem_filter.mp hx).2
    rw [Bool.and_eq_true, Bool.and_eq_true, Bool.and_eq_true] at h2
    simp only [Bool.not_eq_true', decide_eq_false_iff_not] at h2
    exact ⟨by grind, by grind⟩
theorem pos_can {tr : List Pc} {u v x : Rat} (hl : ∀ q ∈ tr, 0 < q.len) (huv : u ≤ v) (hv : v ≤ endQ 0 tr) (hx : x ∈ posQ tr u v) : x ∈ canQ tr u v tr.length := by
  rcases List.mem_cons.mp hx with z | z
  · rw [z]
    exact List.mem_append_left _ List.mem_cons_self
  · rcases List.mem_append.mp z with z | z
    · obtain ⟨hm, h1, h2⟩ := btwQ_iff.mp z
      refine List.mem_append_right _ (List.mem_flatMap.mpr ?_)
      rcases List.mem_append.mp hm with y | y
      · obtain ⟨i, il, e⟩ := List.getElem_of_mem y
        have hj := jnt_len 0 tr
        by_cases c : i < tr.length
        · have hp : tr[i]? = some tr[i] := List.getElem?_eq_getElem c
          have hw : (jnt 0 tr)[i]? = some x := by rw [List.getElem?_eq_getElem il, e]
          have hw1 := jnt_succ hw hp
          have lp := hl _ (List.getElem_mem c)
          refine ⟨i, List.mem_range.mpr c, ?_⟩
          rw [List.getD_eq_getElem?_getD, List.getD_eq_getElem?_getD, List.getD_eq_getElem?_getD, hw, hp, hw1]
          refine List.mem_filter.mpr ⟨?_, ?_⟩
          · show x ∈ innQ x tr[i]
            unfold innQ
            split <;> exact List.mem_cons_self
          · show ((!decide (x < x) && !decide (x + tr[i].len < x)) && (!decide (x < u) && !decide (v < x))) = true
            rw [decide_eq_false (by grind), decide_eq_false (by grind), decide_eq_false (by grind), decide_eq_false (by grind)]
            rfl
        · have ei : i = (jnt 0 tr).length - 1 := by omega
          have hla := jnt_last tr 0
          rw [← ei, List.getElem?_eq_getElem il, e] at hla
          have := Option.some.inj hla
          grind
      · obtain ⟨i, c, ht⟩ := tnQ_mem y
        have hp : tr[i]? = some tr[i] := List.getElem?_eq_getElem c
        have hj := jnt_len 0 tr
        have hw : (jnt 0 tr)[i]? = some (jnt 0 tr)[i] := List.getElem?_eq_getElem (by omega)
        have hw1 := jnt_succ hw hp
        refine ⟨i, List.mem_range.mpr c, ?_⟩
        rw [List.getD_eq_getElem?_getD, List.getD_eq_getElem?_getD, hw, hp] at ht
        rw [List.getD_eq_getElem?_getD, List.getD_eq_getElem?_getD, List.getD_eq_getElem?_getD, hw, hp, hw1]
        have ht' : x ∈ t1Q (jnt 0 tr)[i] tr[i] := ht
        show x ∈ c1Q (jnt 0 tr)[i] ((jnt 0 tr)[i] + tr[i].len) u v tr[i]
        generalize (jnt 0 tr)[i] = w at ht'
        generalize tr[i] = p at ht'
        unfold t1Q at ht'
        by_cases c0 : p.c = 0
        · rw [if_pos c0] at ht'
          cases ht'
        · rw [if_neg c0] at ht'
          by_cases c1 : 0 < p.b / (-2 * p.c) ∧ p.b / (-2 * p.c) < p.len
          · rw [if_pos c1] at ht'
            have ex := List.mem_singleton.mp ht'
            have e2 : p.b / (-2 * p.c) = -(p.b / (2 * p.c)) := by
              have n2 : -2 * p.c ≠ 0 := fun z => c0 (by grind)
              have n3 : 2 * p.c ≠ 0 := fun z => c0 (by grind)
              have a1 : p.b / (-2 * p.c) * (-2 * p.c) = p.b := Rat.div_mul_cancel n2
              have a2 : p.b / (2 * p.c) * (2 * p.c) = p.b := Rat.div_mul_cancel n3
              generalize p.b / (-2 * p.c) = s at a1
              generalize p.b / (2 * p.c) = t at a2
              have a3 : (s + t) * (2 * p.c) = 0 := by grind
              rcases Rat.mul_eq_zero.mp a3 with z | z
              · grind
              · exact absurd z n3
            refine List.mem_filter.mpr ⟨?_, ?_⟩
            · unfold innQ
              rw [if_neg c0, ex, e2]
              refine List.mem_cons_of_mem _ (List.mem_singleton.mpr ?_)
              grind
            · show ((!decide (x < w) && !decide (w + p.len < x)) && (!decide (x < u) && !decide (v < x))) = true
              rw [decide_eq_false (by grind), decide_eq_false (by grind), decide_eq_false (by grind), decide_eq_false (by grind)]
              rfl
          · rw [if_neg c1] at ht'
            cases ht'
    · rw [List.mem_singleton.mp z]
      exact List.mem_append_left _ (List.mem_cons_of_mem _ List.mem_cons_self)
end MT

/-! math.lcm; [a, *xs, b]. -/
namespace DL
open PySem PySem.Spec PyProof.Rows L2
theorem lcm1 (i : Nat) : Nat.lcm 1 i = i := by simp [Nat.lcm]
section
variable {X : Cx} {G : Gam} {e a b : Expr} {es : List Expr} {d : D} {ds dt : List D} {p pos : Pos} {x : Str} {i j : Nat}
def rLcm : List V → Hp → VK → Prop := fun vs H Q => ∃ i j : Nat, vs = [.int (i : Int), .int (j : Int)] ∧ i < 2 ^ 13000 ∧ j < 2 ^ 13000 ∧ Q (.int ((Nat.lcm i j : Nat) : Int)) H
theorem lcm_room {i j : Nat} (h1 : i < 2 ^ 13000) (h2 : j < 2 ^ 13000) : Nat.lcm i j < 2 ^ 26000 := by
  have h3 : i * j < 2 ^ (13000 + 13000) := by
    rw [Nat.pow_add]
    exact Nat.mul_lt_mul'' h1 h2
  by_cases hi : i = 0
  · subst hi
    rw [Nat.lcm_zero_left]
    exact Nat.two_pow_pos _
  · by_cases hj : j = 0
    · subst hj
      rw [Nat.lcm_zero_right]
      exact Nat.two_pow_pos _
    · exact Nat.lt_of_le_of_lt (Nat.le_of_dvd (Nat.mul_pos (by omega) (by omega)) (Nat.lcm_dvd (Nat.dvd_mul_right _ _) (Nat.dvd_mul_left _ _))) h3
theorem cr_lcm : CallR X (.builtin "math.lcm") rLcm := by
  rintro pins s σ H vs us Q I r ⟨i, j, rfl, h1, h2, q⟩
  obtain ⟨t, u, rfl⟩ := Vals.int2 r
  have l0 : ∀ {n k : Nat}, n < 2 ^ (k + 1) → n.log2 ≤ k := fun h => PySem.W.mg_log h
  have p1 : 1 < 2 ^ (12999 + 1) := Nat.one_lt_two_pow (by decide)
  have m1 : (max 1 (i : Int).natAbs).log2 ≤ 12999 := l0 (Nat.max_lt.mpr ⟨p1, h1⟩)
  have m2 : (max (i : Int).natAbs (j : Int).natAbs).log2 ≤ 12999 := l0 (Nat.max_lt.mpr ⟨h1, h2⟩)
  have e1 : (Nat.lcm 1 (i : Int).natAbs).lcm (j : Int).natAbs = Nat.lcm i j := by rw [lcm1]; rfl
  have m3 : ((((Nat.lcm 1 (i : Int).natAbs).lcm (j : Int).natAbs : Nat) : Int)).natAbs.log2 < bitsLine := by
    rw [e1, bitsLine_eq]
    have : (Nat.lcm i j).log2 ≤ 25999 := l0 (lcm_room h1 h2)
    show (Nat.lcm i j).log2 < _
    omega
  have g := (PySem.W.mg_run_lcm (i : Int) t (j : Int) u (by omega) (by omega) m3)
  rw [e1] at g
  exact call_function_meets PySem.W.MGF.kind_lcm PySem.W.MGF.plain_lcm PySem.W.MGF.entry_lcm (PySem.W.MGF.args_lcm _ _) g.meets ⟨.int _, H, I.tok _, ⟨_, rfl⟩, q⟩
theorem ev_lcm (hm : X.mg x = some (.builtin "math.lcm")) (ha : EvD X a G (.int (i : Int))) (hb : EvD X b G (.int (j : Int))) (h1 : i < 2 ^ 13000) (h2 : j < 2 ^ 13000) (hg : Gl X x := by rfl) (hdb : (x == ("__debug__" : Str)) = false := by decide)
    (he : starEach [a, b] X.env = (false, eval a X.env) :: starEach [b] X.env := by first | exact sk_name | exact sk_const | exact sk_sub | exact sk_bin | exact sk_call | exact sk_tup | exact sk_lst | exact sk_cmp | exact sk_lc | exact sk_un | exact sk_bool | exact sk_attr | exact sk_if | rfl) (he2 : starEach [b] X.env = (false, eval b X.env) :: starEach [] X.env := by first | exact sk_name | exact sk_const | exact sk_sub | exact sk_bin | exact sk_call | exact sk_tup | exact sk_lst | exact sk_cmp | exact sk_lc | exact sk_un | exact sk_bool | exact sk_attr | exact sk_if | rfl) (hpl : (backTo pos (starEach [b] X.env)).any (·.1) = false := by rfl) : EvD X (.Call (.Name x p) [a, b] [] pos) G (.int ((Nat.lcm i j : Nat) : Int)) :=
  ev_cb (pe_callBfun cr_lcm hg hm pa_w hdb he hpl) (ea_cons ha (ea_cons hb ea_nil he2) he) fun S H vs e d1 Q q => by
    cases d1 with
    | cons d1 d2 =>
      cases d2 with
      | cons d2 d3 =>
        cases d3
        cases d1
        cases d2
        exact ⟨i, j, rfl, h1, h2, q _ S H (Ext.refl e) (.int _)⟩
/-- *xs among the entries -/
theorem ea_star (h : EvD X e G (.list ds)) (hr : EvA X es G dt) (hs : starEach (.Starred e p :: es) X.env = (true, eval e X.env) :: starEach es X.env := by rfl) : EvA X (.Starred e p :: es) G (ds ++ dt) := fun H0 S H σ o i Q q =>
  wa (StX.pa_star pe_w pa_w hs) (h H0 S H σ o i _ fun v S1 H1 x1 d1 => by
    cases d1 with
    | lst hq hA =>
      exact ⟨_, _, rfl, .inr (x1.i.sqL hq), hr H0 S1 H1 σ (o.ext x1) x1.i _ fun vs S2 H2 x2 d2 => q _ S2 H2 (x1.trans x2) (DpAll.app d2 (x2.s.dpAll hA))⟩)
end
end DL

/-! for x, (y, z) in zip(a list, a tuple). -/
namespace DL
open PySem PySem.Spec PyProof.Rows L2
/-- the list at a and the tuple at b, their items in new pairs -/
def ItzM (K : Fg) (a b : Addr) : It :=
  ⟨fun i H => ∃ (vs us : List V) (v u : V), (SqL K H a vs ∧ SqT K H b us) ∧ vs[i]? = some v ∧ us[i]? = some u,
   fun i H q H' => ∃ (T : Addr) (o : Obj) (v u : V), (q = .ref T ∧ H T = none ∧ o.cls = .type "tuple" ∧ o.dict = none) ∧ H' = upd H T (.frz o (.tup [v, u])) ∧ (∀ vs, SqL K H a vs → vs[i]? = some v) ∧ ∀ us, SqT K H b us → us[i]? = some u,
   fun i H => ∃ vs us : List V, (SqL K H a vs ∧ SqT K H b us) ∧ (i ≤ vs.length ∧ i ≤ us.length) ∧ (i = vs.length ∨ i = us.length)⟩
theorem turn_zipM {P : Program} {w : World} {K : Fg} {elts : List Expr} {kk : Nat} {tpos : Pos} {a b z TI TO i1 i2 : Addr} (S : ZipSep2 z TI TO i1 i2 [i1, a] [i2, b]) (n1 : a ≠ i1) (n2 : b ≠ i2) :
    L2.Turn P w K (.Tuple elts kk tpos) (ItzM K a b) [z, TI, TO, i1, i2] z (fun i h => IsZip h z TI TO .none ∧ IsTupOf2 h TI (.ref i1) (.ref i2) ∧ (∃ x y, IsTupOf2 h TO x y) ∧ h.IsListIter i1 a i ∧ h.IsTupleIter i2 b i) where
  mem := List.mem_cons_self
  obj := fun i h st c m => by
    rcases st with ⟨q1, q2, ⟨v1, v2, q3⟩, ⟨oa, q4, _, da⟩, ⟨ob, q5, _, db⟩⟩
    simp only [List.mem_cons, List.not_mem_nil, or_false] at m
    have noCell : ∀ {o : Obj}, (∃ cs, o.data = .fields cs) ∨ (∃ cs n, o.data = .seq cs n) → ∀ v, o.data ≠ .cell v := fun hc v z => by
      rcases hc with ⟨cs, e⟩ | ⟨cs, n, e⟩ <;> rw [e] at z <;> cases z
    rcases m with rfl | rfl | rfl | rfl | rfl
    · exact ⟨_, q1, noCell (.inl ⟨_, rfl⟩)⟩
    · exact ⟨_, q2, noCell (.inr ⟨_, _, rfl⟩)⟩
    · exact ⟨_, q3, noCell (.inr ⟨_, _, rfl⟩)⟩
    · exact ⟨oa, q4, noCell (.inl ⟨_, da⟩)⟩
    · exact ⟨ob, q5, noCell (.inl ⟨_, db⟩)⟩
  keep := fun i h h' st kp => by
    rcases st with ⟨q1, q2, ⟨v1, v2, q3⟩, q4, q5⟩
    refine ⟨kp z ?_ _ q1, kp TI ?_ _ q2, ⟨v1, v2, kp TO ?_ _ q3⟩, q4.at fun o e => kp i1 ?_ o e, q5.at fun o e => kp i2 ?_ o e⟩ <;> simp
  item := by
    rintro X rfl rfl rfl hc i pins s σ H E I hf ⟨hz, hTI, ⟨x0, y0, hTO⟩, h1, h2⟩ ⟨xs, ys, x, y, ⟨hqx, hqy⟩, hx, hy⟩
    have hh : X.A.in1.handled = none := I.ok.hd hc
    obtain ⟨its, rv, p, _⟩ := I.list hqx
    obtain ⟨its2, rv2, p2, _⟩ := I.tuple hqy
    obtain ⟨u, hu, ru⟩ := rv.get hx
    obtain ⟨u2, hu2, ru2⟩ := rv2.get hy
    have zl : z < s.heap.objs.size := Heap.lt_size hz
    refine wpAny_pyNext_zipD2_item S (Draws.list hh i1 a n1 its.toArray) (Draws.tuple hh i2 b n2 its2.toArray) hz hTI hTO ⟨h1, p.isList⟩ ⟨h2, p2⟩ (by simp; exact (List.getElem?_eq_some_iff.mp hu).1) (by simp; exact (List.getElem?_eq_some_iff.mp hu2).1) fun x1 x2 hp tk y1 y2 zp TOp st1 st2 hT hsz hk => ?_
    have e1 : x1 = u := by
      have z : its[i]? = some x1 := by simpa using y1
      rw [hu] at z
      exact (Option.some.inj z).symm
    have e2 : x2 = u2 := by
      have z : its2[i]? = some x2 := by simpa using y2
      rw [hu2] at z
      exact (Option.some.inj z).symm
    subst e1 e2
    refine ⟨_, rfl, wpAny_letOwnedTupleGo_zip (s := { s with heap := hp, toks := tk }) zp fun hq zq sb => ?_⟩
    have kept : ∀ (c : Addr) (o : Obj), c ∉ [z, TI, TO, i1, i2] → s.heap.get? c = some o → hq.get? c = some o := fun c o m q => by
      simp only [List.mem_cons, List.not_mem_nil, or_false, not_or] at m
      exact (sb.2 c m.1).trans (hk c o m.1 m.2.2.1 m.2.2.2.1 m.2.2.2.2 q)
    have hT2 : hq.get? s.heap.objs.size = some (tzO [x1, x2]) := (sb.2 _ (Nat.ne_of_gt zl)).trans hT
    have I1 : Inv X pins σ (upd H s.heap.objs.size (.frz (tzO [x1, x2]) (.tup [x, y]))) { s with heap := hq, toks := tk } :=
      I.turnedNew (t' := tk) (ch := [z, TI, TO, i1, i2]) (fun c o m q => kept c o m q) hf (Nat.le_refl _) ⟨hT2, by rw [sizeLine_eq]; show 2 ≤ 16777216; decide, [x1, x2], .cons ru (.cons ru2 .nil), _, hT2, rfl, _, rfl⟩
    refine ⟨.ref s.heap.objs.size, _, I1, rfl, ⟨_, tzO [x1, x2], x, y, ⟨rfl, I.hok.fresh (Nat.le_refl _), rfl, rfl⟩, rfl, fun l hl => by rw [I.list_inj hl hqx]; exact hx, fun l hl => by rw [I.tuple_inj hl hqy]; exact hy⟩, ⟨zq, ?_, ⟨x1, x2, ?_⟩, ?_, ?_⟩, fun c m => ?_⟩
    · have t1 := hk TI _ S.TIz S.TITO S.TIi1 S.TIi2 hTI
      exact (sb.2 TI S.TIz).trans t1
    · have t1 := sb.2 TO S.TOz
      exact t1.trans TOp
    · exact st1.1.at fun o e => (sb.2 i1 (Ne.symm S.zi1)).trans e
    · exact st2.1.at fun o e => (sb.2 i2 (Ne.symm S.zi2)).trans e
    · have live : ∃ o, s.heap.get? c = some o := by
        simp only [List.mem_cons, List.not_mem_nil, or_false] at m
        rcases m with rfl | rfl | rfl | rfl | rfl
        · exact ⟨_, hz⟩
        · exact ⟨_, hTI⟩
        · exact ⟨_, hTO⟩
        · exact ⟨_, h1.choose_spec.1⟩
        · exact ⟨_, h2.choose_spec.1⟩
      rw [upd_ne (Nat.ne_of_lt (Heap.lt_size live.choose_spec))]
      exact (hf c m).1
  done := by
    rintro X rfl rfl rfl hc i pins s σ H E I hf ⟨hz, hTI, ⟨x0, y0, hTO⟩, h1, h2⟩ ⟨xs, ys, ⟨hqx, hqy⟩, ⟨le1, le2⟩, hend⟩
    have hh : X.A.in1.handled = none := I.ok.hd hc
    obtain ⟨its, rv, p, _⟩ := I.list hqx
    obtain ⟨its2, rv2, p2, _⟩ := I.tuple hqy
    have l1 := rv.length
    have l2 := rv2.length
    refine wpAny_pyNext_zipD2_end (i := i) S (Draws.list hh i1 a n1 its.toArray) (Draws.tuple hh i2 b n2 its2.toArray) hz hTI hTO ⟨h1, p.isList⟩ ⟨h2, p2⟩ (by simp; omega) (by simp; omega) (by simp; omega) fun hp tk hk => ⟨rfl, ?_⟩
    refine I.turnedL (t' := tk) (ch := [z, TI, TO, i1, i2]) (fun c o m q => ?_) hf
    simp only [List.mem_cons, List.not_mem_nil, or_false, not_or] at m
    exact hk c o m.1 m.2.2.1 m.2.2.2.1 m.2.2.2.2 q
  self := fun A i s Q E st h => wpAny_pyIter_zip st.1 h
def iZipM (K : Fg) (ta : TA) : TI := fun σ H R => ta σ H fun vs H1 => ∃ a b xs ys, vs = [.ref a, .ref b] ∧ SqL K H1 a xs ∧ SqT K H1 b ys ∧ R (ItzM K a b) H1
theorem pi_zipM {X : Cx} {e e2 : Expr} {ta : TA} {p pos tpos : Pos} {elts : List Expr} {kk : Nat} (hg : Gl X "zip") (hm : X.mg "zip" = none) (ha : PA X [e, e2] ta)
    (hs : starEach [e, e2] X.env = (false, eval e X.env) :: starEach [e2] X.env) (hpl : (backTo pos (starEach [e2] X.env)).any (·.1) = false) : PI X (.Tuple elts kk tpos) (.Call (.Name "zip" p) [e, e2] [] pos) (iZipM X.K ta) := by
  refine ⟨fun pins s σ H R I h => ?_⟩
  refine Call_ (ld_blt I hg hm PyProof.Rows.boot_zip (PyProof.Rows.callWith_type1 (thn (ha.run pos pins s σ H _ I h) fun us s1 ⟨vs, H1, I1, r1, q1⟩ => ?_) hs hpl))
  obtain ⟨a, b, xs, ys, rfl, hqx, hqy, q⟩ := q1
  obtain ⟨u, u2, rfl, ra, rb⟩ := vals2 r1
  cases ra
  cases rb
  obtain ⟨its, rv, p1, _⟩ := I1.list hqx
  obtain ⟨its2, rv2, p2, _⟩ := I1.tuple hqy
  have la : a < s1.heap.objs.size := p1.lt
  have lb : b < s1.heap.objs.size := p2.lt
  refine zip_begins2 (begins_list a its.toArray) (begins_tuple b its2.toArray) p1.isList p2 fun hp hz hTI hTO g1 g2 hsz hk => wpAny_pyIter_zip hz ?_
  have I2 : Inv X pins σ H1 { s1 with heap := hp } := I1.kept (t' := s1.toks) hk
  refine ⟨s1.heap.objs.size + 4, [s1.heap.objs.size + 4, s1.heap.objs.size + 2, s1.heap.objs.size + 3, s1.heap.objs.size, s1.heap.objs.size + 1], _, _, H1, rfl, I2,
    turn_zipM (zip_sep2 (fp1 := [a]) (fp2 := [b]) (fun c m => by rw [List.mem_singleton.mp m]; exact la) (fun c m => by rw [List.mem_singleton.mp m]; exact lb)) (Nat.ne_of_lt la) (Nat.ne_of_lt (Nat.lt_succ_of_lt lb)), ⟨hz, hTI, ⟨_, _, hTO⟩, ⟨_, g1, rfl, rfl⟩, ⟨_, g2, rfl, rfl⟩⟩, fun c m => ?_, q⟩
  have hle : s1.heap.objs.size ≤ c := by
    simp only [List.mem_cons, List.not_mem_nil, or_false] at m
    rcases m with rfl | rfl | rfl | rfl | rfl <;> first | exact Nat.le_add_right _ _ | exact Nat.le_refl _
  exact I1.fpOk hle (I1.hok.fresh hle)
end DL
namespace DL
open PySem PySem.Spec PyProof.Rows L2
section
variable {X : Cx} {W : WX} {F : DL.Fin} {G : Gam} {e1 e2 : Expr} {p pos np px py pz p2 p3 : Pos} {x y z : Str} {body : List Stmt} {ds dt : List D}
theorem pg_1_2 {k1 k2 : Nat} (i j l : Nat) (hi : X.N[i]? = some x := by rfl) (hj : X.N[j]? = some y := by rfl) (hl : X.N[l]? = some z := by rfl) (hN : X.N.Nodup := by assumption) (hc : X.calm = true := by rfl)
    (hx : Loc X.env.scope x := by first | exact Or.inl rfl | exact Or.inr rfl) (hy : Loc X.env.scope y := by first | exact Or.inl rfl | exact Or.inr rfl) (hz : Loc X.env.scope z := by first | exact Or.inl rfl | exact Or.inr rfl)
    (hf : X.fn x = true ∨ X.env.scope.names.lookup x = some .local := by first | exact .inl rfl | exact .inr rfl | assumption) (hf2 : X.fn y = true ∨ X.env.scope.names.lookup y = some .local := by first | exact .inl rfl | exact .inr rfl | assumption)
    (hf3 : X.fn z = true ∨ X.env.scope.names.lookup z = some .local := by first | exact .inl rfl | exact .inr rfl | assumption)
    (hn : (assignEach [.Name x px, .Tuple [.Name y py, .Name z pz] k2 p3] X.env).length = 2 := by rfl) (hst : (assignEach [.Name x px, .Tuple [.Name y py, .Name z pz] k2 p3] X.env).findIdx? (·.1) = none := by rfl)
    (hg1 : (assignEach [.Name x px, .Tuple [.Name y py, .Name z pz] k2 p3] X.env).map (·.2) = assign (.Name x px) X.env :: (assignEach [.Tuple [.Name y py, .Name z pz] k2 p3] X.env).map (·.2) := by rfl)
    (hg2 : (assignEach [.Tuple [.Name y py, .Name z pz] k2 p3] X.env).map (·.2) = assign (.Tuple [.Name y py, .Name z pz] k2 p3) X.env :: (assignEach [] X.env).map (·.2) := by rfl)
    (hn3 : (assignEach [.Name y py, .Name z pz] X.env).length = 2 := by rfl) (hst3 : (assignEach [.Name y py, .Name z pz] X.env).findIdx? (·.1) = none := by rfl)
    (hg3 : (assignEach [.Name y py, .Name z pz] X.env).map (·.2) = assign (.Name y py) X.env :: (assignEach [.Name z pz] X.env).map (·.2) := by rfl)
    (hg4 : (assignEach [.Name z pz] X.env).map (·.2) = assign (.Name z pz) X.env :: (assignEach [] X.env).map (·.2) := by rfl) :
    PG X (.Tuple [.Name x px, .Tuple [.Name y py, .Name z pz] k2 p3] k1 p2) (gTup X.K 2 (gCons (gName i) (gCons (gTup X.K 2 (gCons (gName j) (gCons (gName l) gNil))) gNil))) :=
  pg_tup hc (pgs_cons (pg_name hN hi hx hf) (pgs_cons (pg_tup hc (pgs_cons (pg_name hN hj hy hf2) (pgs_cons (pg_name hN hl hz hf3) pgs_nil hg4) hg3) hn3 hst3) pgs_nil hg2) hg1) hn hst
/-- for x, (y, z) in zip(a list, a tuple): the tuple is the shorter one -/
theorem gs_forZip {α : Type} {k1 k2 : Nat} (i j l : Nat) (ms : List α) (f1 f2 : α → D) (us : List D) (I : Nat → Gam → Prop) (hz : X.mg "zip" = none) (h1 : EvD X e1 G (.list us)) (h2 : EvD X e2 G (.tuple (ms.map fun a => .tuple [f1 a, f2 a]))) (hle : ms.length ≤ us.length) (h0 : I 0 G)
    (hs : ∀ (n : Nat) (a : α) (u : D) (G' : Gam), ms[n]? = some a → us[n]? = some u → I n G' → GSs X W body (F.turn (I (n + 1))) (((G'.set i (.im u)).set j (.im (f1 a))).set l (.im (f2 a))))
    (hd : ∀ G', I ms.length G' → F.nx G') (hp : PassesOwn (model X.prog X.w) X.A X.env X.xe) (hg : PG X (.Tuple [.Name x px, .Tuple [.Name y py, .Name z pz] k2 p3] k1 p2) (gTup X.K 2 (gCons (gName i) (gCons (gTup X.K 2 (gCons (gName j) (gCons (gName l) gNil))) gNil))))
    (hc : X.calm = true := by rfl) (hgl : Gl X "zip" := by rfl)
    (hst : ∀ x, foldedSetIterable (.Call (.Name "zip" p) [e1, e2] [] np) X.env x = pure x := by intro _; rfl) (hse : starEach [e1, e2] X.env = (false, eval e1 X.env) :: starEach [e2] X.env := by first | exact sk_name | exact sk_const | exact sk_sub | exact sk_bin | exact sk_call | exact sk_tup | exact sk_lst | exact sk_cmp | exact sk_lc | exact sk_un | exact sk_bool | exact sk_attr | exact sk_if | rfl) (hse2 : starEach [e2] X.env = (false, eval e2 X.env) :: starEach [] X.env := by first | exact sk_name | exact sk_const | exact sk_sub | exact sk_bin | exact sk_call | exact sk_tup | exact sk_lst | exact sk_cmp | exact sk_lc | exact sk_un | exact sk_bool | exact sk_attr | exact sk_if | rfl)
    (hpl : (backTo np (starEach [e2] X.env)).any (·.1) = false := by rfl) :
    GS X W (.For (.Tuple [.Name x px, .Tuple [.Name y py, .Name z pz] k2 p3] k1 p2) (.Call (.Name "zip" p) [e1, e2] [] np) body [] pos) F G := fun S0 H0 S H σ E zz o m => by
  refine ws (ps_for hp hc (pi_zipM hgl hz pa_w hse hpl) hg pss_w hst) (ea_cons h1 (ea_cons h2 ea_nil (by exact hse2)) (by exact hse) H0 S H σ o zz.i _ fun vs S1 H1 x1 d1 => ?_)
  cases d1 with
  | cons d1 d2 =>
    cases d2 with
    | cons d2 d3 =>
      cases d3
      cases d1 with
      | lst hq ha =>
        cases d2 with
        | tup hq2 ha2 =>
          rename_i ad vs1 ad2 vs2
          have z1 := zz.trans x1
          have mb := m.bed z1
          have lv1 := DpAll.len ha
          have lv2 := DpAll.len ha2
          rw [List.length_map] at lv2
          refine ⟨ad, ad2, vs1, vs2, rfl, x1.i.sqL hq, x1.i.sqT hq2.t, fun n q σ' H' => q = ms.length - n ∧ n ≤ ms.length ∧ Lp X.K S1 (bed S1 H0) (I n) σ' H', ⟨ms.length, by omega, Nat.zero_le _, S1, G, z1.bed, (o.ext x1).bed, h0⟩, ?_⟩
          rintro n q σ' H' ⟨rfl, hn, S', G', yy, o', k⟩
          have s1 : SqL X.K H' ad vs1 := yy.i.sqL (yy.s.sqL hq)
          have s2 : SqT X.K H' ad2 vs2 := yy.i.sqT (yy.s.sqZ hq2).t
          by_cases hlt : n < ms.length
          · have l1 : n < vs1.length := by omega
            have l2 : n < vs2.length := by omega
            refine .inr ⟨⟨vs1, vs2, vs1[n], vs2[n], ⟨s1, s2⟩, List.getElem?_eq_getElem l1, List.getElem?_eq_getElem l2⟩, fun σ2 H2 => n + 1 ≤ ms.length ∧ Lp X.K S1 (bed S1 H0) (I (n + 1)) σ2 H2, fun σ2 H2 hh => ⟨ms.length - (n + 1), by omega, rfl, hh.1, hh.2⟩, fun q H2 yl => ?_⟩
            obtain ⟨T, ob, v, u, ⟨rfl, hT, c1, c2⟩, rfl, g1, g2⟩ := yl
            obtain ⟨du, w1, w2⟩ := DpAll.getV ha (g1 vs1 s1)
            obtain ⟨dd, w3, w4⟩ := DpAll.getV ha2 (g2 vs2 s2)
            rw [List.getElem?_map, List.getElem?_eq_getElem hlt] at w3
            have e := Option.some.inj w3
            subst e
            have y2 := yy.add (o := .frz ob (.tup [v, u])) hT
            have dT : Dp X.K (upd S' T (.frz ob (.tup [v, u]))) (.ref T) (.tuple [du, .tuple [f1 ms[n], f2 ms[n]]]) := by
              have ex : Ex S' (upd S' T (.frz ob (.tup [v, u]))) := (Ex.refl S').new (yy.i.none hT)
              exact .tup (SqZ.of upd_same c1 c2) (.cons (ex.dp (yy.s.dp w2)) (.cons (ex.dp (yy.s.dp w4)) .nil))
            have eS : Ext S' H' (upd S' T (.frz ob (.tup [v, u]))) (upd H' T (.frz ob (.tup [v, u]))) := (Ext.refl yy.i).add hT
            have tg : TGo X.K [i, j, l] (gTup X.K 2 (gCons (gName i) (gCons (gTup X.K 2 (gCons (gName j) (gCons (gName l) gNil))) gNil))) G' (.tuple [du, .tuple [f1 ms[n], f2 ms[n]]]) (((G'.set i (.im du)).set j (.im (f1 ms[n]))).set l (.im (f2 ms[n]))) :=
              tg_tup (tgs_cons (tg_nm i) (tgs_cons (tg_tup (tgs_cons (tg_nm j) (tgs_cons (tg_nm l) tgs_nil))) tgs_nil))
            refine tg _ _ _ σ' _ (o'.ext eS) y2.i dT _ fun σ2 o2 _ => ?_
            refine hs n ms[n] du G' (List.getElem?_eq_getElem hlt) w1 k S1 (bed S1 H0) _ _ _ _ y2 o2 (mb.turn fun σ3 H3 hh => ⟨hlt, hh⟩)
          · have e : n = ms.length := by omega
            subst e
            exact .inl ⟨⟨vs1, vs2, ⟨s1, s2⟩, ⟨by omega, by omega⟩, .inr (by omega)⟩, mb.nx σ' S' H' G' yy o' (hd G' k)⟩
end
end DL

namespace K6
open PySem PySem.Spec PyProof.Rows L2 DL MT
def topS (i : Nat) : Stmt := PySem.Challenge.pw_surecues_k06_least_and_greatest_values.main.body.getD i (.Pass ⟨0, 0, 0, 0⟩)
abbrev sNumber : Stmt := topS 6
abbrev sPlus : Stmt := topS 7
abbrev sMinus : Stmt := topS 8
abbrev sTimes : Stmt := topS 9
abbrev sOver : Stmt := topS 10
abbrev sCompare : Stmt := topS 11
abbrev sAscending : Stmt := topS 13
abbrev sBetween : Stmt := topS 14
abbrev sCommonBottom : Stmt := topS 15
abbrev sTopOver : Stmt := topS 16
abbrev sTrackOf : Stmt := topS 18
abbrev sValueOf : Stmt := topS 19
abbrev sFindPlace : Stmt := topS 20
abbrev sBounds : Stmt := topS 21
abbrev sTurns : Stmt := topS 22
abbrev sValueAt : Stmt := topS 24
abbrev sLeastValue : Stmt := topS 25
abbrev sGreatestValue : Stmt := topS 26
abbrev sExtremeValues : Stmt := topS 27
abbrev sCell : Stmt := topS 29
abbrev sDraw : Stmt := topS 30
abbrev sF : Stmt := topS 31
abbrev sLAdd : Stmt := topS 32
abbrev sLSub : Stmt := topS 33
abbrev sLMul : Stmt := topS 34
abbrev sLDiv : Stmt := topS 35
abbrev sLLess : Stmt := topS 36
abbrev sLSorted : Stmt := topS 37
abbrev sLIn : Stmt := topS 38
abbrev sLTrack : Stmt := topS 39
abbrev sLNames : Stmt := topS 40
abbrev sLClip : Stmt := topS 41
abbrev sLValue : Stmt := topS 42
abbrev sLJoints : Stmt := topS 43
abbrev sLSamples : Stmt := topS 44
abbrev sLCandidates : Stmt := topS 45
abbrev sLaw : Stmt := topS 46
theorem scNumber : FnScope ["top", "bottom", "common"] ["top", "bottom"] (defScope sNumber) := ⟨rfl, rfl, rfl, by decide +kernel, rfl, by decide +kernel, by decide +kernel⟩
theorem scPlus : FnScope ["first", "second"] ["first", "second"] (defScope sPlus) := ⟨rfl, rfl, rfl, by decide +kernel, rfl, by decide +kernel, by decide +kernel⟩
theorem scMinus : FnScope ["first", "second"] ["first", "second"] (defScope sMinus) := ⟨rfl, rfl, rfl, by decide +kernel, rfl, by decide +kernel, by decide +kernel⟩
theorem scTimes : FnScope ["first", "second"] ["first", "second"] (defScope sTimes) := ⟨rfl, rfl, rfl, by decide +kernel, rfl, by decide +kernel, by decide +kernel⟩
theorem scOver : FnScope ["first", "second"] ["first", "second"] (defScope sOver) := ⟨rfl, rfl, rfl, by decide +kernel, rfl, by decide +kernel, by decide +kernel⟩
theorem scCompare : FnScope ["first", "second", "left", "right"] ["first", "second"] (defScope sCompare) := ⟨rfl, rfl, rfl, by decide +kernel, rfl, by decide +kernel, by decide +kernel⟩
theorem scAscending : FnScope ["values", "bottom", "tops"] ["values"] (defScope sAscending) := ⟨rfl, rfl, rfl, by decide +kernel, rfl, by decide +kernel, by decide +kernel⟩
theorem scBetween : FnScope ["values", "first", "second"] ["values", "first", "second"] (defScope sBetween) := ⟨rfl, rfl, rfl, by decide +kernel, rfl, by decide +kernel, by decide +kernel⟩
theorem scCommonBottom : FnScope ["values", "bottom", "value"] ["values"] (defScope sCommonBottom) := ⟨rfl, rfl, rfl, by decide +kernel, rfl, by decide +kernel, by decide +kernel⟩
theorem scTopOver : FnScope ["value", "bottom"] ["value", "bottom"] (defScope sTopOver) := ⟨rfl, rfl, rfl, by decide +kernel, rfl, by decide +kernel, by decide +kernel⟩
theorem scTrackOf : FnScope ["clip", "prop"] ["clip", "prop"] (defScope sTrackOf) := ⟨rfl, rfl, rfl, by decide +kernel, rfl, by decide +kernel, by decide +kernel⟩
theorem scValueOf : FnScope ["formula", "place", "a", "b", "c"] ["formula", "place"] (defScope sValueOf) := ⟨rfl, rfl, rfl, by decide +kernel, rfl, by decide +kernel, by decide +kernel⟩
theorem scFindPlace : FnScope ["track", "position", "back", "place", "length", "formula", "order"] ["track", "position", "back"] (defScope sFindPlace) := ⟨rfl, rfl, rfl, by decide +kernel, rfl, by decide +kernel, by decide +kernel⟩
theorem scBounds : FnScope ["track", "found", "length", "_"] ["track"] (defScope sBounds) := ⟨rfl, rfl, rfl, by decide +kernel, rfl, by decide +kernel, by decide +kernel⟩
theorem scTurns : FnScope ["track", "found", "start", "length", "formula", "_", "b", "c", "place"] ["track"] (defScope sTurns) := ⟨rfl, rfl, rfl, by decide +kernel, rfl, by decide +kernel, by decide +kernel⟩
theorem scValueAt : FnScope ["clip", "prop", "position", "formula", "place"] ["clip", "prop", "position"] (defScope sValueAt) := ⟨rfl, rfl, rfl, by decide +kernel, rfl, by decide +kernel, by decide +kernel⟩
theorem scLeastValue : FnScope ["clip", "prop", "first", "second"] ["clip", "prop", "first", "second"] (defScope sLeastValue) := ⟨rfl, rfl, rfl, by decide +kernel, rfl, by decide +kernel, by decide +kernel⟩
theorem scGreatestValue : FnScope ["clip", "prop", "first", "second"] ["clip", "prop", "first", "second"] (defScope sGreatestValue) := ⟨rfl, rfl, rfl, by decide +kernel, rfl, by decide +kernel, by decide +kernel⟩
theorem scExtremeValues : FnScope ["clip", "prop", "first", "second", "track", "positions"] ["clip", "prop", "first", "second"] (defScope sExtremeValues) := ⟨rfl, rfl, rfl, by decide +kernel, rfl, by decide +kernel, by decide +kernel⟩
theorem scCell : FnScope ["script", "k"] ["script", "k"] (defScope sCell) := ⟨rfl, rfl, rfl, by decide +kernel, rfl, by decide +kernel, by decide +kernel⟩
theorem scDraw : FnScope ["script", "k", "sizes", "cell", "drawn", "size", "stirred", "j"] ["script", "k", "sizes"] (defScope sDraw) := ⟨rfl, rfl, rfl, by decide +kernel, rfl, by decide +kernel, by decide +kernel⟩
theorem scF : FnScope ["top", "bottom", "first", "second"] ["top", "bottom"] (defScope sF) := ⟨rfl, rfl, rfl, by decide +kernel, rfl, by decide +kernel, by decide +kernel⟩
theorem scLAdd : FnScope ["a", "b"] ["a", "b"] (defScope sLAdd) := ⟨rfl, rfl, rfl, by decide +kernel, rfl, by decide +kernel, by decide +kernel⟩
theorem scLSub : FnScope ["a", "b"] ["a", "b"] (defScope sLSub) := ⟨rfl, rfl, rfl, by decide +kernel, rfl, by decide +kernel, by decide +kernel⟩
theorem scLMul : FnScope ["a", "b"] ["a", "b"] (defScope sLMul) := ⟨rfl, rfl, rfl, by decide +kernel, rfl, by decide +kernel, by decide +kernel⟩
theorem scLDiv : FnScope ["a", "b"] ["a", "b"] (defScope sLDiv) := ⟨rfl, rfl, rfl, by decide +kernel, rfl, by decide +kernel, by decide +kernel⟩
theorem scLLess : FnScope ["a", "b"] ["a", "b"] (defScope sLLess) := ⟨rfl, rfl, rfl, by decide +kernel, rfl, by decide +kernel, by decide +kernel⟩
theorem scLSorted : FnScope ["numbers", "made", "a", "place"] ["numbers"] (defScope sLSorted) := ⟨rfl, rfl, rfl, by decide +kernel, rfl, by decide +kernel, by decide +kernel⟩
theorem scLIn : FnScope ["piece", "t", "a", "b", "c"] ["piece", "t"] (defScope sLIn) := ⟨rfl, rfl, rfl, by decide +kernel, rfl, by decide +kernel, by decide +kernel⟩
theorem scLTrack : FnScope ["lengths", "digits", "a", "pieces", "j", "b", "c", "piece"] ["lengths", "digits"] (defScope sLTrack) := ⟨rfl, rfl, rfl, by decide +kernel, rfl, by decide +kernel, by decide +kernel⟩
theorem scLNames : FnScope ["k"] ["k"] (defScope sLNames) := ⟨rfl, rfl, rfl, by decide +kernel, rfl, by decide +kernel, by decide +kernel⟩
theorem scLClip : FnScope ["script", "k", "kind", "digits", "j", "lengths", "names", "tracks", "length", "part", "markers", "marker", "ordered", "position"] ["script", "k", "kind"] (defScope sLClip) := ⟨rfl, rfl, rfl, by decide +kernel, rfl, by decide +kernel, by decide +kernel⟩
theorem scLValue : FnScope ["track", "position", "start", "j", "end"] ["track", "position"] (defScope sLValue) := ⟨rfl, rfl, rfl, by decide +kernel, rfl, by decide +kernel, by decide +kernel⟩
theorem scLJoints : FnScope ["track", "places", "piece"] ["track"] (defScope sLJoints) := ⟨rfl, rfl, rfl, by decide +kernel, rfl, by decide +kernel, by decide +kernel⟩
theorem scLSamples : FnScope ["first", "second", "many", "made", "j"] ["first", "second", "many"] (defScope sLSamples) := ⟨rfl, rfl, rfl, by decide +kernel, rfl, by decide +kernel, by decide +kernel⟩
theorem scLCandidates : FnScope ["track", "first", "second", "places", "found", "j", "a", "b", "c", "inner", "position", "inside"] ["track", "first", "second"] (defScope sLCandidates) := ⟨rfl, rfl, rfl, by decide +kernel, rfl, by decide +kernel, by decide +kernel⟩
theorem scLaw : FnScope ["script", "k", "clip", "digits", "first", "second", "name", "track", "low", "high", "position", "values", "value"] ["script"] (defScope sLaw) := ⟨rfl, rfl, rfl, by decide +kernel, rfl, by decide +kernel, by decide +kernel⟩
/-! ### numbers -/
def Rnum (C : Addr) : List D → Out → Prop := fun ds o => ∃ t b : Int, ds = [.int t, .int b] ∧ b.natAbs < 2 ^ 8999 ∧ (b = 0 → o = .exc ⟨.ref C, []⟩) ∧ (b ≠ 0 → o = .val (dq (Rat.divInt t b)))
/-- an operation on two numbers of at most 4000 bits -/
def Rop (f : Rat → Rat → Rat) : List D → Out → Prop := fun ds o => ∃ a b : Rat, ds = [dq a, dq b] ∧ Bq 4000 a ∧ Bq 4000 b ∧ o = .val (dq (f a b))
def Rdiv (C : Addr) : List D → Out → Prop := fun ds o => ∃ a b : Rat, ds = [dq a, dq b] ∧ Bq 4000 a ∧ Bq 4000 b ∧ (b = 0 → o = .exc ⟨.ref C, []⟩) ∧ (b ≠ 0 → o = .val (dq (a / b)))
def cmpQ (a b : Rat) : Int := if a < b then -1 else if b < a then 1 else 0
def Rcmp : List D → Out → Prop := fun ds o => ∃ a b : Rat, ds = [dq a, dq b] ∧ Bq 4000 a ∧ Bq 4000 b ∧ o = .val (.int (cmpQ a b))
theorem b8 {i j : Int} (h1 : i.natAbs < 2 ^ 4000) (h2 : j.natAbs < 2 ^ 4000) : (i * j).natAbs < 2 ^ 8999 := Nat.lt_of_lt_of_le (wide_lt h1 h2) (Nat.pow_le_pow_right Nat.two_pos (show 4000 + 4000 ≤ 8999 by decide))
theorem lt_pow {x a b : Nat} (h : x < 2 ^ a) (hb : a ≤ b := by decide) : x < 2 ^ b := Nat.lt_of_lt_of_le h (Nat.pow_le_pow_right Nat.two_pos hb)
section
variable {P : Program} {w : World} {K : DL.Fg} {mg : Str → Option Value} {base : Heap} {C : Addr}
theorem ok_number {f : Addr} {fd : FuncData} (F : Fun K "number" "number" sNumber f fd) (hm : mg "number" = some (.ref f)) (hb : Binds K fd ["top", "bottom"] []) (mG : mg "gcd" = some (.builtin "math.gcd"))
    (T : ErrOk K mg "NumberError" C [.type "ValueError", .type "Exception", .type "BaseException", .type "object"] "ValueError.__new__") : DefOk P w K mg base (L2.CX P w) 1 "number" (Rnum C) :=
  def_okX F scNumber hm hb (fun ds o ⟨t, b, h, _⟩ => by rw [h]; rfl) fun cdv A outer s H E hr tk po ds o r => by
    obtain ⟨t, b, rfl, hbd, h0, h1⟩ := r
    have hN := scNumber.nd
    refine gs_cons (gs_if (et_eqI (ev_var 1) ev_int) (fun c => ?_) (fun c => ?_))
    · have ho := h0 (of_decide_eq_true c)
      subst ho
      exact gs_cons (gs_raise0 tk PySem.F.excBase_ValueError T rfl)
    · have nb : b ≠ 0 := of_decide_eq_false c
      have ho := h1 nb
      subst ho
      rw [← dq_nrm nb]
      refine gs_nil ?_
      refine gs_cons (gs_if (et_lt (ev_var 1) ev_int) (fun c => ?_) (fun c => ?_))
      · have nb' : b < 0 := of_decide_eq_true c
        refine gs_cons (gs_par 0 1 (ea_cons (ev_neg (ev_var 0)) (ea_cons (ev_neg (ev_var 1)) ea_nil)) ?_)
        refine gs_nil ?_
        refine gs_cons (gs_set 2 (ev_gcd mG (ev_var 0) (ev_var 1)) ?_)
        refine gs_cons (gs_ret (ev_tup (ea_cons (ev_fdiv (ev_var 0) (ev_var 2) (gcd_ok (by omega) (by omega))) (ea_cons (ev_fdiv (ev_var 1) (ev_var 2) (gcd_ok (by omega) (by omega))) ea_nil))) ?_)
        show (PyData.tuple [_, _] : D) = dn (nrm t b)
        rw [Int.natAbs_neg, Int.natAbs_neg]
        unfold dn nrm
        rw [if_pos nb']
      · have nb' : ¬ b < 0 := of_decide_eq_false c
        refine gs_nil ?_
        refine gs_cons (gs_set 2 (ev_gcd mG (ev_var 0) (ev_var 1)) ?_)
        refine gs_cons (gs_ret (ev_tup (ea_cons (ev_fdiv (ev_var 0) (ev_var 2) (gcd_ok (by omega) (by omega))) (ea_cons (ev_fdiv (ev_var 1) (ev_var 2) (gcd_ok (by omega) (by omega))) ea_nil))) ?_)
        show (PyData.tuple [_, _] : D) = dn (nrm t b)
        unfold dn nrm
        rw [if_neg nb']
theorem ok_plus {f : Addr} {fd : FuncData} (F : Fun K "plus" "plus" sPlus f fd) (hm : mg "plus" = some (.ref f)) (hb : Binds K fd ["first", "second"] []) (Nm : DefOk P w K mg base (L2.CX P w) 1 "number" (Rnum C)) : DefOk P w K mg base (L2.CX P w) 2 "plus" (Rop (· + ·)) :=
  def_okX F scPlus hm hb (fun ds o ⟨a, b, h, _⟩ => by rw [h]; rfl) fun cdv A outer s H E hr tk po ds o r => by
    obtain ⟨a, b, rfl, ha, hbb, rfl⟩ := r
    refine gs_cons (gs_ret (ev_call Nm hr (ea_cons (ev_add (ev_mul (ev_ixT (ev_var 0) ev_int rfl) (ev_ixT (ev_var 1) ev_int rfl) (ha.mulOk1 hbb)) (ev_mul (ev_ixT (ev_var 1) ev_int rfl) (ev_ixT (ev_var 0) ev_int rfl) (hbb.mulOk1 ha)))
        (ea_cons (ev_mul (ev_ixT (ev_var 0) ev_int rfl) (ev_ixT (ev_var 1) ev_int rfl) (ha.mulOkD hbb)) ea_nil)) ⟨_, _, rfl, b8 ha.2 hbb.2, fun z => absurd z (dens_ne a b), fun _ => by rw [← rat_add]⟩) rfl)
theorem ok_minus {f : Addr} {fd : FuncData} (F : Fun K "minus" "minus" sMinus f fd) (hm : mg "minus" = some (.ref f)) (hb : Binds K fd ["first", "second"] []) (Nm : DefOk P w K mg base (L2.CX P w) 1 "number" (Rnum C)) : DefOk P w K mg base (L2.CX P w) 2 "minus" (Rop (· - ·)) :=
  def_okX F scMinus hm hb (fun ds o ⟨a, b, h, _⟩ => by rw [h]; rfl) fun cdv A outer s H E hr tk po ds o r => by
    obtain ⟨a, b, rfl, ha, hbb, rfl⟩ := r
    refine gs_cons (gs_ret (ev_call Nm hr (ea_cons (ev_sub (ev_mul (ev_ixT (ev_var 0) ev_int rfl) (ev_ixT (ev_var 1) ev_int rfl) (ha.mulOk1 hbb)) (ev_mul (ev_ixT (ev_var 1) ev_int rfl) (ev_ixT (ev_var 0) ev_int rfl) (hbb.mulOk1 ha)))
        (ea_cons (ev_mul (ev_ixT (ev_var 0) ev_int rfl) (ev_ixT (ev_var 1) ev_int rfl) (ha.mulOkD hbb)) ea_nil)) ⟨_, _, rfl, b8 ha.2 hbb.2, fun z => absurd z (dens_ne a b), fun _ => by rw [← rat_sub]⟩) rfl)
theorem ok_times {f : Addr} {fd : FuncData} (F : Fun K "times" "times" sTimes f fd) (hm : mg "times" = some (.ref f)) (hb : Binds K fd ["first", "second"] []) (Nm : DefOk P w K mg base (L2.CX P w) 1 "number" (Rnum C)) : DefOk P w K mg base (L2.CX P w) 2 "times" (Rop (· * ·)) :=
  def_okX F scTimes hm hb (fun ds o ⟨a, b, h, _⟩ => by rw [h]; rfl) fun cdv A outer s H E hr tk po ds o r => by
    obtain ⟨a, b, rfl, ha, hbb, rfl⟩ := r
    refine gs_cons (gs_ret (ev_call Nm hr (ea_cons (ev_mul (ev_ixT (ev_var 0) ev_int rfl) (ev_ixT (ev_var 1) ev_int rfl) (ha.mulOkN hbb))
        (ea_cons (ev_mul (ev_ixT (ev_var 0) ev_int rfl) (ev_ixT (ev_var 1) ev_int rfl) (ha.mulOkD hbb)) ea_nil)) ⟨_, _, rfl, b8 ha.2 hbb.2, fun z => absurd z (dens_ne a b), fun _ => by rw [← rat_mul]⟩) rfl)
theorem ok_over {f : Addr} {fd : FuncData} (F : Fun K "over" "over" sOver f fd) (hm : mg "over" = some (.ref f)) (hb : Binds K fd ["first", "second"] []) (Nm : DefOk P w K mg base (L2.CX P w) 1 "number" (Rnum C)) : DefOk P w K mg base (L2.CX P w) 2 "over" (Rdiv C) :=
  def_okX F scOver hm hb (fun ds o ⟨a, b, h, _⟩ => by rw [h]; rfl) fun cdv A outer s H E hr tk po ds o r => by
    obtain ⟨a, b, rfl, ha, hbb, h0, h1⟩ := r
    refine gs_cons (gs_retO tk Nm hr (ea_cons (ev_mul (ev_ixT (ev_var 0) ev_int rfl) (ev_ixT (ev_var 1) ev_int rfl) (ha.mulOk1 hbb))
        (ea_cons (ev_mul (ev_ixT (ev_var 0) ev_int rfl) (ev_ixT (ev_var 1) ev_int rfl) (ha.mulOk2 hbb)) ea_nil)) ⟨_, _, rfl, b8 ha.2 hbb.1, fun z => ?_, fun z => ?_⟩ outFin_rt outFin_ex)
    · refine h0 (Classical.byContradiction fun n => ?_)
      rw [Int.mul_eq_zero] at z
      rcases z with z | z
      · exact den_ne a z
      · exact num_ne n z
    · rw [← rat_div]
      refine h1 fun n => z ?_
      rw [Rat.num_eq_zero.mpr n, Int.mul_zero]
theorem ok_compare {f : Addr} {fd : FuncData} (F : Fun K "compare" "compare" sCompare f fd) (hm : mg "compare" = some (.ref f)) (hb : Binds K fd ["first", "second"] []) : DefOk P w K mg base L2.CX0 1 "compare" Rcmp :=
  def_ok F scCompare hm hb (fun ds o ⟨a, b, h, _⟩ => by rw [h]; rfl) (fun cdv A outer s H E hr ds d r => by
    obtain ⟨a, b, rfl, ha, hbb, e⟩ := r
    have e' := Out.val.inj e
    subst e'
    have hN := scCompare.nd
    refine gs_cons (gs_set 2 (ev_mul (ev_ixT (ev_var 0) ev_int rfl) (ev_ixT (ev_var 1) ev_int rfl) (ha.mulOk1 hbb)) ?_)
    refine gs_cons (gs_set 3 (ev_mul (ev_ixT (ev_var 1) ev_int rfl) (ev_ixT (ev_var 0) ev_int rfl) (hbb.mulOk1 ha)) ?_)
    have l1 := Rat.lt_iff a b
    have l2 := Rat.lt_iff b a
    unfold cmpQ
    refine gs_cons (gs_if (et_lt (ev_var 2) (ev_var 3)) (fun c => ?_) (fun c => ?_))
    · rw [if_pos (l1.mpr (of_decide_eq_true c))]
      exact gs_cons (gs_ret (ev_neg ev_int) rfl)
    · rw [if_neg fun z => of_decide_eq_false c (l1.mp z)]
      refine gs_nil (gs_cons (gs_if (et_gt (ev_var 2) (ev_var 3)) (fun c => ?_) (fun c => ?_)))
      · rw [if_pos (l2.mpr (of_decide_eq_true c))]
        exact gs_cons (gs_ret ev_int rfl)
      · rw [if_neg fun z => of_decide_eq_false c (l2.mp z)]
        exact gs_nil (gs_cons (gs_ret ev_int rfl))) fun ds y ⟨_, _, _, _, _, e⟩ => Out.noConfusion e

end
/-! ### the law's draws -/
def Rcell : List D → Out → Prop := fun ds o => ∃ (ns : List Int) (k : Nat), ds = [.list (ns.map .int), .int (k : Int)] ∧ o = .val (.int (ns.getD k 0))
def Rdraw : List D → Out → Prop := fun ds o => ∃ (ns : List Int) (k : Nat) (sizes : List Int), ds = [.list (ns.map .int), .int (k : Int), .list (sizes.map .int)] ∧ (∀ s ∈ sizes, 0 < s ∧ s < 1000000) ∧ sizes.length ≤ 1000 ∧ k ≤ 1000 ∧
  o = .val (.list ((drawL ns k sizes).map .int))
def Rf : List D → Out → Prop := fun ds o => ∃ t b : Int, ds = [.int t, .int b] ∧ b ≠ 0 ∧ b.natAbs < 2 ^ 8999 ∧ o = .val (dq (Rat.divInt t b))
section
variable {P : Program} {w : World} {K : DL.Fg} {mg : Str → Option Value} {base : Heap} {C : Addr}
theorem ok_cell {f : Addr} {fd : FuncData} (F : Fun K "_law_cell" "_law_cell" sCell f fd) (hm : mg "_law_cell" = some (.ref f)) (hb : Binds K fd ["script", "k"] []) (mL : mg "len" = none) : DefOk P w K mg base L2.CX0 1 "_law_cell" Rcell :=
  def_ok F scCell hm hb (fun ds o ⟨a, b, h, _⟩ => by rw [h]; rfl) (fun cdv A outer s H E hr ds d r => by
    obtain ⟨ns, k, rfl, e⟩ := r
    have e' := Out.val.inj e
    subst e'
    refine gs_cons (gs_if (et_lt (ev_var 1) (ev_lenL mL (ev_var 0))) (fun c => ?_) (fun c => ?_))
    · have c' : (k : Int) < ((ns.map PyData.int).length : Nat) := of_decide_eq_true c
      rw [List.length_map] at c'
      have lt : k < ns.length := by omega
      refine gs_cons (gs_ret (ev_ixL (ev_var 0) (ev_var 1) (atI_nat (get_map (List.getElem?_eq_getElem lt)))) ?_)
      show (PyData.int _ : D) = PyData.int _
      rw [List.getD_eq_getElem?_getD, List.getElem?_eq_getElem lt]
      rfl
    · have c' : ¬ (k : Int) < ((ns.map PyData.int).length : Nat) := of_decide_eq_false c
      rw [List.length_map] at c'
      refine gs_nil (gs_cons (gs_ret ev_int ?_))
      show (PyData.int _ : D) = PyData.int _
      rw [List.getD_eq_getElem?_getD, List.getElem?_eq_none (by omega)]
      rfl) fun ds y ⟨_, _, _, e⟩ => Out.noConfusion e
theorem ok_draw {f : Addr} {fd : FuncData} (F : Fun K "_law_draw" "_law_draw" sDraw f fd) (hm : mg "_law_draw" = some (.ref f)) (hb : Binds K fd ["script", "k", "sizes"] []) (mL : mg "len" = none) (mR : mg "range" = none) (Ce : DefOk P w K mg base L2.CX0 1 "_law_cell" Rcell) :
    DefOk P w K mg base L2.CX0 2 "_law_draw" Rdraw :=
  def_ok F scDraw hm hb (fun ds o ⟨a, b, c, h, _⟩ => by rw [h]; rfl) (fun cdv A outer s H E hr ds d r => by
    obtain ⟨ns, k, sizes, rfl, hs, hl, hk, e⟩ := r
    have e' := Out.val.inj e
    subst e'
    have hN := scDraw.nd
    have npos : PassesOwn (model P w) (Xn P w K mg base ["script", "k", "sizes", "cell", "drawn", "size", "stirred", "j"] "_law_draw" sDraw f cdv A outer s H E).A (Xn P w K mg base ["script", "k", "sizes", "cell", "drawn", "size", "stirred", "j"] "_law_draw" sDraw f cdv A outer s H E).env (fun _ _ => False) := PassesOwn.never
    refine gs_cons (gs_set 3 (ev_call Ce hr (ea_cons (ev_var 0) (ea_cons (ev_var 1) ea_nil)) ⟨ns, k, rfl, rfl⟩) ?_)
    show GSs _ _ _ _ [.im (.list (ns.map .int)), .im (.int k), .im (.list (sizes.map .int)), .im (.int (ns.getD k 0)), .no, .no, .no, .no]
    refine gs_cut (fun G => G = [.im (.list (ns.map .int)), .im (.int k), .im (.list (sizes.map .int)), .im (.int (cellAbs ns k)), .no, .no, .no, .no]) (gs_if (et_lt (ev_var 3) ev_int) (fun c => ?_) (fun c => ?_)) ?_
    · refine gs_cons (gs_set 3 (ev_neg (ev_var 3)) (gs_nil ?_))
      show _ = _
      unfold cellAbs
      rw [if_pos (of_decide_eq_true c)]
      rfl
    · refine gs_nil ?_
      show _ = _
      unfold cellAbs
      rw [if_neg (of_decide_eq_false c)]
    rintro G rfl
    refine gs_cons (gs_setN 4 (en_lst ea_nil) ?_)
    have cn := cellAbs_nn (ns := ns) (k := k)
    unfold drawL
    generalize cellAbs ns k = c0 at *
    refine gs_cons (gs_if (et_ge (ev_var 3) (ev_pow ev_int ev_int ⟨by decide, by decide, by decide⟩)) (fun c => ?_) (fun c => ?_))
    · have c' : (10 : Int) ^ (18 : Int).toNat ≤ c0 := of_decide_eq_true c
      rw [if_pos c']
      refine gs_cons (gs_set 3 (ev_sub (ev_var 3) (ev_pow ev_int ev_int ⟨by decide, by decide, by decide⟩)) ?_)
      show GSs _ _ _ _ [.im (.list (ns.map .int)), .im (.int k), .im (.list (sizes.map .int)), .im (.int (c0 - 10 ^ (18 : Int).toNat)), .own [], .no, .no, .no]
      generalize c0 - (10 : Int) ^ (18 : Int).toNat = c1
      refine gs_cut (fun G => ∃ c e, G = [.im (.list (ns.map .int)), .im (.int k), .im (.list (sizes.map .int)), .im (.int c), .own ((bigs c1 sizes).map .int), e, .no, .no])
        (gs_forL 5 (fun i G => ∃ (c : Int) (dr : List Int) (e : Ent), G = [.im (.list (ns.map .int)), .im (.int k), .im (.list (sizes.map .int)), .im (.int c), .own (dr.map .int), e, .no, .no] ∧ dr.length = i ∧ dr ++ bigs c (sizes.drop i) = bigs c1 sizes)
          (ev_var 2) ⟨c1, [], .no, rfl, rfl, rfl⟩ (fun i d G hd ⟨c, dr, e, hG, hlen, hdr⟩ => ?_) (fun G hI => ?_) npos) ?_
      · subst hG
        obtain ⟨x, hx, rfl⟩ := map_get hd
        have mem : x ∈ sizes := List.mem_of_getElem? hx
        have il : i < sizes.length := (List.getElem?_eq_some_iff.mp hx).1
        refine gs_cons (gs_app 4 (ev_mod (ev_var 3) (ev_var 5) (hs x mem).1) ?_ (hl := ?_))
        · refine gs_cons (gs_set 3 (ev_fdiv (ev_var 3) (ev_var 5) (wide_div (b := 20) (hs x mem).1 (by have := hs x mem; omega) (by decide) (by decide))) (gs_nil ?_))
          refine ⟨c / x, dr ++ [c % x], .im (.int x), ?_, ?_, ?_⟩
          · rw [List.map_append]
            rfl
          · rw [List.length_append, hlen]
            rfl
          · rw [← hdr, drop_get hx, List.append_assoc]
            rfl
        · rw [List.length_map]
          exact small1000 (by omega)
      · obtain ⟨c, dr, e, hG, hlen, hdr⟩ := hI
        subst hG
        rw [List.length_map] at hlen hdr
        rw [List.drop_of_length_le (Nat.le_refl _)] at hdr
        refine ⟨c, e, ?_⟩
        rw [← hdr]
        show _ = [_, _, _, _, Ent.own ((dr ++ []).map .int), _, _, _]
        rw [List.append_nil]
      · rintro G ⟨c, e, rfl⟩
        refine gs_keep (i := 4) rfl (gs_cons (gs_ret (ev_var 4) rfl))
    · have c' : ¬ (10 : Int) ^ (18 : Int).toNat ≤ c0 := of_decide_eq_false c
      rw [if_neg c']
      refine gs_nil ?_
      refine gs_cons (gs_set 6 (ev_mod (ev_add (ev_add (ev_var 3) ev_int) (ev_mul ev_int (ev_var 1) (.inl (.inl (by decide))))) ev_int (by decide)) ?_)
      show GSs _ _ _ _ [.im (.list (ns.map .int)), .im (.int k), .im (.list (sizes.map .int)), .im (.int c0), .own [], .no, .im (.int ((c0 + 1 + 31 * k) % 2147483647)), .no]
      have p1 : 0 ≤ (c0 + 1 + 31 * (k : Int)) % 2147483647 := Int.emod_nonneg _ (by decide)
      have p2 : (c0 + 1 + 31 * (k : Int)) % 2147483647 < 2147483647 := Int.emod_lt_of_pos _ (by decide)
      generalize (c0 + 1 + 31 * (k : Int)) % 2147483647 = c1 at *
      refine gs_cut (fun G => ∃ c e, G = [.im (.list (ns.map .int)), .im (.int k), .im (.list (sizes.map .int)), .im (.int c0), .own ((smalls c1 0 sizes).map .int), .no, .im (.int c), e])
        (gs_forR 7 (fun i G => ∃ (c : Int) (dr : List Int) (e : Ent), G = [.im (.list (ns.map .int)), .im (.int k), .im (.list (sizes.map .int)), .im (.int c0), .own (dr.map .int), .no, .im (.int c), e] ∧ dr.length = i ∧ dr ++ smalls c i (sizes.drop i) = smalls c1 0 sizes ∧ 0 ≤ c ∧ c < 2147483647)
          mR (ev_lenL mL (ev_var 2)) (by rw [List.length_map]; omega) ⟨c1, [], .no, rfl, rfl, rfl, p1, p2⟩ (fun i G hi ⟨c, dr, e, hG, hlen, hdr, q1, q2⟩ => ?_) (fun G hI => ?_) npos) ?_
      · subst hG
        rw [List.length_map] at hi
        have il : i < sizes.length := by omega
        have hx : sizes[i]? = some sizes[i] := List.getElem?_eq_getElem il
        have mem : sizes[i] ∈ sizes := List.getElem_mem il
        refine gs_cons (gs_set 6 (ev_mod (ev_add (ev_add (ev_mul (ev_var 6) ev_int (.inl (.inr (by decide)))) ev_int) (ev_var 7)) ev_int (by decide)) ?_)
        refine gs_cons (gs_set 6 (ev_mod (ev_add (ev_mul (ev_var 6) ev_int (.inl (.inr (by decide)))) ev_int) ev_int (by decide)) ?_)
        show GSs _ _ _ _ [.im (.list (ns.map .int)), .im (.int k), .im (.list (sizes.map .int)), .im (.int c0), .own (dr.map .int), .no, .im (.int (st2 c i)), .im (.int i)]
        refine gs_cons (gs_app 4 (ev_mod (ev_fdiv (ev_var 6) ev_int ⟨by decide, by decide⟩) (ev_ixL (ev_var 2) (ev_var 7) (atI_nat (get_map hx))) (hs _ mem).1) ?_ (hl := ?_))
        · refine gs_nil ⟨st2 c i, dr ++ [st2 c i / 7 % sizes[i]], .im (.int i), ?_, ?_, ?_, ?_, ?_⟩
          · rw [List.map_append]
            rfl
          · rw [List.length_append, hlen]
            rfl
          · rw [← hdr, drop_get hx, List.append_assoc]
            rfl
          · exact Int.emod_nonneg _ (by decide)
          · exact Int.emod_lt_of_pos _ (by decide)
        · rw [List.length_map]
          exact small1000 (by omega)
      · obtain ⟨c, dr, e, hG, hlen, hdr, _, _⟩ := hI
        subst hG
        have e0 : ((sizes.map PyData.int).length : Int).toNat = sizes.length := by rw [List.length_map]; omega
        rw [e0] at hlen hdr
        rw [List.drop_of_length_le (Nat.le_refl _)] at hdr
        refine ⟨c, e, ?_⟩
        rw [← hdr]
        show _ = [_, _, _, _, Ent.own ((dr ++ []).map .int), _, _, _]
        rw [List.append_nil]
      · rintro G ⟨c, e, rfl⟩
        refine gs_keep (i := 4) rfl (gs_cons (gs_ret (ev_var 4) rfl))) fun ds y ⟨_, _, _, _, _, _, _, e⟩ => Out.noConfusion e
theorem ok_f {f : Addr} {fd : FuncData} (F : Fun K "_law_f" "_law_f" sF f fd) (hm : mg "_law_f" = some (.ref f)) (hb : Binds K fd ["top", "bottom"] []) (mM : mg "max" = none) : DefOk P w K mg base L2.CX0 1 "_law_f" Rf :=
  def_ok F scF hm hb (fun ds o ⟨a, b, h, _⟩ => by rw [h]; rfl) (fun cdv A outer s H E hr ds d r => by
    obtain ⟨t, b, rfl, hb0, hbb, e⟩ := r
    have e' := Out.val.inj e
    subst e'
    have hN := scF.nd
    have npos : PassesOwn (model P w) (Xn P w K mg base ["top", "bottom", "first", "second"] "_law_f" sF f cdv A outer s H E).A (Xn P w K mg base ["top", "bottom", "first", "second"] "_law_f" sF f cdv A outer s H E).env (fun _ _ => False) := PassesOwn.never
    refine gs_cut (fun G => ∃ t' b' : Int, G = [.im (.int t'), .im (.int b'), .no, .no] ∧ t'.natAbs = t.natAbs ∧ b' = b.natAbs ∧ nrm t b = (t' / (Nat.gcd t.natAbs b.natAbs : Nat), b' / (Nat.gcd t.natAbs b.natAbs : Nat))) (gs_if (et_lt (ev_var 1) ev_int) (fun c => ?_) (fun c => ?_)) ?_
    · have c' : b < 0 := of_decide_eq_true c
      refine gs_cons (gs_set 0 (ev_neg (ev_var 0)) (gs_cons (gs_set 1 (ev_neg (ev_var 1)) (gs_nil ?_))))
      refine ⟨-t, -b, rfl, Int.natAbs_neg t, by omega, ?_⟩
      unfold nrm
      rw [if_pos c']
    · have c' : ¬ b < 0 := of_decide_eq_false c
      refine gs_nil ⟨t, b, rfl, rfl, by omega, ?_⟩
      unfold nrm
      rw [if_neg c']
    rintro G ⟨t', b', rfl, h1, h2, h3⟩
    refine gs_cons (gs_set 2 (ev_max2 mM (ev_var 0) (ev_neg (ev_var 0))) ?_)
    refine gs_cons (gs_set 3 (ev_var 1) ?_)
    have em : (if -t' > t' then -t' else t') = (t.natAbs : Int) := by
      split <;> omega
    show GSs _ _ _ _ [.im (.int t'), .im (.int b'), .im (.int (if -t' > t' then -t' else t')), .im (.int b')]
    rw [em]
    refine gs_cut (fun G => G = [.im (.int t'), .im (.int b'), .im (.int (Nat.gcd t.natAbs b.natAbs : Nat)), .im (.int 0)])
      (gs_while (fun m G => ∃ x y : Nat, G = [.im (.int t'), .im (.int b'), .im (.int x), .im (.int y)] ∧ Nat.gcd x y = Nat.gcd t.natAbs b.natAbs ∧ m = y) b.natAbs ⟨t.natAbs, b.natAbs, by rw [h2], rfl, rfl⟩ (fun m G ⟨x, y, hG, hg, hm⟩ => ?_) npos) ?_
    · subst hG hm
      refine ⟨_, et_neI (ev_var 3) ev_int, fun c => ?_, fun c => ?_⟩
      · have c' : (m : Int) ≠ 0 := by
          intro z
          rw [z] at c
          cases c
        have yp : 0 < m := by omega
        refine gs_cons (gs_par 2 3 (ea_cons (ev_var 3) (ea_cons (ev_mod (ev_var 2) (ev_var 3) (by omega)) ea_nil)) (gs_nil ?_))
        refine ⟨x % m, Nat.mod_lt _ yp, m, x % m, ?_, ?_, rfl⟩
        · rfl
        · rw [← hg, Nat.gcd_comm x m, Nat.gcd_rec m x, Nat.gcd_comm]
      · have c' : (m : Int) = 0 := by
          by_cases z : (m : Int) = 0
          · exact z
          · rw [decide_eq_false z] at c
            cases c
        have y0 : m = 0 := by omega
        subst y0
        rw [Nat.gcd_zero_right] at hg
        rw [hg]
        rfl
    · rintro G rfl
      refine gs_cons (gs_ret (ev_tup (ea_cons (ev_fdiv (ev_var 0) (ev_var 2) (gcd_ok hb0 hbb)) (ea_cons (ev_fdiv (ev_var 1) (ev_var 2) (gcd_ok hb0 hbb)) ea_nil))) ?_)
      show (PyData.tuple [_, _] : D) = dq (Rat.divInt t b)
      rw [← dq_nrm hb0, h3]
      rfl) fun ds y ⟨_, _, _, _, _, e⟩ => Out.noConfusion e
end

end K6

namespace K6
open PySem PySem.Spec PyProof.Rows L2 DL MT
/-! ### the law's reckoning -/
def Rlt : List D → Out → Prop := fun ds o => ∃ a b : Rat, ds = [dq a, dq b] ∧ Bq 4000 a ∧ Bq 4000 b ∧ o = .val (.bool (decide (a < b)))
def Rin : List D → Out → Prop := fun ds o => ∃ (p : Pc) (t : Rat), ds = [dPc p, dq t] ∧ Bp 900 p ∧ Bq 900 t ∧ o = .val (dq (p.val t))
def Rjoints : List D → Out → Prop := fun ds o => ∃ tr : List Pc, ds = [dTr tr] ∧ (∀ p ∈ tr, Bq 4000 p.len) ∧ (∀ s ∈ jnt 0 tr, Bq 4000 s) ∧ tr.length ≤ 1000 ∧ o = .val (.list ((jnt 0 tr).map dq))
def Rvalue : List D → Out → Prop := fun ds o => ∃ (tr : List Pc) (x : Rat), ds = [dTr tr, dq x] ∧ (∀ p ∈ tr, Bp 400 p) ∧ (∀ s ∈ jnt 0 tr, Bq 400 s) ∧ Bq 400 x ∧ tr.length ≤ 1000 ∧ o = .val (dq (valF 0 tr x))
def Rsamples : List D → Out → Prop := fun ds o => ∃ (a b : Rat) (many : Nat), ds = [dq a, dq b, .int (many : Int)] ∧ Bq 400 a ∧ Bq 400 b ∧ 0 < many ∧ many ≤ 1000 ∧ o = .val (.list ((List.range (many + 1)).map fun j : Nat => dq (a + (b - a) * Rat.divInt j many)))
section
variable {P : Program} {w : World} {K : DL.Fg} {mg : Str → Option Value} {base : Heap} {C : Addr}
theorem rop_f {a b : Rat} {t u : Int} {c : Rat} (ha : Bq 4000 a) (hb : Bq 4000 b) (hu : u = (a.den : Int) * (b.den : Int)) (e : c = Rat.divInt t u) : Rf [.int t, .int u] (.val (dq c)) :=
  ⟨t, u, rfl, by rw [hu]; exact dens_ne a b, by rw [hu]; exact b8 ha.2 hb.2, by rw [e]⟩
theorem ok_ladd {f : Addr} {fd : FuncData} (F : Fun K "_law_add" "_law_add" sLAdd f fd) (hm : mg "_law_add" = some (.ref f)) (hb : Binds K fd ["a", "b"] []) (Lf : DefOk P w K mg base L2.CX0 1 "_law_f" Rf) : DefOk P w K mg base L2.CX0 2 "_law_add" (Rop (· + ·)) :=
  def_ok F scLAdd hm hb (fun ds o ⟨a, b, h, _⟩ => by rw [h]; rfl) (fun cdv A outer s H E hr ds d r => by
    obtain ⟨a, b, rfl, ha, hbb, e⟩ := r
    have e' := Out.val.inj e
    subst e'
    refine gs_cons (gs_ret (ev_call Lf hr (ea_cons (ev_add (ev_mul (ev_ixT (ev_var 0) ev_int rfl) (ev_ixT (ev_var 1) ev_int rfl) (ha.mulOk1 hbb)) (ev_mul (ev_ixT (ev_var 1) ev_int rfl) (ev_ixT (ev_var 0) ev_int rfl) (hbb.mulOk1 ha)))
        (ea_cons (ev_mul (ev_ixT (ev_var 0) ev_int rfl) (ev_ixT (ev_var 1) ev_int rfl) (ha.mulOkD hbb)) ea_nil)) (rop_f ha hbb rfl (rat_add a b))) rfl)) fun ds y ⟨_, _, _, _, _, e⟩ => Out.noConfusion e
theorem ok_lsub {f : Addr} {fd : FuncData} (F : Fun K "_law_sub" "_law_sub" sLSub f fd) (hm : mg "_law_sub" = some (.ref f)) (hb : Binds K fd ["a", "b"] []) (Lf : DefOk P w K mg base L2.CX0 1 "_law_f" Rf) : DefOk P w K mg base L2.CX0 2 "_law_sub" (Rop (· - ·)) :=
  def_ok F scLSub hm hb (fun ds o ⟨a, b, h, _⟩ => by rw [h]; rfl) (fun cdv A outer s H E hr ds d r => by
    obtain ⟨a, b, rfl, ha, hbb, e⟩ := r
    have e' := Out.val.inj e
    subst e'
    refine gs_cons (gs_ret (ev_call Lf hr (ea_cons (ev_sub (ev_mul (ev_ixT (ev_var 0) ev_int rfl) (ev_ixT (ev_var 1) ev_int rfl) (ha.mulOk1 hbb)) (ev_mul (ev_ixT (ev_var 1) ev_int rfl) (ev_ixT (ev_var 0) ev_int rfl) (hbb.mulOk1 ha)))
        (ea_cons (ev_mul (ev_ixT (ev_var 0) ev_int rfl) (ev_ixT (ev_var 1) ev_int rfl) (ha.mulOkD hbb)) ea_nil)) (rop_f ha hbb rfl (rat_sub a b))) rfl)) fun ds y ⟨_, _, _, _, _, e⟩ => Out.noConfusion e
theorem ok_lmul {f : Addr} {fd : FuncData} (F : Fun K "_law_mul" "_law_mul" sLMul f fd) (hm : mg "_law_mul" = some (.ref f)) (hb : Binds K fd ["a", "b"] []) (Lf : DefOk P w K mg base L2.CX0 1 "_law_f" Rf) : DefOk P w K mg base L2.CX0 2 "_law_mul" (Rop (· * ·)) :=
  def_ok F scLMul hm hb (fun ds o ⟨a, b, h, _⟩ => by rw [h]; rfl) (fun cdv A outer s H E hr ds d r => by
    obtain ⟨a, b, rfl, ha, hbb, e⟩ := r
    have e' := Out.val.inj e
    subst e'
    refine gs_cons (gs_ret (ev_call Lf hr (ea_cons (ev_mul (ev_ixT (ev_var 0) ev_int rfl) (ev_ixT (ev_var 1) ev_int rfl) (ha.mulOkN hbb))
        (ea_cons (ev_mul (ev_ixT (ev_var 0) ev_int rfl) (ev_ixT (ev_var 1) ev_int rfl) (ha.mulOkD hbb)) ea_nil)) (rop_f ha hbb rfl (rat_mul a b))) rfl)) fun ds y ⟨_, _, _, _, _, e⟩ => Out.noConfusion e
theorem ok_lless {f : Addr} {fd : FuncData} (F : Fun K "_law_less" "_law_less" sLLess f fd) (hm : mg "_law_less" = some (.ref f)) (hb : Binds K fd ["a", "b"] []) : DefOk P w K mg base L2.CX0 1 "_law_less" Rlt :=
  def_ok F scLLess hm hb (fun ds o ⟨a, b, h, _⟩ => by rw [h]; rfl) (fun cdv A outer s H E hr ds d r => by
    obtain ⟨a, b, rfl, ha, hbb, e⟩ := r
    have e' := Out.val.inj e
    subst e'
    refine gs_cons (gs_ret (ev_lt (ev_mul (ev_ixT (ev_var 0) ev_int rfl) (ev_ixT (ev_var 1) ev_int rfl) (ha.mulOk1 hbb)) (ev_mul (ev_ixT (ev_var 1) ev_int rfl) (ev_ixT (ev_var 0) ev_int rfl) (hbb.mulOk1 ha))) ?_)
    show (PyData.bool _ : D) = PyData.bool _
    rw [decide_eq_decide.mpr (Rat.lt_iff a b)]) fun ds y ⟨_, _, _, _, _, e⟩ => Out.noConfusion e
theorem rop {f : Rat → Rat → Rat} {n m : Nat} {a b : Rat} (ha : Bq n a) (hb : Bq m b) (h1 : n ≤ 4000 := by omega) (h2 : m ≤ 4000 := by omega) : Rop f [dq a, dq b] (.val (dq (f a b))) := ⟨a, b, rfl, ha.mono h1, hb.mono h2, rfl⟩
theorem rlt {n m : Nat} {a b : Rat} (ha : Bq n a) (hb : Bq m b) (h1 : n ≤ 4000 := by omega) (h2 : m ≤ 4000 := by omega) : Rlt [dq a, dq b] (.val (.bool (decide (a < b)))) := ⟨a, b, rfl, ha.mono h1, hb.mono h2, rfl⟩
theorem ok_lin {f : Addr} {fd : FuncData} (F : Fun K "_law_in" "_law_in" sLIn f fd) (hm : mg "_law_in" = some (.ref f)) (hb : Binds K fd ["piece", "t"] []) (Ad : DefOk P w K mg base L2.CX0 2 "_law_add" (Rop (· + ·))) (Mu : DefOk P w K mg base L2.CX0 2 "_law_mul" (Rop (· * ·))) : DefOk P w K mg base L2.CX0 3 "_law_in" Rin :=
  def_ok F scLIn hm hb (fun ds o ⟨a, b, h, _⟩ => by rw [h]; rfl) (fun cdv A outer s H E hr ds d r => by
    obtain ⟨p, t, rfl, hp, ht, e⟩ := r
    have e' := Out.val.inj e
    subst e'
    have hN := scLIn.nd
    have h1 := hp.c.mul ht
    have h2 := hp.b.add h1
    have h3 := ht.mul h2
    refine gs_cons (gs_unpack3 2 3 4 (ev_ixT (d := .tuple [dq p.a, dq p.b, dq p.c]) (ev_var 0) ev_int rfl) ?_)
    exact gs_cons (gs_ret (ev_call Ad hr (ea_cons (ev_var 2) (ea_cons (ev_call Mu hr (ea_cons (ev_var 1) (ea_cons (ev_call Ad hr (ea_cons (ev_var 3) (ea_cons (ev_call Mu hr (ea_cons (ev_var 4) (ea_cons (ev_var 1) ea_nil)) (rop hp.c ht)) ea_nil)) (rop hp.b h1)) ea_nil)) (rop ht h2)) ea_nil)) (rop hp.a h3)) rfl)) fun ds y ⟨_, _, _, _, _, e⟩ => Out.noConfusion e
theorem dq0 : (PyData.tuple [.int 0, .int 1] : D) = dq 0 := rfl
theorem Bq.zero {n : Nat} : Bq (n + 1) 0 := ⟨Nat.two_pow_pos _, Nat.lt_of_lt_of_le (by decide : 1 < 2 ^ 1) (Nat.pow_le_pow_right Nat.two_pos (by omega))⟩
theorem get_mapD {α : Type} {f : α → D} {l : List α} {i : Nat} {a : α} (h : l[i]? = some a) : (l.map f)[i]? = some (f a) := by rw [List.getElem?_map, h]; rfl
theorem map_getD {α : Type} {f : α → D} {l : List α} {i : Nat} {d : D} (h : (l.map f)[i]? = some d) : ∃ a, l[i]? = some a ∧ d = f a := by
  rw [List.getElem?_map] at h
  cases c : l[i]? with
  | none => rw [c] at h; cases h
  | some a => rw [c] at h; exact ⟨a, rfl, (Option.some.inj h).symm⟩
theorem small_sz {n : Nat} (h : n ≤ 5000) : n ≤ sizeLine := by rw [sizeLine_eq]; omega
theorem small_szl {n : Nat} (h : n ≤ 5000) : n < sizeLine := by rw [sizeLine_eq]; omega
theorem ok_ljoints {f : Addr} {fd : FuncData} (F : Fun K "_law_joints" "_law_joints" sLJoints f fd) (hm : mg "_law_joints" = some (.ref f)) (hb : Binds K fd ["track"] []) (Ad : DefOk P w K mg base L2.CX0 2 "_law_add" (Rop (· + ·))) : DefOk P w K mg base L2.CX0 3 "_law_joints" Rjoints :=
  def_ok F scLJoints hm hb (fun ds o ⟨a, h, _⟩ => by rw [h]; rfl) (fun cdv A outer s H E hr ds d r => by
    obtain ⟨tr, rfl, hl, hs, hz, e⟩ := r
    have e' := Out.val.inj e
    subst e'
    have hN := scLJoints.nd
    have npos : PassesOwn (model P w) (Xn P w K mg base ["track", "places", "piece"] "_law_joints" sLJoints f cdv A outer s H E).A (Xn P w K mg base ["track", "places", "piece"] "_law_joints" sLJoints f cdv A outer s H E).env (fun _ _ => False) := PassesOwn.never
    have jl := jnt_len 0 tr
    refine gs_cons (gs_setN 1 (en_lst (ea_cons (ev_tup (ea_cons ev_int (ea_cons ev_int ea_nil))) ea_nil)) ?_)
    refine gs_cut (fun G => ∃ e, G = [.im (dTr tr), .own ((jnt 0 tr).map dq), e])
      (gs_forT 2 (fun i G => ∃ e, G = [.im (dTr tr), .own (((jnt 0 tr).take (i + 1)).map dq), e]) (ev_var 0) ⟨.no, ?_⟩ (fun i d G hd ⟨e, hG⟩ => ?_) (fun G hG => ?_) npos) ?_
    · cases tr <;> rfl
    · subst hG
      obtain ⟨p, hp, rfl⟩ := map_getD hd
      have il : i < tr.length := (List.getElem?_eq_some_iff.mp hp).1
      obtain ⟨u, hu⟩ : ∃ u, (jnt 0 tr)[i]? = some u := ⟨_, List.getElem?_eq_getElem (by omega)⟩
      have hu1 := jnt_succ hu hp
      have bu := hs u (List.mem_of_getElem? hu)
      have bl := hl p (List.mem_of_getElem? hp)
      have tk : (jnt 0 tr).take (i + 1) = (jnt 0 tr).take i ++ [u] := by rw [List.take_add_one, hu]; rfl
      have tk1 : (jnt 0 tr).take (i + 1 + 1) = (jnt 0 tr).take (i + 1) ++ [u + p.len] := by rw [List.take_add_one, hu1]; rfl
      have tl : ((jnt 0 tr).take (i + 1)).length = i + 1 := by rw [List.length_take]; omega
      refine gs_cons (gs_app 1 (ev_call Ad hr (ea_cons (ev_ixB (d := dq u) (eb_own 1) ev_minus1 (atI_last ?_)) (ea_cons (ev_ixT (d := dq p.len) (ev_var 2) ev_int rfl) ea_nil)) (rop bu bl)) ?_ (hl := ?_))
      · rw [List.length_map, tl, Nat.add_sub_cancel, List.getElem?_map, List.getElem?_take_of_lt (by omega), hu]
        rfl
      · refine gs_nil ⟨.im (dPc p), ?_⟩
        rw [tk1, List.map_append]
        rfl
      · rw [List.length_map, tl]
        exact small_szl (by omega)
    · obtain ⟨e, rfl⟩ := hG
      refine ⟨e, ?_⟩
      rw [List.take_of_length_le (by rw [List.length_map, jl]; exact Nat.le_refl _)]
    · rintro G ⟨e, rfl⟩
      exact gs_keep (i := 1) rfl (gs_cons (gs_ret (ev_var 1) rfl))) fun ds y ⟨_, _, _, _, _, e⟩ => Out.noConfusion e
theorem ok_lvalue {f : Addr} {fd : FuncData} (F : Fun K "_law_value" "_law_value" sLValue f fd) (hm : mg "_law_value" = some (.ref f)) (hb : Binds K fd ["track", "position"] []) (Ad : DefOk P w K mg base L2.CX0 2 "_law_add" (Rop (· + ·))) (Su : DefOk P w K mg base L2.CX0 2 "_law_sub" (Rop (· - ·)))
    (Le : DefOk P w K mg base L2.CX0 1 "_law_less" Rlt) (In : DefOk P w K mg base L2.CX0 3 "_law_in" Rin) (mL : mg "len" = none) (mR : mg "range" = none) : DefOk P w K mg base L2.CX0 4 "_law_value" Rvalue :=
  def_ok F scLValue hm hb (fun ds o ⟨a, b, h, _⟩ => by rw [h]; rfl) (fun cdv A outer s H E hr ds d r => by
    obtain ⟨tr, x, rfl, hp, hs, hx, hz, e⟩ := r
    have e' := Out.val.inj e
    subst e'
    have hN := scLValue.nd
    have npos : PassesOwn (model P w) (Xn P w K mg base ["track", "position", "start", "j", "end"] "_law_value" sLValue f cdv A outer s H E).A (Xn P w K mg base ["track", "position", "start", "j", "end"] "_law_value" sLValue f cdv A outer s H E).env (fun _ _ => False) := PassesOwn.never
    have jl := jnt_len 0 tr
    refine gs_cons (gs_set 2 (ev_tup (ea_cons ev_int (ea_cons ev_int ea_nil))) ?_)
    refine gs_cut (fun G => ∃ (u : Rat) (e1 e2 : Ent), G = [.im (dTr tr), .im (dq x), .im (dq u), e1, e2] ∧ valF 0 tr x = u)
      (gs_forR 3 (fun i G => ∃ (u : Rat) (e1 e2 : Ent), G = [.im (dTr tr), .im (dq x), .im (dq u), e1, e2] ∧ (jnt 0 tr)[i]? = some u ∧ valF 0 tr x = valF u (tr.drop i) x) mR (ev_lenT mL (ev_var 0)) (by rw [List.length_map]; omega) ⟨0, .no, .no, rfl, ?_, rfl⟩ (fun i G hi ⟨u, e1, e2, hG, hu, hv⟩ => ?_) (fun G hG => ?_) npos) ?_
    · cases tr <;> rfl
    · subst hG
      rw [List.length_map] at hi
      have il : i < tr.length := by omega
      have hpi : tr[i]? = some tr[i] := List.getElem?_eq_getElem il
      generalize tr[i] = p at hpi
      have hu1 := jnt_succ hu hpi
      have bp := hp p (List.mem_of_getElem? hpi)
      have bu := hs u (List.mem_of_getElem? hu)
      have bu1 := hs _ (List.mem_of_getElem? hu1)
      have dr : tr.drop i = p :: tr.drop (i + 1) := by
        have e := List.getElem?_eq_getElem il
        rw [e] at hpi
        rw [← Option.some.inj hpi]
        exact List.drop_eq_getElem_cons il
      have px : ∀ {G : Gam}, G[0]? = some (.im (dTr tr)) → G[3]? = some (.im (.int (i : Int))) → atI (tr.map dPc) (i : Int) = some (dPc p) := fun _ _ => atI_nat (get_mapD hpi)
      have ap : atI (tr.map dPc) (i : Int) = some (dPc p) := atI_nat (get_mapD hpi)
      refine gs_cons (gs_set 4 (ev_call Ad hr (ea_cons (ev_var 2) (ea_cons (ev_ixT (d := dq p.len) (ev_ixT (d := .tuple [dq p.len, dRow p]) (ev_var 0) (ev_var 3) ap) ev_int rfl) ea_nil)) (rop bu bp.len)) ?_)
      refine gs_cons (gs_if (et_w (ew_or (et_not (et_val (ev_call Le hr (ea_cons (ev_var 4) (ea_cons (ev_var 1) ea_nil)) (rlt bu1 hx)))) (fun _ => ew_or1 (et_eqI (ev_var 3) (ev_sub (ev_lenT mL (ev_var 0)) ev_int))))) (fun c => ?_) (fun c => ?_))
      · have c2 : ¬ u + p.len < x ∨ tr.drop (i + 1) = [] := by
          rcases (Bool.or_eq_true _ _).mp c with c | c
          · left
            intro z
            rw [decide_eq_true z] at c
            cases c
          · right
            have c' := of_decide_eq_true c
            rw [List.length_map] at c'
            exact List.drop_eq_nil_of_le (by omega)
        have ev : valF 0 tr x = p.val (x - u) := by
          rw [hv, dr]
          show (if _ then _ else _) = _
          rw [if_pos c2]
        refine gs_cons (gs_ret (ev_call In hr (ea_cons (ev_ixT (ev_var 0) (ev_var 3) ap) (ea_cons (ev_call Su hr (ea_cons (ev_var 1) (ea_cons (ev_var 2) ea_nil)) (rop hx bu)) ea_nil)) ⟨p, _, rfl, bp.mono (by omega), (hx.sub bu).mono (by omega), rfl⟩) ?_)
        rw [ev]
        rfl
      · have c2 : ¬ (¬ u + p.len < x ∨ tr.drop (i + 1) = []) := by
          rintro (z | z)
          · rw [decide_eq_false z] at c
            cases c
          · have z2 : tr.length ≤ i + 1 := by
              have := congrArg List.length z
              rw [List.length_drop] at this
              simp at this
              omega
            rw [List.length_map, decide_eq_true (show (i : Int) = (tr.length : Nat) - 1 by omega), Bool.or_true] at c
            cases c
        refine gs_nil (gs_cons (gs_set 2 (ev_var 4) (gs_nil ⟨_, _, _, rfl, hu1, ?_⟩)))
        rw [hv, dr]
        show (if _ then _ else _) = _
        rw [if_neg c2]
    · obtain ⟨u, e1, e2, hG, hu, hv⟩ := hG
      refine ⟨u, e1, e2, hG, ?_⟩
      rw [hv, List.drop_of_length_le (by rw [List.length_map]; omega)]
      rfl
    · rintro G ⟨u, e1, e2, rfl, hv⟩
      refine gs_cons (gs_ret (ev_var 2) ?_)
      rw [hv]
      rfl) fun ds y ⟨_, _, _, _, _, _, _, e⟩ => Out.noConfusion e
theorem ok_lsamples {f : Addr} {fd : FuncData} (F : Fun K "_law_samples" "_law_samples" sLSamples f fd) (hm : mg "_law_samples" = some (.ref f)) (hb : Binds K fd ["first", "second", "many"] []) (Ad : DefOk P w K mg base L2.CX0 2 "_law_add" (Rop (· + ·))) (Su : DefOk P w K mg base L2.CX0 2 "_law_sub" (Rop (· - ·)))
    (Mu : DefOk P w K mg base L2.CX0 2 "_law_mul" (Rop (· * ·))) (Lf : DefOk P w K mg base L2.CX0 1 "_law_f" Rf) (mR : mg "range" = none) : DefOk P w K mg base L2.CX0 3 "_law_samples" Rsamples :=
  def_ok F scLSamples hm hb (fun ds o ⟨a, b, c, h, _⟩ => by rw [h]; rfl) (fun cdv A outer s H E hr ds d r => by
    obtain ⟨a, b, many, rfl, ha, hbb, h0, hz, e⟩ := r
    have e' := Out.val.inj e
    subst e'
    have hN := scLSamples.nd
    have npos : PassesOwn (model P w) (Xn P w K mg base ["first", "second", "many", "made", "j"] "_law_samples" sLSamples f cdv A outer s H E).A (Xn P w K mg base ["first", "second", "many", "made", "j"] "_law_samples" sLSamples f cdv A outer s H E).env (fun _ _ => False) := PassesOwn.never
    refine gs_cons (gs_setN 3 (en_lst ea_nil) ?_)
    refine gs_cut (fun G => ∃ e1, G = [.im (dq a), .im (dq b), .im (.int many), .own ((List.range (many + 1)).map fun j : Nat => dq (a + (b - a) * Rat.divInt j many)), e1])
      (gs_forR 4 (fun i G => ∃ e1, G = [.im (dq a), .im (dq b), .im (.int many), .own ((List.range i).map fun j : Nat => dq (a + (b - a) * Rat.divInt j many)), e1]) mR (ev_add (ev_var 2) ev_int) (by omega) ⟨.no, rfl⟩ (fun i G hi ⟨e1, hG⟩ => ?_) (fun G hG => ?_) npos) ?_
    · subst hG
      have bf : Bq 20 (Rat.divInt (i : Int) (many : Int)) := Bq.frac (by omega) (Nat.lt_of_le_of_lt (show (i : Int).natAbs ≤ 1001 by omega) (by decide)) (Nat.lt_of_le_of_lt (show (many : Int).natAbs ≤ 1000 by omega) (by decide))
      have bs := hbb.sub ha
      have bm := bs.mul bf
      refine gs_cons (gs_app 3 (ev_call Ad hr (ea_cons (ev_var 0) (ea_cons (ev_call Mu hr (ea_cons (ev_call Su hr (ea_cons (ev_var 1) (ea_cons (ev_var 0) ea_nil)) (rop hbb ha)) (ea_cons (ev_call Lf hr (ea_cons (ev_var 4) (ea_cons (ev_var 2) ea_nil)) ⟨_, _, rfl, by omega, Nat.lt_of_le_of_lt (show (many : Int).natAbs ≤ 1000 by omega) (lt_pow (show 1000 < 2 ^ 10 by decide) (by decide)), rfl⟩) ea_nil)) (rop bs bf)) ea_nil)) (rop ha bm)) (gs_nil ⟨.im (.int (i : Int)), ?_⟩) (hl := ?_))
      · rw [List.range_succ, List.map_append]
        rfl
      · rw [List.length_map, List.length_range]
        exact small_szl (by omega)
    · obtain ⟨e1, hG⟩ := hG
      exact ⟨e1, hG⟩
    · rintro G ⟨e1, rfl⟩
      exact gs_keep (i := 3) rfl (gs_cons (gs_ret (ev_var 3) rfl))) fun ds y ⟨_, _, _, _, _, _, _, _, e⟩ => Out.noConfusion e
--PARTB
end

end K6

namespace K6
open PySem PySem.Spec PyProof.Rows L2 DL MT
/-! ### drawn clips -/
def Rsorted : List D → Out → Prop := fun ds o => ∃ l : List Rat, ds = [.list (l.map dq)] ∧ (∀ q ∈ l, Bq 4000 q) ∧ l.length ≤ 1000 ∧ o = .val (.list ((sortQ l).map dq))
def Rtrack : List D → Out → Prop := fun ds o => ∃ (ls : List Rat) (dg : List Int), ds = [.list (ls.map dq), .list (dg.map .int)] ∧ ls.length ≤ 3 ∧ dg.length = 7 ∧ (∀ x ∈ dg, 0 ≤ x ∧ x < 9) ∧ (∀ l ∈ ls, Bq 4 l) ∧ o = .val (dTr (trk dg 0 ((dg.getD 0 0 - 3 : Int) : Rat) ls))
def nm1 (k : Nat) : Str := (["fall", "hue", "a1"] : List Str).getD k ""
def nm2 (k : Nat) : Str := (["lamp", "x", "b_2"] : List Str).getD k ""
def Rnames : List D → Out → Prop := fun ds o => ∃ k : Nat, ds = [.int (k : Int)] ∧ k < 3 ∧ o = .val (.tuple [.str (nm1 k), .str (nm2 k)])
def optLt (o : Option Rat) (a : Rat) : Bool := match o with | some q => decide (q < a) | none => false
def optNe (o : Option Rat) (a : Rat) : Bool := match o with | some q => !PyData.eqv (dq q) (dq a) | none => false
theorem optLt_some {q a : Rat} : optLt (some q) a = decide (q < a) := rfl
theorem optNe_some {q a : Rat} : optNe (some q) a = !PyData.eqv (dq q) (dq a) := rfl
section
variable {P : Program} {w : World} {K : DL.Fg} {mg : Str → Option Value} {base : Heap} {C : Addr}
theorem cut_lo (ds : List D) (n : Nat) (h : n ≤ ds.length) : DL.cutD ds none (some (n : Int)) = ds.take n := by
  unfold DL.cutD
  rw [HT.sIx_none, HT.sIx_nat, Nat.min_eq_left h]
  rfl
theorem cut_hi (ds : List D) (n : Nat) (h : n ≤ ds.length) : DL.cutD ds (some (n : Int)) none = ds.drop n := by
  unfold DL.cutD
  rw [HT.sIx_none, HT.sIx_nat, Nat.min_eq_left h, List.take_of_length_le (by rw [List.length_drop]; exact Nat.le_refl _)]
theorem ok_lsorted {f : Addr} {fd : FuncData} (F : Fun K "_law_sorted" "_law_sorted" sLSorted f fd) (hm : mg "_law_sorted" = some (.ref f)) (hb : Binds K fd ["numbers"] []) (Le : DefOk P w K mg base L2.CX0 1 "_law_less" Rlt) (mL : mg "len" = none) : DefOk P w K mg base L2.CX0 2 "_law_sorted" Rsorted :=
  def_ok F scLSorted hm hb (fun ds o ⟨a, h, _⟩ => by rw [h]; rfl) (fun cdv A outer s H E hr ds d r => by
    obtain ⟨l, rfl, hl, hz, e⟩ := r
    have e' := Out.val.inj e
    subst e'
    have hN := scLSorted.nd
    have hu : (Xn P w K mg base ["numbers", "made", "a", "place"] "_law_sorted" sLSorted f cdv A outer s H E).A.units + 64 < cLine := hr.units
    have npos : PassesOwn (model P w) (Xn P w K mg base ["numbers", "made", "a", "place"] "_law_sorted" sLSorted f cdv A outer s H E).A (Xn P w K mg base ["numbers", "made", "a", "place"] "_law_sorted" sLSorted f cdv A outer s H E).env (fun _ _ => False) := PassesOwn.never
    refine gs_cons (gs_set 1 (en_lst ea_nil).im ?_)
    refine gs_cut (fun G => ∃ e1 e2, G = [.im (.list (l.map dq)), .im (.list ((sortQ l).map dq)), e1, e2])
      (gs_forL 2 (fun i G => ∃ e1 e2, G = [.im (.list (l.map dq)), .im (.list ((sortQ (l.take i)).map dq)), e1, e2]) (ev_var 0) ⟨.no, .no, rfl⟩ (fun i d G hd ⟨e1, e2, hG⟩ => ?_) (fun G hG => ?_) npos) ?_
    · subst hG
      obtain ⟨a, ha, rfl⟩ := map_getD hd
      have ba := hl a (List.mem_of_getElem? ha)
      have hm : ∀ q ∈ sortQ (l.take i), Bq 4000 q := fun q hq => hl q (List.mem_of_mem_take (sortQ_mem hq))
      have hlen : (sortQ (l.take i)).length ≤ 1000 := Nat.le_trans (sortQ_len _) (by rw [List.length_take]; omega)
      have hs : sortQ (l.take (i + 1)) = insQ (sortQ (l.take i)) a := by
        rw [List.take_add_one, ha]
        exact sortQ_snoc _ _
      rw [hs]
      generalize sortQ (l.take i) = ms at hm hlen
      refine gs_cons (gs_set 3 ev_int ?_)
      refine gs_cut (fun G => ∃ n : Nat, G = [.im (.list (l.map dq)), .im (.list (ms.map dq)), .im (dq a), .im (.int (n : Int))] ∧ n ≤ ms.length ∧ (∀ q ∈ ms.take n, q < a) ∧ ∀ q, ms[n]? = some q → ¬ q < a)
        (gs_while (fun m G => ∃ n : Nat, G = [.im (.list (l.map dq)), .im (.list (ms.map dq)), .im (dq a), .im (.int (n : Int))] ∧ n ≤ ms.length ∧ (∀ q ∈ ms.take n, q < a) ∧ m = ms.length - n) ms.length ⟨0, rfl, Nat.zero_le _, fun q hq => (by cases hq), rfl⟩ (fun m G ⟨n, hG, hn, hq, hmm⟩ => ?_) npos) ?_
      · subst hG hmm
        refine ⟨_, et_w (ew_and (et_lt (ev_var 3) (ev_lenL mL (ev_var 1))) (q := optLt ms[n]? a) (fun c => ?_)), fun c => ?_, fun c => ?_⟩
        · have c' := of_decide_eq_true c
          rw [List.length_map] at c'
          have il : n < ms.length := by omega
          have hq : ms[n]? = some ms[n] := List.getElem?_eq_getElem il
          rw [hq, optLt_some]
          exact ew_and1 (et_val (ev_call Le hr (ea_cons (ev_ixL (d := dq ms[n]) (ev_var 1) (ev_var 3) (atI_nat (get_mapD hq))) (ea_cons (ev_var 2) ea_nil)) (rlt (hm _ (List.mem_of_getElem? hq)) ba)))
        · obtain ⟨c1, c2⟩ := (Bool.and_eq_true _ _).mp c
          have c' := of_decide_eq_true c1
          rw [List.length_map] at c'
          have il : n < ms.length := by omega
          have hq2 : ms[n]? = some ms[n] := List.getElem?_eq_getElem il
          rw [hq2, optLt_some] at c2
          have c3 := of_decide_eq_true c2
          refine gs_cons (gs_set 3 (ev_add (ev_var 3) ev_int) (gs_nil ⟨ms.length - (n + 1), by omega, n + 1, rfl, by omega, fun q hh => ?_, rfl⟩))
          rw [List.take_add_one, hq2] at hh
          rcases List.mem_append.mp hh with z | z
          · exact hq q z
          · rw [List.mem_singleton.mp z]
            exact c3
        · refine ⟨n, rfl, hn, hq, fun q hqn z => ?_⟩
          have il : n < ms.length := (List.getElem?_eq_some_iff.mp hqn).1
          rw [hqn, optLt_some, List.length_map, decide_eq_true (show (n : Int) < (ms.length : Nat) by omega), decide_eq_true z] at c
          cases c
      · rintro G ⟨n, rfl, hn, hq, hq2⟩
        have hi := insQ_at hq
        have ml : (ms.map dq).length = ms.length := List.length_map ..
        refine gs_cons (gs_if (et_w (ew_or (et_eqI (ev_var 3) (ev_lenL mL (ev_var 1))) (q := optNe ms[n]? a) (fun c => ?_))) (fun c => ?_) (fun c => ?_))
        · have c' : ¬ (n : Int) = ((ms.map dq).length : Nat) := of_decide_eq_false c
          rw [ml] at c'
          have il : n < ms.length := by omega
          have hqn : ms[n]? = some ms[n] := List.getElem?_eq_getElem il
          rw [hqn, optNe_some]
          exact ew_or1 (et_ne hu (ev_ixL (d := dq ms[n]) (ev_var 1) (ev_var 3) (atI_nat (get_mapD hqn))) (ev_var 2) rfl rfl)
        · have tl : ((ms.map dq).take n).length = n := by rw [List.length_take, ml]; omega
          have dl : ((ms.map dq).drop n).length = ms.length - n := by rw [List.length_drop, ml]
          refine gs_cons (gs_set 1 (EvD.is (d' := .list ((insQ ms a).map dq)) (en_cat (en_cat (en_slL (ev_var 1) eo_none (eo_some (ev_var 3))) (en_lst (ea_cons (ev_var 2) ea_nil)) ?_) (en_slL (ev_var 1) (eo_some (ev_var 3)) eo_none) ?_).im ?_) (gs_nil (gs_nil ⟨.im (dq a), .im (.int (n : Int)), rfl⟩)))
          · rw [cut_lo _ _ (by rw [ml]; exact hn), tl]
            exact small_sz (by simp; omega)
          · rw [List.length_append, cut_lo _ _ (by rw [ml]; exact hn), cut_hi _ _ (by rw [ml]; exact hn), tl, dl]
            exact small_sz (by simp; omega)
          · rw [cut_lo _ _ (by rw [ml]; exact hn), cut_hi _ _ (by rw [ml]; exact hn), hi]
            have e2 : insQ (ms.drop n) a = a :: ms.drop n := by
              cases hd : ms.drop n with
              | nil => rfl
              | cons q r =>
                have hqn : ms[n]? = some q := by
                  have := congrArg (fun l : List Rat => l[0]?) hd
                  simp only [List.getElem?_drop, Nat.add_zero] at this
                  exact this
                have n1 := hq2 q hqn
                show (if q < a then _ else if q = a then _ else _) = _
                rw [if_neg n1]
                by_cases c2 : q = a
                · rw [hqn] at c
                  have il : n < ms.length := (List.getElem?_eq_some_iff.mp hqn).1
                  rw [ml, decide_eq_false (show ¬ (n : Int) = (ms.length : Nat) by omega), c2, optNe_some, eqv_dq] at c
                  cases c
                · rw [if_neg c2]
            rw [e2, List.map_append, List.map_take, List.append_assoc]
            show PyData.list (_ ++ ([dq a] ++ List.drop n (ms.map dq))) = PyData.list (_ ++ (dq a :: List.map dq (ms.drop n)))
            rw [List.map_drop]
            rfl
        · have nl : n ≠ ms.length := fun z => by
            rw [ml, z, decide_eq_true rfl] at c
            cases c
          have il : n < ms.length := by omega
          have hqn : ms[n]? = some ms[n] := List.getElem?_eq_getElem il
          rw [hqn, ml, decide_eq_false (show ¬ (n : Int) = (ms.length : Nat) by omega), optNe_some, eqv_dq_iff] at c
          have ea : ms[n] = a := by
            by_cases z : ms[n] = a
            · exact z
            · rw [decide_eq_false z] at c
              cases c
          have e2 : insQ ms a = ms := by
            rw [hi, List.drop_eq_getElem_cons il, ea]
            show _ ++ (if a < a then _ else if a = a then _ else _) = _
            rw [if_neg (Rat.lt_irrefl), if_pos rfl, ← ea, ← List.drop_eq_getElem_cons il, List.take_append_drop]
          rw [e2]
          exact gs_nil (gs_nil ⟨.im (dq a), .im (.int (n : Int)), rfl⟩)
    · obtain ⟨e1, e2, hG⟩ := hG
      refine ⟨e1, e2, ?_⟩
      rw [hG, List.length_map, List.take_length]
    · rintro G ⟨e1, e2, rfl⟩
      exact gs_cons (gs_ret (ev_var 1) rfl)) fun ds y ⟨_, _, _, _, e⟩ => Out.noConfusion e
theorem ok_lnames {f : Addr} {fd : FuncData} (F : Fun K "_law_names" "_law_names" sLNames f fd) (hm : mg "_law_names" = some (.ref f)) (hb : Binds K fd ["k"] []) : DefOk P w K mg base L2.CX0 1 "_law_names" Rnames :=
  def_ok F scLNames hm hb (fun ds o ⟨a, h, _⟩ => by rw [h]; rfl) (fun cdv A outer s H E hr ds d r => by
    obtain ⟨k, rfl, hk, e⟩ := r
    have e' := Out.val.inj e
    subst e'
    have hat : atI [PyData.tuple [.str "fall", .str "lamp"], PyData.tuple [.str "hue", .str "x"], PyData.tuple [.str "a1", .str "b_2"]] (k : Int) = some (.tuple [.str (nm1 k), .str (nm2 k)]) := by
      refine atI_nat ?_
      rcases (show k = 0 ∨ k = 1 ∨ k = 2 by omega) with z | z | z <;> rw [z] <;> rfl
    refine gs_cons (gs_ret (ev_ixL ?_ (ev_var 0) hat) rfl)
    exact (en_lst (ea_cons (ev_tup (ea_cons ev_str (ea_cons ev_str ea_nil))) (ea_cons (ev_tup (ea_cons ev_str (ea_cons ev_str ea_nil))) (ea_cons (ev_tup (ea_cons ev_str (ea_cons ev_str ea_nil))) ea_nil)))).im) fun ds y ⟨_, _, _, e⟩ => Out.noConfusion e
--PARTC
end

end K6

namespace K6
open PySem PySem.Spec PyProof.Rows L2 DL MT
section
variable {P : Program} {w : World} {K : DL.Fg} {mg : Str → Option Value} {base : Heap} {C : Addr}
theorem bOf_sz {dg : List Int} (h : ∀ x ∈ dg, 0 ≤ x ∧ x < 9) (j : Nat) : Bq 5 (bOf dg j) := by
  have hx : 0 ≤ dg.getD (1 + 2 * j) 0 ∧ dg.getD (1 + 2 * j) 0 < 9 := by
    rw [List.getD_eq_getElem?_getD]
    cases c : dg[1 + 2 * j]? with
    | none => exact ⟨Int.le_refl _, by decide⟩
    | some x => exact h x (List.mem_of_getElem? c)
  unfold bOf
  exact Bq.frac (by omega) (by show _ < 32; omega) (by show _ < 32; omega)
theorem cOf_sz {dg : List Int} (h : ∀ x ∈ dg, 0 ≤ x ∧ x < 9) (j : Nat) : Bq 5 (cOf dg j) := by
  have hx : 0 ≤ dg.getD (2 + 2 * j) 0 ∧ dg.getD (2 + 2 * j) 0 < 9 := by
    rw [List.getD_eq_getElem?_getD]
    cases c : dg[2 + 2 * j]? with
    | none => exact ⟨Int.le_refl _, by decide⟩
    | some x => exact h x (List.mem_of_getElem? c)
  unfold cOf
  exact Bq.frac (by omega) (by show _ < 32; omega) (by show _ < 32; omega)
theorem ok_ltrack {f : Addr} {fd : FuncData} (F : Fun K "_law_track" "_law_track" sLTrack f fd) (hm : mg "_law_track" = some (.ref f)) (hb : Binds K fd ["lengths", "digits"] []) (Lf : DefOk P w K mg base L2.CX0 1 "_law_f" Rf) (In : DefOk P w K mg base L2.CX0 3 "_law_in" Rin)
    (mL : mg "len" = none) (mR : mg "range" = none) (mT : mg "tuple" = none) : DefOk P w K mg base L2.CX0 4 "_law_track" Rtrack :=
  def_ok F scLTrack hm hb (fun ds o ⟨a, b, h, _⟩ => by rw [h]; rfl) (fun cdv A outer s H E hr ds d r => by
    obtain ⟨ls, dg, rfl, hl, h7, hd, hs, e⟩ := r
    have e' := Out.val.inj e
    subst e'
    have hN := scLTrack.nd
    have npos : PassesOwn (model P w) (Xn P w K mg base ["lengths", "digits", "a", "pieces", "j", "b", "c", "piece"] "_law_track" sLTrack f cdv A outer s H E).A (Xn P w K mg base ["lengths", "digits", "a", "pieces", "j", "b", "c", "piece"] "_law_track" sLTrack f cdv A outer s H E).env (fun _ _ => False) := PassesOwn.never
    have dat : ∀ i : Nat, i < 7 → atI (dg.map PyData.int) (i : Int) = some (.int (dg.getD i 0)) := fun i hi => by
      refine atI_nat ?_
      have il : i < dg.length := by omega
      rw [List.getElem?_map, List.getElem?_eq_getElem il, List.getD_eq_getElem?_getD, List.getElem?_eq_getElem il]
      rfl
    have dr : ∀ i : Nat, 0 ≤ dg.getD i 0 ∧ dg.getD i 0 < 9 := fun i => by
      rw [List.getD_eq_getElem?_getD]
      cases c : dg[i]? with
      | none => exact ⟨Int.le_refl _, by decide⟩
      | some x => exact hd x (List.mem_of_getElem? c)
    refine gs_cons (gs_set 2 (EvD.is (d' := dq ((dg.getD 0 0 - 3 : Int) : Rat)) (ev_tup (ea_cons (ev_sub (ev_ixL (ev_var 1) ev_int (dat 0 (by decide))) ev_int) (ea_cons ev_int ea_nil))) rfl) ?_)
    refine gs_cons (gs_setN 3 (en_lst ea_nil) ?_)
    have b0 : Bq 4 ((dg.getD 0 0 - 3 : Int) : Rat) := ⟨by have := dr 0; show (dg.getD 0 0 - 3).natAbs < 16; omega, by show 1 < 16; decide⟩
    generalize ((dg.getD 0 0 - 3 : Int) : Rat) = a0 at b0
    refine gs_cut (fun G => ∃ e1 e2 e3 e4 e5, G = [.im (.list (ls.map dq)), .im (.list (dg.map .int)), e1, .own ((trk dg 0 a0 ls).map dPc), e2, e3, e4, e5])
      (gs_forR 4 (fun i G => ∃ (a : Rat) (dn : List Pc) (e2 e3 e4 e5 : Ent), G = [.im (.list (ls.map dq)), .im (.list (dg.map .int)), .im (dq a), .own (dn.map dPc), e2, e3, e4, e5] ∧ trk dg 0 a0 ls = dn ++ trk dg i a (ls.drop i) ∧ dn.length = i ∧ Bq (4 + 20 * i) a) mR (ev_lenL mL (ev_var 0)) (by rw [List.length_map]; omega)
        ⟨a0, [], .no, .no, .no, .no, rfl, rfl, rfl, b0⟩ (fun i G hi ⟨a, dn, e2, e3, e4, e5, hG, ht, hdn, ba⟩ => ?_) (fun G hG => ?_) npos) ?_
    · subst hG
      rw [List.length_map] at hi
      have il : i < ls.length := by omega
      have hli : ls[i]? = some ls[i] := List.getElem?_eq_getElem il
      have dp : ls.drop i = ls[i] :: ls.drop (i + 1) := List.drop_eq_getElem_cons il
      rw [dp] at ht
      generalize ls[i] = l at hli ht
      have bl := hs l (List.mem_of_getElem? hli)
      have ix1 : atI (dg.map PyData.int) (1 + 2 * (i : Int)) = some (.int (dg.getD (1 + 2 * i) 0)) := by
        have h := dat (1 + 2 * i) (by omega)
        rw [show ((1 + 2 * i : Nat) : Int) = 1 + 2 * (i : Int) by omega] at h
        exact h
      have ix2 : atI (dg.map PyData.int) (2 + 2 * (i : Int)) = some (.int (dg.getD (2 + 2 * i) 0)) := by
        have h := dat (2 + 2 * i) (by omega)
        rw [show ((2 + 2 * i : Nat) : Int) = 2 + 2 * (i : Int) by omega] at h
        exact h
      have r1 := dr (1 + 2 * i)
      have r2 := dr (2 + 2 * i)
      have mo : MulOk 2 (i : Int) := .inl (.inl (by decide))
      have lf : ∀ {t b : Int}, b ≠ 0 → b.natAbs < 2 ^ 40 → Rf [.int t, .int b] (.val (dq (Rat.divInt t b))) := fun {t b} h1 h2 => ⟨t, b, rfl, h1, lt_pow h2, rfl⟩
      refine gs_cons (gs_set 5 (ev_call Lf hr (ea_cons (ev_sub (ev_ixL (ev_var 1) (ev_add ev_int (ev_mul ev_int (ev_var 4) mo)) ix1) ev_int) (ea_cons (ev_add ev_int (ev_mod (ev_ixL (ev_var 1) (ev_add ev_int (ev_mul ev_int (ev_var 4) mo)) ix1) ev_int (by decide))) ea_nil)) (lf (by omega) (by omega))) ?_)
      refine gs_cons (gs_set 6 (ev_call Lf hr (ea_cons (ev_sub (ev_ixL (ev_var 1) (ev_add ev_int (ev_mul ev_int (ev_var 4) mo)) ix2) ev_int) (ea_cons (ev_add ev_int (ev_mod (ev_ixL (ev_var 1) (ev_add ev_int (ev_mul ev_int (ev_var 4) mo)) ix2) ev_int (by decide))) ea_nil)) (lf (by omega) (by omega))) ?_)
      have hat : atI (ls.map dq) (i : Int) = some (dq l) := atI_nat (get_mapD hli)
      have bb := bOf_sz hd i
      have bc := cOf_sz hd i
      refine gs_cons (gs_set 7 (EvD.is (d' := dPc ⟨l, a, bOf dg i, cOf dg i⟩) (ev_tup (ea_cons (ev_ixL (ev_var 0) (ev_var 4) hat) (ea_cons (ev_tup (ea_cons (ev_var 2) (ea_cons (ev_var 5) (ea_cons (ev_var 6) ea_nil)))) ea_nil))) rfl) ?_)
      refine gs_cons (gs_app 3 (ev_var 7) ?_ (hl := by rw [List.length_map, hdn]; exact small_szl (by omega)))
      have bv := val_sz (l := l) ba bb bc bl
      refine gs_cons (gs_set 2 (ev_call In hr (ea_cons (ev_var 7) (ea_cons (ev_ixL (ev_var 0) (ev_var 4) hat) ea_nil)) ⟨⟨l, a, bOf dg i, cOf dg i⟩, l, rfl, ⟨bl.mono (by omega), ba.mono (by omega), bb.mono (by omega), bc.mono (by omega)⟩, bl.mono (by omega), rfl⟩) (gs_nil ⟨_, dn ++ [⟨l, a, bOf dg i, cOf dg i⟩], .im (.int (i : Int)), .im (dq (bOf dg i)), .im (dq (cOf dg i)), .im (dPc ⟨l, a, bOf dg i, cOf dg i⟩), ?_, ?_, by rw [List.length_append, hdn]; rfl, bv.mono (by omega)⟩))
      · rw [List.map_append]
        rfl
      · rw [ht, List.append_assoc]
        rfl
    · obtain ⟨a, dn, e2, e3, e4, e5, hG, ht, hdn, ba⟩ := hG
      refine ⟨.im (dq a), e2, e3, e4, e5, ?_⟩
      rw [hG, ht, List.drop_of_length_le (by rw [List.length_map]; omega)]
      show _ = [_, _, _, Ent.own ((dn ++ []).map dPc), _, _, _, _]
      rw [List.append_nil]
    · rintro G ⟨e1, e2, e3, e4, e5, rfl⟩
      exact gs_keep (i := 3) rfl (gs_cons (gs_ret (ev_tupOf mT (ev_var 3)) rfl))) fun ds y ⟨_, _, _, _, _, _, _, e⟩ => Out.noConfusion e
end
end K6

namespace K6
open PySem PySem.Spec PyProof.Rows L2 DL MT
def Rclip : List D → Out → Prop := fun ds o => ∃ (ns : List Int) (k kind : Nat), ds = [.list (ns.map .int), .int (k : Int), .int (kind : Int)] ∧ k ≤ 1000 ∧ kind < 3 ∧ o = .val (dClip (clipOf (drawL ns k SZ) kind nm1 nm2))
theorem inR_get2 {ds ss : List Int} (h : InR ds ss) : ds.length = ss.length ∧ ∀ (i : Nat) (d s : Int), ds[i]? = some d → ss[i]? = some s → 0 ≤ d ∧ d < s := by
  induction h with
  | nil => exact ⟨rfl, fun i d s h => by simp at h⟩
  | cons h0 h1 t ih =>
    refine ⟨by rw [List.length_cons, List.length_cons, ih.1], fun i d s h h' => ?_⟩
    cases i with
    | zero =>
      have e1 := Option.some.inj h
      have e2 := Option.some.inj h'
      subst e1 e2
      exact ⟨h0, h1⟩
    | succ i => exact ih.2 i d s h h'
def szA : List D := [.int 3, .int 2, .int 4, .int 4, .int 4]
def szB : List D := [.int 7, .int 7, .int 5, .int 7, .int 5, .int 7, .int 5]
def szC : List D := [.int 4]
def szD : List D := [.int 9, .int 3]
def szAll : List D := ((szA ++ (List.replicate (2 : Int).toNat szB).flatten) ++ szC) ++ (List.replicate (3 : Int).toNat szD).flatten
theorem szAll_eq : PyData.list szAll = .list (SZ.map .int) := by rfl
theorem sz_ok : ∀ s ∈ SZ, 0 < s ∧ s < 1000000 := by decide +kernel
theorem sz_ok1 : SZ.length ≤ 1000 := by decide +kernel
theorem sz_pos : ∀ s ∈ SZ, 0 < s := fun s h => (sz_ok s h).1
theorem star_constC {c : Const} {k : Nat} {p : Pos} {es : List Expr} {env : Env} : starEach (.Constant c k p :: es) env = (false, eval (.Constant c k p) env) :: starEach es env := rfl
theorem ea_intc {X : Cx} {G : Gam} {es : List Expr} {ds : List D} {x : Int} {k : Nat} {p : Pos} (h : EvA X es G ds) : EvA X (.Constant (.int x) k p :: es) G (.int x :: ds) := ea_cons ev_int h star_constC
theorem ea_strc {X : Cx} {G : Gam} {es : List Expr} {ds : List D} {x : Str} {k : Nat} {p : Pos} (h : EvA X es G ds) : EvA X (.Constant (.str x) k p :: es) G (.str x :: ds) := ea_cons ev_str h star_constC
theorem ev_tab4 (X : Cx) (G : Gam) (k1 k2 k3 k4 k5 k6 k7 k8 : Nat) (p1 p2 p3 p4 p5 p6 p7 p8 q1 q2 q3 q4 pos : Pos) (x1 x2 x3 x4) : EvD X (.List [.Tuple [.Constant (.int 1) k1 p1, .Constant (.int 1) k2 p2] x1 q1, .Tuple [.Constant (.int 2) k3 p3, .Constant (.int 1) k4 p4] x2 q2, .Tuple [.Constant (.int 1) k5 p5, .Constant (.int 2) k6 p6] x3 q3, .Tuple [.Constant (.int 3) k7 p7, .Constant (.int 2) k8 p8] x4 q4] pos) G (.list (LENS.map dq)) := by
  refine (en_lst ?_).im
  refine ea_cons (ev_tup (ea_cons ev_int (ea_cons ev_int ea_nil))) ?_
  refine ea_cons (ev_tup (ea_cons ev_int (ea_cons ev_int ea_nil))) ?_
  refine ea_cons (ev_tup (ea_cons ev_int (ea_cons ev_int ea_nil))) ?_
  refine ea_cons (ev_tup (ea_cons ev_int (ea_cons ev_int ea_nil))) ?_
  exact ea_nil
theorem cat4 {X : Cx} {G : Gam} {a b c d : Expr} {p1 p2 p3 : Pos} {d1 d2 d3 d4 : List D} (h1 : EvN X a G d1) (h2 : EvN X b G d2) (h3 : EvN X c G d3) (h4 : EvN X d G d4) (hl : d1.length + d2.length + d3.length + d4.length ≤ 1000) : EvN X (.BinOp (.BinOp (.BinOp a .Add b p1) .Add c p2) .Add d p3) G (((d1 ++ d2) ++ d3) ++ d4) :=
  en_cat (en_cat (en_cat h1 h2 (by rw [sizeLine_eq]; omega)) h3 (by rw [List.length_append, sizeLine_eq]; omega)) h4 (by rw [List.length_append, List.length_append, sizeLine_eq]; omega)
theorem rep_is {X : Cx} {G : Gam} {a : Expr} {p q : Pos} {k : Nat} {n : Int} {d r : List D} (h : EvN X a G d) (h0 : 0 ≤ n ∧ n < 100) (hl : d.length ≤ 1000) (hr : (List.replicate n.toNat d).flatten = r) : EvN X (.BinOp a .Mult (.Constant (.int n) k p) q) G r := by
  subst hr
  refine en_rep h ev_int ⟨h0.1, by omega⟩ ?_
  have h2 : n.toNat ≤ 100 := by omega
  have h3 := Nat.mul_le_mul hl h2
  rw [sizeLine_eq]
  omega
theorem en_szs (X : Cx) (G : Gam) (k1 k2 k3 k4 k5 k6 k7 k8 k9 k10 k11 k12 k13 k14 k15 k16 k17 : Nat) (p1 p2 p3 p4 p5 q1 p6 p7 p8 p9 p10 p11 p12 q2 p13 q3 q4 p14 q5 q6 p15 p16 q7 p17 q8 q9 : Pos) : EvN X (.BinOp (.BinOp (.BinOp (.List [.Constant (.int 3) k1 p1, .Constant (.int 2) k2 p2, .Constant (.int 4) k3 p3, .Constant (.int 4) k4 p4, .Constant (.int 4) k5 p5] q1) .Add (.BinOp (.List [.Constant (.int 7) k6 p6, .Constant (.int 7) k7 p7, .Constant (.int 5) k8 p8, .Constant (.int 7) k9 p9, .Constant (.int 5) k10 p10, .Constant (.int 7) k11 p11, .Constant (.int 5) k12 p12] q2) .Mult (.Constant (.int 2) k13 p13) q3) q4) .Add (.List [.Constant (.int 4) k14 p14] q5) q6) .Add (.BinOp (.List [.Constant (.int 9) k15 p15, .Constant (.int 3) k16 p16] q7) .Mult (.Constant (.int 3) k17 p17) q8) q9) G szAll := by
  have a1 := fun (k1 k2 k3 k4 k5 : Nat) (p1 p2 p3 p4 p5 q : Pos) => (show EvN X (.List [.Constant (.int 3) k1 p1, .Constant (.int 2) k2 p2, .Constant (.int 4) k3 p3, .Constant (.int 4) k4 p4, .Constant (.int 4) k5 p5] q) G szA by
      refine en_lst ?_
      refine ea_intc ?_
      refine ea_intc ?_
      refine ea_intc ?_
      refine ea_intc ?_
      refine ea_intc ?_
      exact ea_nil
)
  have a2 := fun (k1 k2 k3 k4 k5 k6 k7 : Nat) (p1 p2 p3 p4 p5 p6 p7 q : Pos) => (show EvN X (.List [.Constant (.int 7) k1 p1, .Constant (.int 7) k2 p2, .Constant (.int 5) k3 p3, .Constant (.int 7) k4 p4, .Constant (.int 5) k5 p5, .Constant (.int 7) k6 p6, .Constant (.int 5) k7 p7] q) G szB by
      refine en_lst ?_
      refine ea_intc ?_
      refine ea_intc ?_
      refine ea_intc ?_
      refine ea_intc ?_
      refine ea_intc ?_
      refine ea_intc ?_
      refine ea_intc ?_
      exact ea_nil
)
  have a3 := fun (k1 : Nat) (p1 q : Pos) => (show EvN X (.List [.Constant (.int 4) k1 p1] q) G szC by
      refine en_lst ?_
      refine ea_intc ?_
      exact ea_nil
)
  have a4 := fun (k1 k2 : Nat) (p1 p2 q : Pos) => (show EvN X (.List [.Constant (.int 9) k1 p1, .Constant (.int 3) k2 p2] q) G szD by
      refine en_lst ?_
      refine ea_intc ?_
      refine ea_intc ?_
      exact ea_nil
)
  unfold szAll
  refine cat4 (d1 := szA) (d2 := (List.replicate (2 : Int).toNat szB).flatten) (d3 := szC) (d4 := (List.replicate (3 : Int).toNat szD).flatten) ?_ ?_ ?_ ?_ ?_
  · exact a1 _ _ _ _ _ _ _ _ _ _ _
  · exact rep_is (a2 _ _ _ _ _ _ _ _ _ _ _ _ _ _ _) (by decide) (by decide) rfl
  · exact a3 _ _ _
  · exact rep_is (a4 _ _ _ _ _) (by decide) (by decide) rfl
  · decide +kernel
theorem turn_if {X : Cx} {scope : Scope} {c elt : Expr} {g : TG} {vs is : List Nat} {G G' : Gam} {d r : D} {b : Bool} (h1 : TGo X.K is g (wipeG G vs) d G') (h2 : ∀ i ∈ is, i ∈ vs)
    (h3 : ∀ (s : Shared) (H : Hp) (C : Addr) (cl : List (Str × Addr)) (fp : List Addr), EvT (X.blk s H scope (compEnvC scope cl C X.env) fp) c G' b)
    (h4 : b = true → ∀ (s : Shared) (H : Hp) (C : Addr) (cl : List (Str × Addr)) (fp : List Addr), EvD (X.blk s H scope (compEnvC scope cl C X.env) fp) elt G' r) : DL.Turn X scope [c] elt g vs G d b r := ⟨is, G', h1, h2, h3, h4⟩
theorem ev_tab3 (X : Cx) (G : Gam) (k1 k2 k3 : Nat) (p1 p2 p3 pos : Pos) : EvD X (.List [.Constant (.str "go") k1 p1, .Constant (.str "up") k2 p2, .Constant (.str "m") k3 p3] pos) G (.list (MN.map .str)) := by
  refine (en_lst ?_).im
  refine ea_strc ?_
  refine ea_strc ?_
  refine ea_strc ?_
  exact ea_nil
theorem cut_mid (xs : List Int) (a b : Nat) (h1 : a ≤ b) (h2 : b ≤ xs.length) : DL.cutD (xs.map PyData.int) (some (a : Int)) (some (b : Int)) = ((xs.drop a).take (b - a)).map .int := by
  unfold DL.cutD
  rw [HT.sIx_nat, HT.sIx_nat, List.length_map, Nat.min_eq_left (Nat.le_trans h1 h2), Nat.min_eq_left h2, List.map_take, List.map_drop]
section
variable {P : Program} {w : World} {K : DL.Fg} {mg : Str → Option Value} {base : Heap} {C : Addr}
abbrev NClip : List Str := ["script", "k", "kind", "digits", "j", "lengths", "names", "tracks", "length", "part", "markers", "marker", "ordered", "position"]
theorem ok_lclip {f : Addr} {fd : FuncData} (F : Fun K "_law_clip" "_law_clip" sLClip f fd) (hm : mg "_law_clip" = some (.ref f)) (hb : Binds K fd ["script", "k", "kind"] []) (Dr : DefOk P w K mg base L2.CX0 2 "_law_draw" Rdraw) (Lf : DefOk P w K mg base L2.CX0 1 "_law_f" Rf) (Nm : DefOk P w K mg base L2.CX0 1 "_law_names" Rnames)
    (Tr : DefOk P w K mg base L2.CX0 4 "_law_track" Rtrack) (Ad : DefOk P w K mg base L2.CX0 2 "_law_add" (Rop (· + ·))) (Mu : DefOk P w K mg base L2.CX0 2 "_law_mul" (Rop (· * ·))) (So : DefOk P w K mg base L2.CX0 2 "_law_sorted" Rsorted)
    (mR : mg "range" = none) (mT : mg "tuple" = none) (mS : mg "sorted" = none) : DefOk P w K mg base L2.CX0 5 "_law_clip" Rclip :=
  def_ok F scLClip hm hb (fun ds o ⟨a, b, c, h, _⟩ => by rw [h]; rfl) (fun cdv A outer s H E hr ds d r => by
    obtain ⟨ns, k, kind, rfl, hk, hkind, e⟩ := r
    have e' := Out.val.inj e
    subst e'
    have hN := scLClip.nd
    have hu : (Xn P w K mg base NClip "_law_clip" sLClip f cdv A outer s H E).A.units + 64 < cLine := hr.units
    have hu65 : (Xn P w K mg base NClip "_law_clip" sLClip f cdv A outer s H E).A.units + 65 < cLine := by
      have h := hr.un
      exact Nat.lt_of_le_of_lt (by rw [Nat.add_assoc]; exact Nat.add_le_add_left (by decide) _) h
    have npos : PassesOwn (model P w) (Xn P w K mg base NClip "_law_clip" sLClip f cdv A outer s H E).A (Xn P w K mg base NClip "_law_clip" sLClip f cdv A outer s H E).env (fun _ _ => False) := PassesOwn.never
    refine gs_cons ?_
    refine gs_set (d := .list ((drawL ns k SZ).map .int)) 3 ?_ ?_ (hi := rfl) (hN := hN) (hx := Or.inr rfl) (hs := rfl) (hf := .inl rfl)
    · refine ev_call (ds := [.list (ns.map .int), .int k, .list (SZ.map .int)]) Dr hr ?_ ⟨ns, k, SZ, rfl, sz_ok, sz_ok1, hk, rfl⟩
      refine ea_cons (hs := ?_) ?_ ?_
      · refine ev_var 0
      · refine ea_cons (hs := ?_) ?_ ?_
        · refine ev_var 1
        · refine ea_cons (hs := ?_) ?_ ?_
          · rw [← szAll_eq]
            with_reducible refine EvN.im ?_
            with_reducible exact (en_szs _ _ _ _ _ _ _ _ _ _ _ _ _ _ _ _ _ _ _ _ _ _ _ _ _ _ _ _ _ _ _ _ _ _ _ _ _ _ _ _ _ _ _ _ _)
          · exact ea_nil
          · exact sk_bin
        · exact sk_name
      · exact sk_name
    have hin := drawL_in (ns := ns) (k := k) (sizes := SZ) sz_pos
    generalize drawL ns k SZ = dg at hin
    obtain ⟨h26, hbd⟩ := inR_get2 hin
    have dat : ∀ i : Nat, i < 26 → atI (dg.map PyData.int) (i : Int) = some (.int (dg.getD i 0)) := fun i hi => by
      refine atI_nat ?_
      have il : i < dg.length := by rw [h26]; exact hi
      rw [List.getElem?_map, List.getElem?_eq_getElem il, List.getD_eq_getElem?_getD, List.getElem?_eq_getElem il]
      rfl
    have db : ∀ (i : Nat) (z : Int), SZ[i]? = some z → 0 ≤ dg.getD i 0 ∧ dg.getD i 0 < z := fun i z hz => by
      have il : i < dg.length := by rw [h26]; exact (List.getElem?_eq_some_iff.mp hz).1
      rw [List.getD_eq_getElem?_getD, List.getElem?_eq_getElem il]
      exact hbd i _ z (List.getElem?_eq_getElem il) hz
    have d0 := db 0 3 rfl
    have en : (1 + dg.getD 0 0).toNat ≤ 3 := by omega
    have mem9 : ∀ x ∈ dg, 0 ≤ x ∧ x < 9 := fun x hx => by
      obtain ⟨i, il, rfl⟩ := List.getElem_of_mem hx
      have il' : i < SZ.length := by rw [← h26]; exact il
      have z := hbd i dg[i] SZ[i] (List.getElem?_eq_getElem il) (List.getElem?_eq_getElem il')
      have z2 : ∀ s ∈ SZ, s ≤ 9 := by decide +kernel
      have z3 := z2 SZ[i] (List.getElem_mem il')
      omega
    have ll : (lensOf dg).length ≤ 3 := by
      unfold lensOf
      rw [List.length_map, List.length_range]
      exact en
    have lz := lens_sz (ds := dg)
    refine gs_cut (fun G => G = [.im (.list (ns.map .int)), .im (.int k), .im (.int kind), .im (.list (dg.map .int)), .no, .own ((lensOf dg).map dq), .no, .no, .no, .no, .no, .no, .no, .no])
      (gs_setLcR (own := [("j", 4)]) (g := gName 4) 5 (fun _ => true) (fun j => dq (LENS.getD (dg.getD (2 + j) 0).toNat 0)) mR (ev_add ev_int (ev_ixL (ev_var 3) ev_int (dat 0 (by decide)))) (by omega) (fun i hi => ?_) ?_ (Nat.zero_le _) hN rfl (blkOk_by (N := NClip) (sc := defScope sLClip) (by decide +kernel)) (fun _ _ _ _ _ => pg_name hN rfl (Or.inl rfl)) (k := ?_) (hsw := ?_)) ?_
    · refine ⟨[4], _, tg_nm 4, fun _ h => h, rfl, fun _ s' H' C' cl fp => ?_⟩
      have ix : atI (dg.map PyData.int) (2 + (i : Int)) = some (.int (dg.getD (2 + i) 0)) := by
        have h := dat (2 + i) (by omega)
        rw [show ((2 + i : Nat) : Int) = 2 + (i : Int) by omega] at h
        exact h
      have b4 : 0 ≤ dg.getD (2 + i) 0 ∧ dg.getD (2 + i) 0 < 4 := by
        rcases (show i = 0 ∨ i = 1 ∨ i = 2 by omega) with z | z | z <;> subst z
        · exact db 2 4 rfl
        · exact db 3 4 rfl
        · exact db 4 4 rfl
      have hat : atI (LENS.map dq) (dg.getD (2 + i) 0) = some (dq (LENS.getD (dg.getD (2 + i) 0).toNat 0)) := by
        generalize dg.getD (2 + i) 0 = z at b4
        rcases (show z = 0 ∨ z = 1 ∨ z = 2 ∨ z = 3 by omega) with e | e | e | e <;> subst e <;> rfl
      refine ev_ixL (ds := LENS.map dq) (k := dg.getD (2 + i) 0) ?_ ?_ hat
      · with_reducible exact ev_tab4 _ _ _ _ _ _ _ _ _ _ _ _ _ _ _ _ _ _ _ _ _ _ _ _ _ _ _
      · exact ev_ixL (ev_var 3) (ev_add ev_int (ev_var 4)) ix
    · exact small_szl (Nat.le_trans en (by decide))
    · have e : (((List.range (1 + dg.getD 0 0).toNat).filter fun _ => true).map fun j => dq (LENS.getD (dg.getD (2 + j) 0).toNat 0)) = (lensOf dg).map dq := by
        unfold lensOf
        rw [List.map_map, List.filter_eq_self.mpr fun _ _ => rfl]
        rfl
      rw [e]
      rfl
    · rfl
    rintro G rfl
    refine gs_cons (gs_set 6 (ev_call Nm hr (ea_cons (ev_var 2) ea_nil) ⟨kind, rfl, hkind, rfl⟩) ?_)
    refine gs_keep (i := 5) rfl ?_
    have c1 : PyData.list (DL.cutD (dg.map PyData.int) (some 5) (some 12)) = .list (((dg.drop 5).take 7).map .int) := congrArg PyData.list (cut_mid dg 5 12 (by decide) (by rw [h26]; decide))
    have c2 : PyData.list (DL.cutD (dg.map PyData.int) (some 12) (some 19)) = .list (((dg.drop 12).take 7).map .int) := congrArg PyData.list (cut_mid dg 12 19 (by decide) (by rw [h26]; decide))
    have tr1 : Rtrack [.list ((lensOf dg).map dq), .list (((dg.drop 5).take 7).map .int)] (.val (dTr (trk ((dg.drop 5).take 7) 0 ((((dg.drop 5).take 7).getD 0 0 - 3 : Int) : Rat) (lensOf dg)))) :=
      ⟨_, _, rfl, ll, by rw [List.length_take, List.length_drop, h26]; rfl, fun x hx => mem9 x (List.mem_of_mem_drop (List.mem_of_mem_take hx)), lz, rfl⟩
    have tr2 : Rtrack [.list ((lensOf dg).reverse.map dq), .list (((dg.drop 12).take 7).map .int)] (.val (dTr (trk ((dg.drop 12).take 7) 0 ((((dg.drop 12).take 7).getD 0 0 - 3 : Int) : Rat) (lensOf dg).reverse))) :=
      ⟨_, _, rfl, by rw [List.length_reverse]; exact ll, by rw [List.length_take, List.length_drop, h26]; rfl, fun x hx => mem9 x (List.mem_of_mem_drop (List.mem_of_mem_take hx)), fun l hl => lz l (List.mem_reverse.mp hl), rfl⟩
    refine gs_cons (gs_setN 7 (ds := [dNt (nm1 kind, trk ((dg.drop 5).take 7) 0 ((((dg.drop 5).take 7).getD 0 0 - 3 : Int) : Rat) (lensOf dg))])
      (en_lst (ea_cons (ev_tup (ea_cons (ev_ixT (ev_var 6) ev_int rfl) (ea_cons (ev_call Tr hr (ea_cons (ev_var 5) (ea_cons (EvD.is (en_slL (ev_var 3) (eo_some ev_int) (eo_some ev_int)).im c1) ea_nil)) tr1) ea_nil))) ea_nil)) ?_)
    have hw : ∀ n1 n2 : Nat → Str, clipOf dg kind n1 n2 = { len := sumQ (lensOf dg), tracks := (clipOf dg kind n1 n2).tracks, marks := ordOf (mksOf dg (sumQ (lensOf dg)) (dg.getD 19 0 % 4).toNat) } := fun _ _ => rfl
    have ht : (clipOf dg kind nm1 nm2).tracks = (nm1 kind, trk ((dg.drop 5).take 7) 0 ((((dg.drop 5).take 7).getD 0 0 - 3 : Int) : Rat) (lensOf dg)) :: (if dg.getD 1 0 = 1 then [(nm2 kind, trk ((dg.drop 12).take 7) 0 ((((dg.drop 12).take 7).getD 0 0 - 3 : Int) : Rat) (lensOf dg).reverse)] else []) := rfl
    rw [hw]
    generalize (clipOf dg kind nm1 nm2).tracks = T at ht
    have bL : Bq 16 (sumQ (lensOf dg)) := (sumQ_sz _ (lensOf dg) rfl lz).mono (by omega)
    refine gs_cut (fun G => G = [.im (.list (ns.map .int)), .im (.int k), .im (.int kind), .im (.list (dg.map .int)), .no, .im (.list ((lensOf dg).map dq)), .im (.tuple [.str (nm1 kind), .str (nm2 kind)]), .own (T.map dNt), .no, .no, .no, .no, .no, .no]) (gs_if (et_eqI (ev_ixL (ev_var 3) ev_int (dat 1 (by decide))) ev_int) (fun c => ?_) (fun c => ?_)) ?_
    · rw [if_pos (of_decide_eq_true c)] at ht
      subst ht
      refine gs_cons (gs_app 7 (d := dNt (nm2 kind, trk ((dg.drop 12).take 7) 0 ((((dg.drop 12).take 7).getD 0 0 - 3 : Int) : Rat) (lensOf dg).reverse)) (ev_tup (ea_cons (ev_ixT (ev_var 6) ev_int rfl) (ea_cons (ev_call Tr hr (ea_cons (EvD.is (en_revL (ev_var 5)).im (congrArg PyData.list List.map_reverse.symm)) (ea_cons (EvD.is (en_slL (ev_var 3) (eo_some ev_int) (eo_some ev_int)).im c2) ea_nil)) tr2) ea_nil))) (gs_nil rfl) (hl := ?_))
      exact small_szl (show (1 : Nat) ≤ 5000 by decide)
    · rw [if_neg (of_decide_eq_false c)] at ht
      subst ht
      exact gs_nil rfl
    rintro G rfl
    refine gs_cons (gs_set 8 (EvD.is (d' := dq 0) (ev_tup (ea_cons ev_int (ea_cons ev_int ea_nil))) rfl) ?_)
    refine gs_cut (fun G => ∃ e1, G = [.im (.list (ns.map .int)), .im (.int k), .im (.int kind), .im (.list (dg.map .int)), .no, .im (.list ((lensOf dg).map dq)), .im (.tuple [.str (nm1 kind), .str (nm2 kind)]), .own (T.map dNt), .im (dq (sumQ (lensOf dg))), e1, .no, .no, .no, .no])
      (gs_forL 9 (fun i G => ∃ e1, G = [.im (.list (ns.map .int)), .im (.int k), .im (.int kind), .im (.list (dg.map .int)), .no, .im (.list ((lensOf dg).map dq)), .im (.tuple [.str (nm1 kind), .str (nm2 kind)]), .own (T.map dNt), .im (dq (sumQ ((lensOf dg).take i))), e1, .no, .no, .no, .no]) (ev_var 5) ⟨.no, rfl⟩ (fun i d G hd ⟨e1, hG⟩ => ?_) (fun G hG => ?_) npos) ?_
    · subst hG
      obtain ⟨l, hl, rfl⟩ := map_getD hd
      have bl := lz l (List.mem_of_getElem? hl)
      have bs := sumQ_sz _ ((lensOf dg).take i) rfl fun x hx => lz x (List.mem_of_mem_take hx)
      have li : ((lensOf dg).take i).length ≤ 3 := by rw [List.length_take]; omega
      refine gs_cons (gs_set 8 (ev_call Ad hr (ea_cons (ev_var 8) (ea_cons (ev_var 9) ea_nil)) (rop bs bl)) (gs_nil ⟨.im (dq l), ?_⟩))
      rw [List.take_add_one, hl]
      show _ = [_, _, _, _, _, _, _, _, Ent.im (dq (sumQ (_ ++ [l]))), _, _, _, _, _]
      rw [sumQ_snoc]
      rfl
    · obtain ⟨e1, hG⟩ := hG
      refine ⟨e1, ?_⟩
      rw [hG, List.length_map, List.take_length]
    rintro G ⟨e1, rfl⟩
    generalize sumQ (lensOf dg) = LEN at bL
    refine gs_cons (gs_setN 10 (en_lst ea_nil) ?_)
    have d19 := db 19 4 rfl
    refine gs_cut (fun G => ∃ e4 e11, G = [.im (.list (ns.map .int)), .im (.int k), .im (.int kind), .im (.list (dg.map .int)), e4, .im (.list ((lensOf dg).map dq)), .im (.tuple [.str (nm1 kind), .str (nm2 kind)]), .own (T.map dNt), .im (dq LEN), e1, .own ((mksOf dg LEN (dg.getD 19 0 % 4).toNat).map dMk), e11, .no, .no])
      (gs_forR 4 (fun i G => ∃ e4 e11, G = [.im (.list (ns.map .int)), .im (.int k), .im (.int kind), .im (.list (dg.map .int)), e4, .im (.list ((lensOf dg).map dq)), .im (.tuple [.str (nm1 kind), .str (nm2 kind)]), .own (T.map dNt), .im (dq LEN), e1, .own ((mksOf dg LEN i).map dMk), e11, .no, .no]) mR (ev_mod (ev_ixL (ev_var 3) ev_int (dat 19 (by decide))) ev_int (by decide)) (by omega) ⟨.no, .no, rfl⟩ (fun i G hi ⟨e4, e11, hG⟩ => ?_) (fun G hG => ?_) npos) ?_
    · subst hG
      have i3 : i ≤ 2 := by omega
      have mo : MulOk 2 (i : Int) := .inl (.inl (by decide))
      have ix20 : atI (dg.map PyData.int) (20 + 2 * (i : Int)) = some (.int (dg.getD (20 + 2 * i) 0)) := by
        have h := dat (20 + 2 * i) (by omega)
        rw [show ((20 + 2 * i : Nat) : Int) = 20 + 2 * (i : Int) by omega] at h
        exact h
      have ix21 : atI (dg.map PyData.int) (21 + 2 * (i : Int)) = some (.int (dg.getD (21 + 2 * i) 0)) := by
        have h := dat (21 + 2 * i) (by omega)
        rw [show ((21 + 2 * i : Nat) : Int) = 21 + 2 * (i : Int) by omega] at h
        exact h
      have b3 : 0 ≤ dg.getD (21 + 2 * i) 0 ∧ dg.getD (21 + 2 * i) 0 < 3 := by
        rcases (show i = 0 ∨ i = 1 ∨ i = 2 by omega) with z | z | z <;> subst z
        · exact db 21 3 rfl
        · exact db 23 3 rfl
        · exact db 25 3 rfl
      have b9 : 0 ≤ dg.getD (20 + 2 * i) 0 ∧ dg.getD (20 + 2 * i) 0 < 9 := by
        rcases (show i = 0 ∨ i = 1 ∨ i = 2 by omega) with z | z | z <;> subst z
        · exact db 20 9 rfl
        · exact db 22 9 rfl
        · exact db 24 9 rfl
      have hat : atI (MN.map PyData.str) (dg.getD (21 + 2 * i) 0) = some (.str (MN.getD (dg.getD (21 + 2 * i) 0).toNat "")) := by
        generalize dg.getD (21 + 2 * i) 0 = z at b3
        rcases (show z = 0 ∨ z = 1 ∨ z = 2 by omega) with e | e | e <;> subst e <;> rfl
      have bq : Bq 4 (Rat.divInt (dg.getD (20 + 2 * i) 0) 8) := Bq.frac (by decide) (by show _ < 16; omega) (by decide)
      refine gs_cons (gs_set 11 (d := dMk (mkOf dg LEN i)) (ev_tup (ea_cons (ev_call Mu hr (ea_cons (ev_var 8) (ea_cons (ev_call Lf hr (ea_cons (ev_ixL (ev_var 3) (ev_add ev_int (ev_mul ev_int (ev_var 4) mo)) ix20) (ea_cons ev_int ea_nil)) ⟨_, _, rfl, by decide, lt_pow (show (8 : Int).natAbs < 2 ^ 4 by decide), rfl⟩) ea_nil)) (rop bL bq)) (ea_cons (ev_ixL (ds := MN.map PyData.str) (k := dg.getD (21 + 2 * i) 0) (ev_tab3 _ _ _ _ _ _ _ _ _) (ev_ixL (ev_var 3) (ev_add ev_int (ev_mul ev_int (ev_var 4) mo)) ix21) hat) ea_nil))) ?_)
      have ok1 : PyData.strOk (mkOf dg LEN i).2 = true := MN_ok _
      have ok2 := mks_ok (ds := dg) (L := LEN) i
      have lm := mks_len dg LEN i
      refine gs_cons (gs_if (EvT.is (b' := !decide (mkOf dg LEN i ∈ mksOf dg LEN i)) (et_notInB hu65 (ev_var 11) (eb_own 10) (dMk_shaped _ ok1) (dMks_shaped _ ok2)) (by rw [any_dMk])) (fun c => ?_) (fun c => ?_))
      · have c' : ¬ mkOf dg LEN i ∈ mksOf dg LEN i := fun z => by
          rw [decide_eq_true z] at c
          cases c
        refine gs_cons (gs_app 10 (ev_var 11) (gs_nil (gs_nil ⟨.im (.int (i : Int)), .im (dMk (mkOf dg LEN i)), ?_⟩)) (hl := ?_))
        · have e : mksOf dg LEN (i + 1) = mksOf dg LEN i ++ [mkOf dg LEN i] := by
            show (if _ then _ else _) = _
            rw [if_neg c']
          rw [e, List.map_append]
          rfl
        · rw [List.length_map]
          exact small_szl (by omega)
      · have c' : mkOf dg LEN i ∈ mksOf dg LEN i := by
          by_cases z : mkOf dg LEN i ∈ mksOf dg LEN i
          · exact z
          · rw [decide_eq_false z] at c
            cases c
        refine gs_nil (gs_nil ⟨.im (.int (i : Int)), .im (dMk (mkOf dg LEN i)), ?_⟩)
        have e : mksOf dg LEN (i + 1) = mksOf dg LEN i := by
          show (if _ then _ else _) = _
          rw [if_pos c']
        rw [e]
        rfl
    · exact hG
    rintro G ⟨e4, e11, rfl⟩
    have nM : (dg.getD 19 0 % 4).toNat ≤ 3 := by omega
    have okM := mks_ok (ds := dg) (L := LEN) (dg.getD 19 0 % 4).toNat
    have lenM := mks_len dg LEN (dg.getD 19 0 % 4).toNat
    have szM : ∀ m ∈ mksOf dg LEN (dg.getD 19 0 % 4).toNat, Bq 20 m.1 := by
      have gen : ∀ n : Nat, n ≤ 3 → ∀ m ∈ mksOf dg LEN n, Bq 20 m.1 := by
        intro n
        induction n with
        | zero => intro _ m h; cases h
        | succ n ih =>
          intro hn m h
          have h' : m ∈ (if mkOf dg LEN n ∈ mksOf dg LEN n then mksOf dg LEN n else mksOf dg LEN n ++ [mkOf dg LEN n]) := h
          have b9 : 0 ≤ dg.getD (20 + 2 * n) 0 ∧ dg.getD (20 + 2 * n) 0 < 9 := by
            rcases (show n = 0 ∨ n = 1 ∨ n = 2 by omega) with z | z | z <;> subst z
            · exact db 20 9 rfl
            · exact db 22 9 rfl
            · exact db 24 9 rfl
          split at h'
          · exact ih (by omega) m h'
          · rcases List.mem_append.mp h' with z | z
            · exact ih (by omega) m z
            · rw [List.mem_singleton.mp z]
              exact bL.mul (m := 4) (Bq.frac (by decide) (by show _ < 16; omega) (by decide))
      exact gen _ nM
    generalize mksOf dg LEN (dg.getD 19 0 % 4).toNat = ms at okM lenM szM
    have lms : ms.length ≤ 3 := Nat.le_trans lenM nM
    refine gs_cons (gs_set 12 (en_lst ea_nil).im ?_)
    refine gs_keep (i := 10) rfl ?_
    have lq : (ms.map (·.1)).length ≤ 3 := by rw [List.length_map]; exact lms
    have lsq := Nat.le_trans (sortQ_len (ms.map (·.1))) lq
    refine gs_cut (fun G => ∃ e13 e11, G = [.im (.list (ns.map .int)), .im (.int k), .im (.int kind), .im (.list (dg.map .int)), e4, .im (.list ((lensOf dg).map dq)), .im (.tuple [.str (nm1 kind), .str (nm2 kind)]), .own (T.map dNt), .im (dq LEN), e1, .im (.list (ms.map dMk)), e11, .im (.list ((ordOf ms).map dMk)), e13])
      (gs_forL 13 (fun i G => ∃ e13 e11, G = [.im (.list (ns.map .int)), .im (.int k), .im (.int kind), .im (.list (dg.map .int)), e4, .im (.list ((lensOf dg).map dq)), .im (.tuple [.str (nm1 kind), .str (nm2 kind)]), .own (T.map dNt), .im (dq LEN), e1, .im (.list (ms.map dMk)), e11, .im (.list ((((sortQ (ms.map (·.1))).take i).flatMap fun x => (srtS (atM ms x)).map fun n => (x, n)).map dMk)), e13])
        (ev_call So hr (ea_cons (EvD.is (d' := .list ((ms.map (·.1)).map dq)) (en_lcL (own := [("marker", 11)]) (g := gName 11) ms dMk (fun _ => true) (fun m => dq m.1) (ev_var 10) (fun i m hm => ⟨[11], _, tg_nm 11, fun _ h => h, rfl, fun _ s' H' C' cl fp => ev_ixT (ev_var 11) ev_int rfl⟩) (small_szl (by omega)) (Nat.zero_le _) hN rfl (blkOk_by (N := NClip) (sc := defScope sLClip) (by decide +kernel)) (fun _ _ _ _ _ => pg_name hN rfl (Or.inl rfl))).im (by rw [List.map_map, List.filter_eq_self.mpr fun _ _ => rfl]; rfl)) ea_nil)
          ⟨ms.map (·.1), rfl, fun q hq => (by obtain ⟨m, hm, rfl⟩ := List.mem_map.mp hq; exact (szM m hm).mono (by decide)), by omega, rfl⟩)
        ⟨.no, e11, rfl⟩ (fun i d G hd ⟨e13, e11, hG⟩ => ?_) (fun G hG => ?_) npos) ?_
    · subst hG
      obtain ⟨x, hx, rfl⟩ := map_getD hd
      have hlen : ∀ l : List Rat, (l.flatMap fun x => (srtS (atM ms x)).map fun n => (x, n)).length ≤ 3 * l.length := by
        intro l
        induction l with
        | nil => exact Nat.le_refl _
        | cons a r ih =>
          rw [List.flatMap_cons, List.length_append, List.length_map, (srtS_perm _).length_eq, List.length_cons]
          have h2 : (atM ms a).length ≤ ms.length := by
            unfold atM
            rw [List.length_map]
            exact List.length_filter_le _ _
          omega
      have hl1 := hlen ((sortQ (ms.map (·.1))).take i)
      have hl2 : ((sortQ (ms.map (·.1))).take i).length ≤ 3 := by rw [List.length_take]; omega
      have hl3 : (srtS (atM ms x)).length ≤ 3 := by
        rw [(srtS_perm _).length_eq]
        unfold atM
        rw [List.length_map]
        exact Nat.le_trans (List.length_filter_le _ _) lms
      refine gs_cons (gs_set 12 (d := .list (((((sortQ (ms.map (·.1))).take i).flatMap fun x => (srtS (atM ms x)).map fun n => (x, n)).map dMk) ++ (srtS (atM ms x)).map (encN (dq x)))) (en_catL (ev_var 12) ?_ ?_).im (gs_nil ⟨.im (dq x), e11, ?_⟩))
      · refine (en_sortedPr (ds := [.int x.num, .int x.den]) (ns := atM ms x) (ms := srtS (atM ms x)) hu mS ?_ rfl (by simp [PyData.depth, PyData.depthAll]) (srtS_perm _) (srtS_srt _)).im
        refine EvD.is (d := .list ((ms.filter fun m => decide (m.1 = x)).map dMk)) (EvN.im ?_) (by rw [atM_map]; rfl)
        refine en_lcL (own := [("marker", 11)]) (g := gName 11) ms dMk (fun m => decide (m.1 = x)) dMk (ev_var 10) (fun i m hm => ?_) (small_szl (by omega)) (Nat.le_refl _) hN rfl (blkOk_by (N := NClip) (sc := defScope sLClip) (by decide +kernel)) (fun _ _ _ _ _ => pg_name hN rfl (Or.inl rfl))
        exact turn_if (tg_nm 11) (fun _ h => h) (fun s' H' C' cl fp => EvT.is (et_eq hu (ev_ixT (d := dq m.1) (ev_var 11) ev_int rfl) (ev_var 13) rfl rfl) (eqv_dq_iff _ _)) (fun _ s' H' C' cl fp => ev_var 11)
      · rw [List.length_map, List.length_map]
        exact small_sz (by omega)
      · rw [List.take_add_one, hx, List.flatMap_append, List.map_append]
        show _ = [_, _, _, _, _, _, _, _, _, _, _, _, Ent.im (PyData.list (_ ++ List.map dMk ((_ : List (Rat × Str)) ++ []))), _]
        rw [List.append_nil, List.map_map]
        rfl
    · obtain ⟨e13, e11, hG⟩ := hG
      refine ⟨e13, e11, ?_⟩
      rw [hG, List.length_map, List.take_length]
      rfl
    rintro G ⟨e13, e11', rfl⟩
    refine gs_keep (i := 7) rfl ?_
    exact gs_cons (gs_ret (ev_tup (ea_cons (ev_var 8) (ea_cons (ev_tupOf mT (ev_var 7)) (ea_cons (ev_tupOf mT (ev_var 12)) ea_nil)))) rfl)) fun ds y ⟨_, _, _, _, _, _, e⟩ => Out.noConfusion e
end

end K6

namespace K6
open PySem PySem.Spec PyProof.Rows L2 DL MT
/-! ### the program's values -/
def Rvof : List D → Out → Prop := fun ds o => ∃ (p : Pc) (t : Rat), ds = [dRow p, dq t] ∧ Bp 900 p ∧ Bq 900 t ∧ o = .val (dq (p.val t))
def Rsof : List D → Out → Prop := fun ds o => ∃ (p : Pc) (t : Rat), ds = [dRow p, dq t] ∧ Bp 900 p ∧ Bq 900 t ∧ o = .val (dq (p.b + 2 * (p.c * t)))
/-- a track and a position whose places are of some size -/
structure OkPos (tr : List Pc) (x : Rat) : Prop where
  ne : tr ≠ []
  len : tr.length ≤ 1000
  sz : ∀ p ∈ tr, Bp 900 p
  pl : ∀ u ∈ jnt 0 tr, Bq 900 (x - u)
def Rfind : List D → Out → Prop := fun ds o => ∃ (tr : List Pc) (x : Rat) (bk : Bool), ds = [dTr tr, dq x, .bool bk] ∧ OkPos tr x ∧ o = .val (.tuple [dRow (fnd bk tr x).1, dq (fnd bk tr x).2])
def Rtrk : List D → Out → Prop := fun ds o => ∃ (c : Clip) (x : Str) (tr : List Pc), ds = [dClip c, .str x] ∧ lastD (kvT c) x = some (dTr tr) ∧ o = .val (dTr tr)
def Rvat : List D → Out → Prop := fun ds o => ∃ (c : Clip) (x : Str) (tr : List Pc) (y : Rat), ds = [dClip c, .str x, dq y] ∧ lastD (kvT c) x = some (dTr tr) ∧ OkPos tr y ∧ o = .val (dq ((fnd false tr y).1.val (fnd false tr y).2))
def Rsat : List D → Out → Prop := fun ds o => ∃ (c : Clip) (x : Str) (tr : List Pc) (y : Rat) (bk : Bool), ds = [dClip c, .str x, dq y, .bool bk] ∧ lastD (kvT c) x = some (dTr tr) ∧ OkPos tr y ∧ o = .val (dq (slp (fnd bk tr y).1 (fnd bk tr y).2))
theorem OkPos.x {tr : List Pc} {x : Rat} (h : OkPos tr x) : Bq 900 x := by
  have h0 : (0 : Rat) ∈ jnt 0 tr := by
    cases tr with
    | nil => exact List.mem_cons_self
    | cons p r => exact List.mem_cons_self
  have := h.pl 0 h0
  rw [show x - 0 = x by grind] at this
  exact this
theorem OkPos.fnd {tr : List Pc} {x : Rat} (h : OkPos tr x) (bk : Bool) : Bp 900 (fnd bk tr x).1 ∧ Bq 900 (fnd bk tr x).2 := by
  refine ⟨h.sz _ (fnd_mem bk h.ne), ?_⟩
  obtain ⟨u, hu, e⟩ := fnd_place bk (tr := tr) (s := 0) (x := x)
  rw [show x - 0 = x by grind] at e
  rw [e]
  exact h.pl u hu
theorem rcmp {n m : Nat} {a b : Rat} (ha : Bq n a) (hb : Bq m b) (h1 : n ≤ 4000 := by omega) (h2 : m ≤ 4000 := by omega) : Rcmp [dq a, dq b] (.val (.int (cmpQ a b))) := ⟨a, b, rfl, ha.mono h1, hb.mono h2, rfl⟩
theorem cmpQ_lt {a b : Rat} : decide (cmpQ a b < 0) = decide (a < b) := by
  refine decide_eq_decide.mpr ?_
  unfold cmpQ
  by_cases h : a < b
  · rw [if_pos h]
    exact ⟨fun _ => h, fun _ => by decide⟩
  · rw [if_neg h]
    refine ⟨fun z => ?_, fun z => absurd z h⟩
    split at z <;> exact absurd z (by decide)
theorem cmpQ_eq {a b : Rat} : decide (cmpQ a b = 0) = decide (a = b) := by
  refine decide_eq_decide.mpr ?_
  unfold cmpQ
  by_cases h : a < b
  · rw [if_pos h]
    exact ⟨fun z => absurd z (by decide), fun z => by grind⟩
  · rw [if_neg h]
    by_cases h2 : b < a
    · rw [if_pos h2]
      exact ⟨fun z => absurd z (by decide), fun z => by grind⟩
    · rw [if_neg h2]
      exact ⟨fun _ => by grind, fun _ => rfl⟩
theorem cut_last (ds : List D) (h : ds ≠ []) : DL.cutD ds none (some (-1)) = ds.dropLast := by
  have h0 : 0 < ds.length := List.length_pos_iff.mpr h
  unfold DL.cutD
  rw [HT.sIx_none]
  have e : HT.sIx ds.length ds.length (some (-1)) = ds.length - 1 := by
    simp [HT.sIx]
    omega
  rw [e, List.dropLast_eq_take]
  rfl
section
variable {P : Program} {w : World} {K : DL.Fg} {mg : Str → Option Value} {base : Heap} {C : Addr}
theorem ok_value_of {f : Addr} {fd : FuncData} (F : Fun K "value_of" "value_of" sValueOf f fd) (hm : mg "value_of" = some (.ref f)) (hb : Binds K fd ["formula", "place"] []) (Pl : DefOk P w K mg base (L2.CX P w) 2 "plus" (Rop (· + ·))) (Ti : DefOk P w K mg base (L2.CX P w) 2 "times" (Rop (· * ·))) : DefOk P w K mg base (L2.CX P w) 3 "value_of" Rvof :=
  def_okX F scValueOf hm hb (fun ds o ⟨a, b, h, _⟩ => by rw [h]; rfl) fun cdv A outer s H E hr tk po ds o r => by
    obtain ⟨p, t, rfl, hp, ht, rfl⟩ := r
    have hN := scValueOf.nd
    have h1 := hp.c.mul ht
    have h2 := hp.b.add h1
    have h3 := ht.mul h2
    refine gs_cons (gs_unpack3 2 3 4 (EvD.is (d' := .tuple [dq p.a, dq p.b, dq p.c]) (ev_var 0) rfl) ?_)
    exact gs_cons (gs_ret (ev_call Pl hr (ea_cons (ev_var 2) (ea_cons (ev_call Ti hr (ea_cons (ev_var 1) (ea_cons (ev_call Pl hr (ea_cons (ev_var 3) (ea_cons (ev_call Ti hr (ea_cons (ev_var 4) (ea_cons (ev_var 1) ea_nil)) (rop hp.c ht)) ea_nil)) (rop hp.b h1)) ea_nil)) (rop ht h2)) ea_nil)) (rop hp.a h3)) rfl)
theorem ok_find_place {f : Addr} {fd : FuncData} (F : Fun K "find_place" "find_place" sFindPlace f fd) (hm : mg "find_place" = some (.ref f)) (hb : Binds K fd ["track", "position", "back"] []) (Mi : DefOk P w K mg base (L2.CX P w) 2 "minus" (Rop (· - ·))) (Cm : DefOk P w K mg base L2.CX0 1 "compare" Rcmp) :
    DefOk P w K mg base (L2.CX P w) 3 "find_place" Rfind :=
  def_okX F scFindPlace hm hb (fun ds o ⟨a, b, c, h, _⟩ => by rw [h]; rfl) fun cdv A outer s H E hr tk po ds o r => by
    obtain ⟨tr, x, bk, rfl, ok, rfl⟩ := r
    have hN := scFindPlace.nd
    have bx := ok.x
    refine gs_cons (gs_set 3 (ev_var 1) ?_)
    have dl : tr.dropLast.length = tr.length - 1 := List.length_dropLast
    refine gs_cut (fun G => ∃ (y : Rat) (e4 e5 e6 : Ent), G = [.im (dTr tr), .im (dq x), .im (.bool bk), .im (dq y), e4, e5, e6] ∧ fnd bk tr x = fnd bk (tr.drop (tr.length - 1)) y)
      (gs_for2T 4 5 tr.dropLast (fun p => dq p.len) dRow (fun i G => ∃ (u : Rat) (e4 e5 e6 : Ent), G = [.im (dTr tr), .im (dq x), .im (.bool bk), .im (dq (x - u)), e4, e5, e6] ∧ (jnt 0 tr)[i]? = some u ∧ fnd bk tr x = fnd bk (tr.drop i) (x - u))
        (pg_2 4 5) (EvD.is (ev_slT (ev_var 0) eo_none (eo_some ev_minus1)) ?_) ?_ (fun i p G hp ⟨u, e4, e5, e6, hG, hu, hf⟩ => ?_) (fun G hG => ?_) po) ?_
    · rw [cut_last _ fun z => ok.ne (List.map_eq_nil_iff.mp z), ← List.map_dropLast]
      rfl
    · refine ⟨0, .no, .no, .no, ?_, ?_, ?_⟩
      · rw [show x - 0 = x by grind]
        rfl
      · cases tr with
        | nil => rfl
        | cons p r => rfl
      · rw [show x - 0 = x by grind]
        rfl
    · subst hG
      have il : i < tr.dropLast.length := (List.getElem?_eq_some_iff.mp hp).1
      have il2 : i < tr.length := by omega
      have hpi : tr[i]? = some p := by
        rw [List.getElem?_eq_getElem il] at hp
        rw [List.getElem?_eq_getElem il2, ← hp, List.getElem_dropLast]
      have bp := ok.sz p (List.mem_of_getElem? hpi)
      have by_ := ok.pl u (List.mem_of_getElem? hu)
      have hu1 := jnt_succ hu hpi
      have dr : tr.drop i = p :: tr.drop (i + 1) := by
        have e := List.getElem?_eq_getElem il2
        rw [e] at hpi
        rw [← Option.some.inj hpi]
        exact List.drop_eq_getElem_cons il2
      have ne : tr.drop (i + 1) ≠ [] := fun z => by
        have := List.drop_eq_nil_iff.mp z
        omega
      rw [dr] at hf
      refine gs_cons (gs_set 6 (ev_call Cm hr (ea_cons (ev_var 3) (ea_cons (ev_var 4) ea_nil)) (rcmp by_ bp.len)) ?_)
      refine gs_cons (gs_if (et_w (ew_or (et_lt (ev_var 6) ev_int) (fun _ => ew_or1 (et_w (ew_and (et_val (ev_var 2)) (fun _ => ew_and1 (et_eqI (ev_var 6) ev_int))))))) (fun c => ?_) (fun c => ?_))
      · rw [cmpQ_lt, cmpQ_eq] at c
        have c2 : tr.drop (i + 1) = [] ∨ x - u < p.len ∨ (bk = true ∧ x - u = p.len) := by
          rcases (Bool.or_eq_true _ _).mp c with z | z
          · exact .inr (.inl (of_decide_eq_true z))
          · obtain ⟨z1, z2⟩ := (Bool.and_eq_true _ _).mp z
            exact .inr (.inr ⟨z1, of_decide_eq_true z2⟩)
        have ef : fnd bk tr x = (p, x - u) := by
          rw [hf]
          show (if _ then _ else _) = _
          rw [if_pos c2]
        refine gs_cons (gs_ret (ev_tup (ea_cons (ev_var 5) (ea_cons (ev_var 3) ea_nil))) ?_)
        rw [ef]
        rfl
      · rw [cmpQ_lt, cmpQ_eq] at c
        have c2 : ¬ (tr.drop (i + 1) = [] ∨ x - u < p.len ∨ (bk = true ∧ x - u = p.len)) := by
          rintro (z | z | z)
          · exact ne z
          · rw [decide_eq_true z] at c
            cases c
          · rw [z.1, decide_eq_true z.2, Bool.true_and, Bool.or_true] at c
            cases c
        refine gs_nil (gs_cons (gs_set 3 (ev_call Mi hr (ea_cons (ev_var 3) (ea_cons (ev_var 4) ea_nil)) (rop by_ bp.len)) (gs_nil ⟨u + p.len, .im (dq p.len), .im (dRow p), .im (.int (cmpQ (x - u) p.len)), ?_, hu1, ?_⟩)))
        · rw [show x - (u + p.len) = x - u - p.len by grind]
          rfl
        · rw [hf, show x - (u + p.len) = x - u - p.len by grind]
          show (if _ then _ else _) = _
          rw [if_neg c2]
    · obtain ⟨u, e4, e5, e6, hG, hu, hf⟩ := hG
      rw [dl] at hf
      exact ⟨x - u, e4, e5, e6, hG, hf⟩
    · rintro G ⟨y, e4, e5, e6, rfl, hf⟩
      have l0 : 0 < tr.length := List.length_pos_iff.mpr ok.ne
      have hl : tr[tr.length - 1]? = some (tr.getLast ok.ne) := by
        rw [List.getLast_eq_getElem]
        exact List.getElem?_eq_getElem (by omega)
      have ed : tr.drop (tr.length - 1) = [tr.getLast ok.ne] := by
        rw [List.drop_eq_getElem_cons (by omega), List.drop_of_length_le (by omega), List.getLast_eq_getElem]
      have ef : fnd bk tr x = (tr.getLast ok.ne, y) := by
        rw [hf, ed]
        show (if _ then _ else _) = _
        rw [if_pos (.inl rfl)]
      have hat : atI (tr.map dPc) (-1) = some (.tuple [dq (tr.getLast ok.ne).len, dRow (tr.getLast ok.ne)]) := atI_last (by rw [List.length_map]; exact get_mapD hl)
      refine gs_cons (gs_ret (ev_tup (ea_cons (ev_ixT (ev_ixT (ev_var 0) ev_minus1 hat) ev_int rfl) (ea_cons (ev_var 3) ea_nil))) ?_)
      rw [ef]
      rfl
theorem ok_track_of {f : Addr} {fd : FuncData} (F : Fun K "track_of" "track_of" sTrackOf f fd) (hm : mg "track_of" = some (.ref f)) (hb : Binds K fd ["clip", "prop"] []) (mD : mg "dict" = none) : DefOk P w K mg base L2.CX0 1 "track_of" Rtrk :=
  def_ok F scTrackOf hm hb (fun ds o ⟨a, b, c, h, _⟩ => by rw [h]; rfl) (fun cdv A outer s H E hr ds d r => by
    obtain ⟨c, x, tr, rfl, hl, e⟩ := r
    have e' := Out.val.inj e
    subst e'
    have hu : (Xn P w K mg base ["clip", "prop"] "track_of" sTrackOf f cdv A outer s H E).A.units + 64 < cLine := hr.units
    exact gs_cons (gs_ret (ev_dictIx (kvs := kvT c) (by omega) mD (ev_ixT (ev_var 0) ev_int (by rw [kvT_enc]; rfl)) (ev_var 1) hl) rfl)) fun ds y ⟨_, _, _, _, _, e⟩ => Out.noConfusion e
theorem ok_value_at {f : Addr} {fd : FuncData} (F : Fun K "value_at" "value_at" sValueAt f fd) (hm : mg "value_at" = some (.ref f)) (hb : Binds K fd ["clip", "prop", "position"] []) (Vo : DefOk P w K mg base (L2.CX P w) 3 "value_of" Rvof) (Fp : DefOk P w K mg base (L2.CX P w) 3 "find_place" Rfind) (To : DefOk P w K mg base L2.CX0 1 "track_of" Rtrk) :
    DefOk P w K mg base (L2.CX P w) 4 "value_at" Rvat :=
  def_okX F scValueAt hm hb (fun ds o ⟨a, b, c, d, h, _⟩ => by rw [h]; rfl) fun cdv A outer s H E hr tk po ds o r => by
    obtain ⟨c, x, tr, y, rfl, hl, ok, rfl⟩ := r
    have hN := scValueAt.nd
    have hf := ok.fnd false
    refine gs_cons (gs_unpack2 3 4 (ev_call Fp hr (ea_cons (ev_call To hr (ea_cons (ev_var 0) (ea_cons (ev_var 1) ea_nil)) ⟨c, x, tr, rfl, hl, rfl⟩) (ea_cons (ev_var 2) (ea_cons ev_bl ea_nil))) ⟨tr, y, false, rfl, ok, rfl⟩) ?_)
    exact gs_cons (gs_ret (ev_call Vo hr (ea_cons (ev_var 3) (ea_cons (ev_var 4) ea_nil)) ⟨_, _, rfl, hf.1, hf.2, rfl⟩) rfl)
end

end K6

namespace K6
open PySem PySem.Spec PyProof.Rows L2 DL MT
/-! ### numbers in order -/
def Rcb : List D → Out → Prop := fun ds o => ∃ (l : List Rat) (n : Nat), ds = [.list (l.map dq)] ∧ (∀ q ∈ l, Bq n q) ∧ n ≤ 4000 ∧ 1 + n * l.length ≤ 8000 ∧ o = .val (.int ((cbQ l : Nat) : Int))
def Rtop : List D → Out → Prop := fun ds o => ∃ (q : Rat) (B : Nat), ds = [dq q, .int (B : Int)] ∧ q.den ∣ B ∧ 0 < B ∧ B < 2 ^ 8001 ∧ Bq 4000 q ∧ o = .val (.int (topQ B q))
def Rasc : List D → Out → Prop := fun ds o => ∃ (l : List Rat) (n : Nat), ds = [.list (l.map dq)] ∧ (∀ q ∈ l, Bq n q) ∧ n ≤ 4000 ∧ 1 + n * l.length ≤ 8000 ∧ l.length < 63 ∧ o = .val (.list ((sortQ l).map dq))
def Rbtw : List D → Out → Prop := fun ds o => ∃ (l : List Rat) (u v : Rat), ds = [.list (l.map dq), dq u, dq v] ∧ (∀ q ∈ l, Bq 4000 q) ∧ Bq 4000 u ∧ Bq 4000 v ∧ l.length ≤ 1000 ∧ o = .val (.list ((l.filter fun q => decide (u < q) && decide (q < v)).map dq))
def Rbnd : List D → Out → Prop := fun ds o => ∃ tr : List Pc, ds = [dTr tr] ∧ (∀ p ∈ tr, Bq 4000 p.len) ∧ (∀ s ∈ jnt 0 tr, Bq 4000 s) ∧ tr.length ≤ 1000 ∧ o = .val (.list ((jnt 0 tr).map dq))
def Rtrn : List D → Out → Prop := fun ds o => ∃ tr : List Pc, ds = [dTr tr] ∧ (∀ p ∈ tr, Bp 300 p) ∧ (∀ s ∈ jnt 0 tr, Bq 300 s) ∧ tr.length ≤ 1000 ∧ o = .val (.list ((tnQ tr tr.length).map dq))
/-- a track of a clip and two positions of some size -/
structure OkExt (c : Clip) (x : Str) (tr : List Pc) (u v : Rat) : Prop where
  look : lastD (kvT c) x = some (dTr tr)
  ne : tr ≠ []
  len : tr.length ≤ 5
  ctg : Ctg tr
  pos : ∀ p ∈ tr, 0 < p.len
  sz : ∀ p ∈ tr, Bp 70 p
  jn : ∀ s ∈ jnt 0 tr, Bq 26 s
  u : Bq 150 u
  v : Bq 150 v
abbrev xvQ (tr : List Pc) (u v : Rat) : List Rat := sortQ ((posQ tr u v).map (valF 0 tr))
def Rext : List D → Out → Prop := fun ds o => ∃ (c : Clip) (x : Str) (tr : List Pc) (u v : Rat), ds = [dClip c, .str x, dq u, dq v] ∧ OkExt c x tr u v ∧ o = .val (.list ((xvQ tr u v).map dq))
def Rlow : List D → Out → Prop := fun ds o => ∃ (c : Clip) (x : Str) (tr : List Pc) (u v m : Rat), ds = [dClip c, .str x, dq u, dq v] ∧ OkExt c x tr u v ∧ (xvQ tr u v)[0]? = some m ∧ o = .val (dq m)
def Rhigh : List D → Out → Prop := fun ds o => ∃ (c : Clip) (x : Str) (tr : List Pc) (u v m : Rat), ds = [dClip c, .str x, dq u, dq v] ∧ OkExt c x tr u v ∧ (xvQ tr u v)[(xvQ tr u v).length - 1]? = some m ∧ o = .val (dq m)
theorem cmpQ_gt {a b : Rat} : decide (0 < cmpQ a b) = decide (b < a) := by
  refine decide_eq_decide.mpr ?_
  unfold cmpQ
  by_cases h : a < b
  · rw [if_pos h]
    exact ⟨fun z => absurd z (by decide), fun z => by grind⟩
  · rw [if_neg h]
    by_cases h2 : b < a
    · rw [if_pos h2]
      exact ⟨fun _ => h2, fun _ => by decide⟩
    · rw [if_neg h2]
      exact ⟨fun z => absurd z (by decide), fun z => absurd z h2⟩
theorem t1_sz {n m : Nat} {s : Rat} {p : Pc} {x : Rat} (hp : Bp n p) (hs : Bq m s) (h : x ∈ t1Q s p) : Bq (m + (n + (2 + n)) + 1) x := by
  unfold t1Q at h
  by_cases c0 : p.c = 0
  · rw [if_pos c0] at h
    cases h
  · rw [if_neg c0] at h
    have n2 : -2 * p.c ≠ 0 := fun z => c0 (by grind)
    have b2 : Bq 2 (-2 : Rat) := ⟨by decide, by decide⟩
    have bt := hp.b.div (b2.mul hp.c) n2
    by_cases c1 : 0 < p.b / (-2 * p.c) ∧ p.b / (-2 * p.c) < p.len
    · rw [if_pos c1] at h
      rw [List.mem_singleton.mp h]
      exact hs.add bt
    · rw [if_neg c1] at h
      cases h
theorem getD_at {α : Type} {l : List α} {i : Nat} {a d : α} (h : l[i]? = some a) : l.getD i d = a := by
  rw [List.getD_eq_getElem?_getD, h]
  rfl
theorem tn_sz {n m : Nat} {tr : List Pc} (hp : ∀ p ∈ tr, Bp n p) (hj : ∀ s ∈ jnt 0 tr, Bq m s) {x : Rat} (h : x ∈ tnQ tr tr.length) : Bq (m + (n + (2 + n)) + 1) x := by
  obtain ⟨i, il, h⟩ := tnQ_mem h
  have jl := jnt_len 0 tr
  rw [getD_at (List.getElem?_eq_getElem il), getD_at (List.getElem?_eq_getElem (by omega))] at h
  exact t1_sz (hp _ (List.getElem_mem il)) (hj _ (List.getElem_mem _)) h
theorem OkExt.pl {c : Clip} {x : Str} {tr : List Pc} {u v y : Rat} (h : OkExt c x tr u v) (hy : y ∈ posQ tr u v) : Bq 169 y := by
  rcases List.mem_cons.mp hy with z | z
  · rw [z]
    exact h.u.mono (by decide)
  · rcases List.mem_append.mp z with z | z
    · rcases List.mem_append.mp (btwQ_iff.mp z).1 with z | z
      · exact (h.jn y z).mono (by decide)
      · exact (tn_sz h.sz h.jn z).mono (by decide)
    · rw [List.mem_singleton.mp z]
      exact h.v.mono (by decide)
theorem OkExt.ok {c : Clip} {x : Str} {tr : List Pc} {u v y : Rat} (h : OkExt c x tr u v) (hy : Bq 169 y) : OkPos tr y ∧ Bq 604 (valF 0 tr y) := by
  have hl := h.len
  have hs : ∀ s ∈ jnt 0 tr, Bq 196 (y - s) := fun s hs => (hy.sub (h.jn s hs)).mono (by decide)
  refine ⟨⟨h.ne, by omega, fun p hp => (h.sz p hp).mono (by decide), fun s z => (hs s z).mono (by decide)⟩, ?_⟩
  rw [fnd_val h.ne h.ctg h.pos]
  obtain ⟨s, z, e⟩ := fnd_place false (tr := tr) (s := 0) (x := y)
  rw [e]
  exact ((h.sz _ (fnd_mem false h.ne)).val (hs s z)).mono (by decide)
theorem getLastAt {α : Type} (l : List α) (a : α) : (l ++ [a])[(l ++ [a]).length - 1]? = some a := by simp
section
variable {P : Program} {w : World} {K : DL.Fg} {mg : Str → Option Value} {base : Heap} {C : Addr}
theorem ok_common_bottom {f : Addr} {fd : FuncData} (F : Fun K "_common_bottom" "_common_bottom" sCommonBottom f fd) (hm : mg "_common_bottom" = some (.ref f)) (hb : Binds K fd ["values"] []) (mL : mg "lcm" = some (.builtin "math.lcm")) : DefOk P w K mg base L2.CX0 1 "_common_bottom" Rcb :=
  def_ok F scCommonBottom hm hb (fun ds o ⟨a, b, h, _⟩ => by rw [h]; rfl) (fun cdv A outer s H E hr ds d r => by
    obtain ⟨l, n, rfl, hs, hn, hz, e⟩ := r
    have e' := Out.val.inj e
    subst e'
    have hN := scCommonBottom.nd
    have npos : PassesOwn (model P w) (Xn P w K mg base ["values", "bottom", "value"] "_common_bottom" sCommonBottom f cdv A outer s H E).A (Xn P w K mg base ["values", "bottom", "value"] "_common_bottom" sCommonBottom f cdv A outer s H E).env (fun _ _ => False) := PassesOwn.never
    refine gs_cons (gs_set 1 ev_int ?_)
    refine gs_cut (fun G => ∃ e2 : Ent, G = [.im (.list (l.map dq)), .im (.int ((cbQ l : Nat) : Int)), e2])
      (gs_forL 2 (ds := l.map dq) (fun i G => ∃ e2 : Ent, G = [.im (.list (l.map dq)), .im (.int ((cbQ (l.take i) : Nat) : Int)), e2]) (ev_var 0) ⟨.no, rfl⟩ (fun i d G hd ⟨e2, hG⟩ => ?_) (fun G ⟨e2, hG⟩ => ⟨e2, by rw [hG, List.length_map, List.take_length]⟩) npos) ?_
    · subst hG
      obtain ⟨q, hq, rfl⟩ := map_getD hd
      have bq := hs q (List.mem_of_getElem? hq)
      have il : i < l.length := (List.getElem?_eq_some_iff.mp hq).1
      have b1 : cbQ (l.take i) < 2 ^ (1 + n * (l.take i).length) := cb_sz (l.take i) 1 1 (by decide) (by decide) fun x hx => hs x (List.mem_of_mem_take hx)
      have b2 : cbQ (l.take i) < 2 ^ 13000 := by
        refine lt_pow b1 ?_
        have : n * (l.take i).length ≤ n * l.length := Nat.mul_le_mul_left n (by rw [List.length_take]; omega)
        omega
      have b3 : q.den < 2 ^ 13000 := lt_pow bq.2 (by omega)
      refine gs_cons (gs_set 1 (ev_lcm mL (ev_var 1) (ev_ixT (d := .int (q.den : Int)) (ev_var 2) ev_int rfl) b2 b3) (gs_nil ⟨.im (dq q), ?_⟩))
      rw [List.take_add_one, hq]
      have e : cbQ (l.take i ++ [q]) = Nat.lcm (cbQ (l.take i)) q.den := by
        unfold cbQ
        rw [List.foldl_append]
        rfl
      show _ = [_, Ent.im (PyData.int ((cbQ (l.take i ++ [q]) : Nat) : Int)), _]
      rw [e]
      rfl
    · rintro G ⟨e2, rfl⟩
      exact gs_cons (gs_ret (ev_var 1) rfl)) fun ds y ⟨_, _, _, _, _, _, e⟩ => Out.noConfusion e
theorem ok_top_over {f : Addr} {fd : FuncData} (F : Fun K "_top_over" "_top_over" sTopOver f fd) (hm : mg "_top_over" = some (.ref f)) (hb : Binds K fd ["value", "bottom"] []) : DefOk P w K mg base L2.CX0 1 "_top_over" Rtop :=
  def_ok F scTopOver hm hb (fun ds o ⟨a, b, h, _⟩ => by rw [h]; rfl) (fun cdv A outer s H E hr ds d r => by
    obtain ⟨q, B, rfl, hd, hB, hB2, hq, e⟩ := r
    have e' := Out.val.inj e
    subst e'
    have hk : ((B / q.den : Nat) : Int).natAbs < 2 ^ 8001 := Nat.lt_of_le_of_lt (Nat.div_le_self _ _) hB2
    refine gs_cons (gs_ret (ev_mul (ev_ixT (d := .int q.num) (ev_var 0) ev_int rfl) (ev_fdiv (ev_var 1) (ev_ixT (d := .int (q.den : Int)) (ev_var 0) ev_int rfl) (wide_div (b := 4000) (by have := q.den_pos; omega) (by show ((q.den : Nat) : Int).natAbs < 2 ^ 4000; exact hq.2) (by decide) (by decide))) ?_) ?_)
    · rw [← Int.natCast_ediv]
      exact mul_ok (a := 4000) (b := 8001) hq.1 hk
    · show PyData.int _ = PyData.int _
      unfold topQ
      rw [Int.natCast_ediv]) fun ds y ⟨_, _, _, _, _, _, _, e⟩ => Out.noConfusion e
abbrev NAsc : List Str := ["values", "bottom", "tops", "value", "top"]
theorem scAscendingN : FnScope NAsc ["values"] (defScope sAscending) := ⟨rfl, rfl, rfl, by decide +kernel, rfl, by decide +kernel, by decide +kernel⟩
theorem ok_ascending {f : Addr} {fd : FuncData} (F : Fun K "ascending" "ascending" sAscending f fd) (hm : mg "ascending" = some (.ref f)) (hb : Binds K fd ["values"] []) (Nm : DefOk P w K mg base (L2.CX P w) 1 "number" (Rnum C)) (Cb : DefOk P w K mg base L2.CX0 1 "_common_bottom" Rcb) (To : DefOk P w K mg base L2.CX0 1 "_top_over" Rtop)
    (mS : mg "sorted" = none) : DefOk P w K mg base (L2.CX P w) 2 "ascending" Rasc :=
  def_okX F scAscendingN hm hb (fun ds o ⟨a, b, h, _⟩ => by rw [h]; rfl) fun cdv A outer s H E hr tk po ds o r => by
    obtain ⟨l, n, rfl, hs, hn, hz, hl, rfl⟩ := r
    have hN := scAscendingN.nd
    have hB : 0 < cbQ l := cb_pos l 1 (by decide)
    have hB2 : cbQ l < 2 ^ 8001 := lt_pow (cb_sz l 1 1 (by decide) (by decide) hs) (by omega)
    have hd : ∀ q ∈ l, q.den ∣ cbQ l := (cb_dvd l 1).2
    refine gs_cons (gs_set 1 (ev_call Cb hr (ea_cons (ev_var 0) ea_nil) ⟨l, n, rfl, hs, hn, hz, rfl⟩) ?_)
    have hlen : (sortQ l).length < 63 := Nat.lt_of_le_of_lt (sortQ_len l) hl
    refine gs_cons (gs_set 2 (d := .list (((sortQ l).map (topQ (cbQ l))).map .int)) (EvN.im (en_sortedSc (own := [("value", 3)]) (g := gName 3) l dq (topQ (cbQ l)) ((sortQ l).map (topQ (cbQ l))) tops_srt tops_mem (ev_var 0) (fun i q hq => ⟨[3], _, tg_nm 3, fun _ h => h, rfl, fun _ s' H' C' cl fp => ?_⟩) hl mS hN rfl (blkOk_by (N := NAsc) (sc := defScope sAscending) (by decide +kernel)) (fun _ _ _ _ _ => pg_name hN rfl (Or.inl rfl)))) ?_)
    · exact ev_call To hr (ea_cons (ev_var 3) (ea_cons (ev_var 1) ea_nil)) ⟨q, cbQ l, rfl, hd q (List.mem_of_getElem? hq), hB, hB2, (hs q (List.mem_of_getElem? hq)).mono hn, rfl⟩
    refine gs_cons (gs_ret (EvD.is (d' := .list ((sortQ l).map dq)) (EvN.im (en_lcL (own := [("top", 4)]) (g := gName 4) ((sortQ l).map (topQ (cbQ l))) PyData.int (fun _ => true) (fun t => dq (Rat.divInt t (cbQ l : Int))) (ev_var 2) (fun i t ht => ⟨[4], _, tg_nm 4, fun _ h => h, rfl, fun _ s' H' C' cl fp => ?_⟩) (by rw [List.length_map]; exact small_szl (by omega)) (Nat.zero_le _) hN rfl (blkOk_by (N := NAsc) (sc := defScope sAscending) (by decide +kernel)) (fun _ _ _ _ _ => pg_name hN rfl (Or.inl rfl)))) ?_) rfl)
    · exact ev_call Nm hr (ea_cons (ev_var 4) (ea_cons (ev_var 1) ea_nil)) ⟨t, (cbQ l : Int), rfl, lt_pow (show ((cbQ l : Nat) : Int).natAbs < 2 ^ 8001 from hB2), fun z => absurd z (by omega), fun _ => rfl⟩
    · rw [List.filter_eq_self.mpr fun _ _ => rfl, List.map_map]
      refine congrArg PyData.list (List.map_congr_left fun q hq => ?_)
      show dq (Rat.divInt (topQ (cbQ l) q) _) = dq q
      rw [top_back (hd q (sortQ_mem hq)) hB]
theorem scBetweenN : FnScope ["values", "first", "second", "value"] ["values", "first", "second"] (defScope sBetween) := ⟨rfl, rfl, rfl, by decide +kernel, rfl, by decide +kernel, by decide +kernel⟩
theorem ok_between {f : Addr} {fd : FuncData} (F : Fun K "between" "between" sBetween f fd) (hm : mg "between" = some (.ref f)) (hb : Binds K fd ["values", "first", "second"] []) (Cm : DefOk P w K mg base L2.CX0 1 "compare" Rcmp) : DefOk P w K mg base L2.CX0 2 "between" Rbtw :=
  def_ok F scBetweenN hm hb (fun ds o ⟨a, b, c, h, _⟩ => by rw [h]; rfl) (fun cdv A outer s H E hr ds d r => by
    obtain ⟨l, u, v, rfl, hs, hu, hv, hl, e⟩ := r
    have e' := Out.val.inj e
    subst e'
    have hN := scBetweenN.nd
    refine gs_cons (gs_ret (EvN.im (en_lcL (own := [("value", 3)]) (g := gName 3) l dq (fun q => decide (u < q) && decide (q < v)) dq (ev_var 0) (fun i q hq => ?_) (small_szl (by omega)) (Nat.le_refl _) hN rfl (blkOk_by (N := ["values", "first", "second", "value"]) (sc := defScope sBetween) (by decide +kernel)) (fun _ _ _ _ _ => pg_name hN rfl (Or.inl rfl)))) rfl)
    have bq := hs q (List.mem_of_getElem? hq)
    exact turn_if (tg_nm 3) (fun _ h => h) (fun s' H' C' cl fp => EvT.is (et_w (ew_and (et_lt (ev_call Cm hr (ea_cons (ev_var 1) (ea_cons (ev_var 3) ea_nil)) (rcmp hu bq)) ev_int) (fun _ => ew_and1 (et_lt (ev_call Cm hr (ea_cons (ev_var 3) (ea_cons (ev_var 2) ea_nil)) (rcmp bq hv)) ev_int)))) (by rw [cmpQ_lt, cmpQ_lt])) (fun _ s' H' C' cl fp => ev_var 3)) fun ds y ⟨_, _, _, _, _, _, _, _, e⟩ => Out.noConfusion e
theorem ok_bounds {f : Addr} {fd : FuncData} (F : Fun K "bounds" "bounds" sBounds f fd) (hm : mg "bounds" = some (.ref f)) (hb : Binds K fd ["track"] []) (Pl : DefOk P w K mg base (L2.CX P w) 2 "plus" (Rop (· + ·)))
    {aZ : Addr} {t1 t2 : Tok} {nZ : Nat} {sZ : Array (Option Value)} (mZ : mg "ZERO" = some (.ref aZ)) (lZ : K.lookup aZ = some ⟨.type "tuple", none, .seq #[.int 0 t1, .int 1 t2] nZ, sZ⟩) : DefOk P w K mg base (L2.CX P w) 3 "bounds" Rbnd :=
  def_okX F scBounds hm hb (fun ds o ⟨a, h, _⟩ => by rw [h]; rfl) fun cdv A outer s H E hr tk po ds o r => by
    obtain ⟨tr, rfl, hp, hj, hl, rfl⟩ := r
    have hN := scBounds.nd
    refine gs_cons (gs_setN 1 (ds := [dq 0]) (en_lst (ea_cons (EvD.is (d' := dq 0) (ev_gt2 mZ lZ) rfl) ea_nil)) ?_)
    have jl := jnt_len 0 tr
    refine gs_cut (fun G => ∃ e2 e3 : Ent, G = [.im (dTr tr), .own ((jnt 0 tr).map dq), e2, e3])
      (gs_for2T 2 3 tr (fun p => dq p.len) dRow (fun i G => ∃ e2 e3 : Ent, G = [.im (dTr tr), .own (((jnt 0 tr).take (i + 1)).map dq), e2, e3]) (pg_2 2 3) (ev_var 0) ⟨.no, .no, ?_⟩ (fun i p G hpi ⟨e2, e3, hG⟩ => ?_) (fun G ⟨e2, e3, hG⟩ => ⟨e2, e3, by rw [hG, List.take_of_length_le (by omega)]⟩) po) ?_
    · cases tr <;> rfl
    · subst hG
      have il : i < tr.length := (List.getElem?_eq_some_iff.mp hpi).1
      have i0 : i < (jnt 0 tr).length := by omega
      have hu : (jnt 0 tr)[i]? = some (jnt 0 tr)[i] := List.getElem?_eq_getElem i0
      have bu := hj _ (List.getElem_mem i0)
      have bp := hp p (List.mem_of_getElem? hpi)
      have hu1 := jnt_succ hu hpi
      have et : (jnt 0 tr).take (i + 1) = (jnt 0 tr).take i ++ [(jnt 0 tr)[i]] := List.take_succ_eq_append_getElem i0
      have et2 : (jnt 0 tr).take (i + 1 + 1) = (jnt 0 tr).take (i + 1) ++ [(jnt 0 tr)[i] + p.len] := by rw [List.take_add_one, hu1]; rfl
      have hlast : atI (((jnt 0 tr).take (i + 1)).map dq) (-1) = some (dq (jnt 0 tr)[i]) := atI_last (by rw [List.length_map, et]; exact get_mapD (getLastAt _ _))
      refine gs_cons (gs_app 1 (ev_call Pl hr (ea_cons (ev_ixB (eb_own 1) ev_minus1 hlast) (ea_cons (ev_var 2) ea_nil)) (rop bu bp)) (gs_nil ⟨.im (dq p.len), .im (dRow p), ?_⟩) (hl := ?_))
      · rw [et2, List.map_append]
        rfl
      · rw [List.length_map, List.length_take]
        exact small_szl (by omega)
    · rintro G ⟨e2, e3, rfl⟩
      exact gs_keep (i := 1) rfl (gs_cons (gs_ret (ev_var 1) rfl))
theorem ok_turns {f : Addr} {fd : FuncData} (F : Fun K "turns" "turns" sTurns f fd) (hm : mg "turns" = some (.ref f)) (hb : Binds K fd ["track"] []) (Pl : DefOk P w K mg base (L2.CX P w) 2 "plus" (Rop (· + ·))) (Ti : DefOk P w K mg base (L2.CX P w) 2 "times" (Rop (· * ·)))
    (Ov : DefOk P w K mg base (L2.CX P w) 2 "over" (Rdiv C)) (Cm : DefOk P w K mg base L2.CX0 1 "compare" Rcmp) (Bo : DefOk P w K mg base (L2.CX P w) 3 "bounds" Rbnd) (mZip : mg "zip" = none)
    {aZ : Addr} {t1 t2 : Tok} {nZ : Nat} {sZ : Array (Option Value)} (mZ : mg "ZERO" = some (.ref aZ)) (lZ : K.lookup aZ = some ⟨.type "tuple", none, .seq #[.int 0 t1, .int 1 t2] nZ, sZ⟩) : DefOk P w K mg base (L2.CX P w) 4 "turns" Rtrn :=
  def_okX F scTurns hm hb (fun ds o ⟨a, h, _⟩ => by rw [h]; rfl) fun cdv A outer s H E hr tk po ds o r => by
    obtain ⟨tr, rfl, hp, hj, hl, rfl⟩ := r
    have hN := scTurns.nd
    have hu : (Xr P w K mg base ["track", "found", "start", "length", "formula", "_", "b", "c", "place"] "turns" sTurns f cdv A outer s H E).A.units + 64 < cLine := hr.units
    have jl := jnt_len 0 tr
    refine gs_cons (gs_setN 1 (en_lst ea_nil) ?_)
    refine gs_cut (fun G => ∃ e2 e3 e4 e5 e6 e7 e8 : Ent, G = [.im (dTr tr), .own ((tnQ tr tr.length).map dq), e2, e3, e4, e5, e6, e7, e8])
      (gs_forZip 2 3 4 tr (fun p => dq p.len) dRow ((jnt 0 tr).map dq) (fun i G => ∃ e2 e3 e4 e5 e6 e7 e8 : Ent, G = [.im (dTr tr), .own ((tnQ tr i).map dq), e2, e3, e4, e5, e6, e7, e8]) mZip
        (ev_call Bo hr (ea_cons (ev_var 0) ea_nil) ⟨tr, rfl, fun p h => (hp p h).len.mono (by decide), fun s h => (hj s h).mono (by decide), hl, rfl⟩) (ev_var 0) (by rw [List.length_map, jl]; omega) ⟨.no, .no, .no, .no, .no, .no, .no, rfl⟩
        (fun i p d G hpi hui ⟨e2, e3, e4, e5, e6, e7, e8, hG⟩ => ?_) (fun G hG => hG) po (pg_1_2 2 3 4)) ?_
    · subst hG
      obtain ⟨s, hs, rfl⟩ := map_getD hui
      have bs := hj s (List.mem_of_getElem? hs)
      have bp := hp p (List.mem_of_getElem? hpi)
      have il : i < tr.length := (List.getElem?_eq_some_iff.mp hpi).1
      have et : tnQ tr (i + 1) = tnQ tr i ++ t1Q s p := by rw [tnQ_succ, getD_at hs, getD_at hpi]
      refine gs_cons (gs_unpack3 5 6 7 (EvD.is (d' := .tuple [dq p.a, dq p.b, dq p.c]) (ev_var 4) rfl) ?_)
      refine gs_cons (gs_if (EvT.is (b' := decide (p.c = 0)) (et_eq hu (ev_var 7) (EvD.is (d' := dq 0) (ev_gt2 mZ lZ) rfl) rfl rfl) (by rw [eqv_dq_iff])) (fun c => gs_cons (gs_cont ⟨.im (dq s), .im (dq p.len), .im (dRow p), .im (dq p.a), .im (dq p.b), .im (dq p.c), e8, ?_⟩)) (fun c => gs_nil ?_))
      · rw [et]
        unfold t1Q
        rw [if_pos (of_decide_eq_true c), List.append_nil]
        rfl
      · have c0 := of_decide_eq_false c
        have n2 : -2 * p.c ≠ 0 := fun z => c0 (by grind)
        have b2 : Bq 2 (-2 : Rat) := ⟨by decide, by decide⟩
        have b0 : Bq 1 (0 : Rat) := Bq.zero
        have bt := bp.b.div (b2.mul bp.c) n2
        refine gs_cons (gs_set 8 (ev_call Ov hr (ea_cons (ev_var 6) (ea_cons (ev_call Ti hr (ea_cons (EvD.is (d' := dq (-2)) (ev_tup (ea_cons (ev_neg ev_int) (ea_cons ev_int ea_nil))) rfl) (ea_cons (ev_var 7) ea_nil)) (rop b2 bp.c)) ea_nil)) ⟨p.b, -2 * p.c, rfl, bp.b.mono (by decide), (b2.mul bp.c).mono (by decide), fun z => absurd z n2, fun _ => rfl⟩) ?_)
        refine gs_cons (gs_if (EvT.is (b' := decide (0 < p.b / (-2 * p.c)) && decide (p.b / (-2 * p.c) < p.len)) (et_w (ew_and (et_gt (ev_call Cm hr (ea_cons (ev_var 8) (ea_cons (EvD.is (d' := dq 0) (ev_gt2 mZ lZ) rfl) ea_nil)) (rcmp bt b0)) ev_int) (fun _ => ew_and1 (et_lt (ev_call Cm hr (ea_cons (ev_var 8) (ea_cons (ev_var 3) ea_nil)) (rcmp bt bp.len)) ev_int)))) (by rw [cmpQ_gt, cmpQ_lt]))
          (fun c => gs_cons (gs_app 1 (ev_call Pl hr (ea_cons (ev_var 2) (ea_cons (ev_var 8) ea_nil)) (rop bs bt)) (gs_nil (gs_nil ⟨.im (dq s), .im (dq p.len), .im (dRow p), .im (dq p.a), .im (dq p.b), .im (dq p.c), .im (dq (p.b / (-2 * p.c))), ?_⟩)) (hl := ?_)))
          (fun c => gs_nil (gs_nil ⟨.im (dq s), .im (dq p.len), .im (dRow p), .im (dq p.a), .im (dq p.b), .im (dq p.c), .im (dq (p.b / (-2 * p.c))), ?_⟩)))
        · obtain ⟨c1, c2⟩ := (Bool.and_eq_true _ _).mp c
          rw [et]
          unfold t1Q
          rw [if_neg c0, if_pos ⟨of_decide_eq_true c1, of_decide_eq_true c2⟩, List.map_append]
          rfl
        · rw [List.length_map]
          have := tnQ_len (tr := tr) i
          exact small_szl (by omega)
        · rw [et]
          unfold t1Q
          rw [if_neg c0, if_neg (fun z => by rw [decide_eq_true z.1, decide_eq_true z.2] at c; cases c), List.append_nil]
          rfl
    · rintro G ⟨e2, e3, e4, e5, e6, e7, e8, rfl⟩
      exact gs_keep (i := 1) rfl (gs_cons (gs_ret (ev_var 1) rfl))
abbrev NExt : List Str := ["clip", "prop", "first", "second", "track", "positions", "position"]
theorem scExtremeN : FnScope NExt ["clip", "prop", "first", "second"] (defScope sExtremeValues) := ⟨rfl, rfl, rfl, by decide +kernel, rfl, by decide +kernel, by decide +kernel⟩
theorem ok_extreme {f : Addr} {fd : FuncData} (F : Fun K "_extreme_values" "_extreme_values" sExtremeValues f fd) (hm : mg "_extreme_values" = some (.ref f)) (hb : Binds K fd ["clip", "prop", "first", "second"] []) (To : DefOk P w K mg base L2.CX0 1 "track_of" Rtrk) (Va : DefOk P w K mg base (L2.CX P w) 4 "value_at" Rvat)
    (Bo : DefOk P w K mg base (L2.CX P w) 3 "bounds" Rbnd) (Tu : DefOk P w K mg base (L2.CX P w) 4 "turns" Rtrn) (Bt : DefOk P w K mg base L2.CX0 2 "between" Rbtw) (As : DefOk P w K mg base (L2.CX P w) 2 "ascending" Rasc) : DefOk P w K mg base (L2.CX P w) 5 "_extreme_values" Rext :=
  def_okX F scExtremeN hm hb (fun ds o ⟨a, b, c, d, e, h, _⟩ => by rw [h]; rfl) fun cdv A outer s H E hr tk po ds o r => by
    obtain ⟨c, x, tr, u, v, rfl, ok, rfl⟩ := r
    have hN := scExtremeN.nd
    have hl := ok.len
    have jl := jnt_len 0 tr
    have tl := tnQ_len (tr := tr) tr.length
    have pl := posQ_len (tr := tr) (u := u) (v := v)
    refine gs_cons (gs_set 4 (ev_call To hr (ea_cons (ev_var 0) (ea_cons (ev_var 1) ea_nil)) ⟨c, x, tr, rfl, ok.look, rfl⟩) ?_)
    refine gs_cons (gs_set 5 (d := .list ((posQ tr u v).map dq)) (EvD.is (en_lst (ea_cons (ev_var 2) (ea_star (ds := (btwQ (jnt 0 tr ++ tnQ tr tr.length) u v).map dq) (ev_call Bt hr (ea_cons (EvD.is (d' := .list ((jnt 0 tr ++ tnQ tr tr.length).map dq)) (en_catL (ev_call Bo hr (ea_cons (ev_var 4) ea_nil) ⟨tr, rfl, fun p h => (ok.sz p h).len.mono (by decide), fun s h => (ok.jn s h).mono (by decide), by omega, rfl⟩)
      (ev_call Tu hr (ea_cons (ev_var 4) ea_nil) ⟨tr, rfl, fun p h => (ok.sz p h).mono (by decide), fun s h => (ok.jn s h).mono (by decide), by omega, rfl⟩) ?_).im (by rw [List.map_append])) (ea_cons (ev_var 2) (ea_cons (ev_var 3) ea_nil))) ⟨jnt 0 tr ++ tnQ tr tr.length, u, v, rfl, fun q hq => ?_, ok.u.mono (by decide), ok.v.mono (by decide), ?_, rfl⟩) (ea_cons (ev_var 3) ea_nil))) (hl := ?_)).im ?_) ?_)
    · rw [List.length_map, List.length_map]
      exact small_sz (by omega)
    · rcases List.mem_append.mp hq with z | z
      · exact (ok.jn q z).mono (by decide)
      · exact (tn_sz ok.sz ok.jn z).mono (by decide)
    · rw [List.length_append]
      omega
    · have e : (dq u :: ((btwQ (jnt 0 tr ++ tnQ tr tr.length) u v).map dq ++ [dq v])).length = (posQ tr u v).length := by
        unfold posQ
        rw [List.length_cons, List.length_cons, List.length_append, List.length_append, List.length_map]
        rfl
      exact Nat.le_trans (Nat.le_of_eq e) (small_sz (by omega))
    · unfold posQ
      rw [List.map_cons, List.map_append]
      rfl
    · refine gs_cons (gs_ret (ev_call As hr (ea_cons (EvD.is (d' := .list (((posQ tr u v).map (valF 0 tr)).map dq)) (EvN.im (en_lcL (own := [("position", 6)]) (g := gName 6) (posQ tr u v) dq (fun _ => true) (fun y => dq (valF 0 tr y)) (ev_var 5) (fun i y hy => ⟨[6], _, tg_nm 6, fun _ h => h, rfl, fun _ s' H' C' cl fp => ?_⟩) (small_szl (by omega)) (Nat.zero_le _) hN rfl (blkOk_by (N := NExt) (sc := defScope sExtremeValues) (by decide +kernel)) (fun _ _ _ _ _ => pg_name hN rfl (Or.inl rfl)))) ?_) ea_nil)
        ⟨(posQ tr u v).map (valF 0 tr), 604, rfl, fun q hq => ?_, by decide, ?_, ?_, rfl⟩) rfl)
      · have hy' := ok.pl (List.mem_of_getElem? hy)
        refine EvD.is (ev_call Va hr (ea_cons (ev_var 0) (ea_cons (ev_var 1) (ea_cons (ev_var 6) ea_nil))) ⟨c, x, tr, y, rfl, ok.look, (ok.ok hy').1, rfl⟩) ?_
        have e := fnd_val (s := 0) (x := y) ok.ne ok.ctg ok.pos
        rw [show y - 0 = y by grind] at e
        rw [e]
      · rw [List.filter_eq_self.mpr fun _ _ => rfl, List.map_map]
        rfl
      · obtain ⟨y, hy, rfl⟩ := List.mem_map.mp hq
        exact (ok.ok (ok.pl hy)).2
      · rw [List.length_map]
        omega
      · rw [List.length_map]
        omega
theorem ok_least {f : Addr} {fd : FuncData} (F : Fun K "least_value" "least_value" sLeastValue f fd) (hm : mg "least_value" = some (.ref f)) (hb : Binds K fd ["clip", "prop", "first", "second"] []) (Ex : DefOk P w K mg base (L2.CX P w) 5 "_extreme_values" Rext) : DefOk P w K mg base (L2.CX P w) 6 "least_value" Rlow :=
  def_okX F scLeastValue hm hb (fun ds o ⟨a, b, c, d, e, m, h, _⟩ => by rw [h]; rfl) fun cdv A outer s H E hr tk po ds o r => by
    obtain ⟨c, x, tr, u, v, m, rfl, ok, hmm, rfl⟩ := r
    exact gs_cons (gs_ret (ev_ixL (ev_call Ex hr (ea_cons (ev_var 0) (ea_cons (ev_var 1) (ea_cons (ev_var 2) (ea_cons (ev_var 3) ea_nil)))) ⟨c, x, tr, u, v, rfl, ok, rfl⟩) ev_int (atI_nat (j := 0) (get_mapD hmm))) rfl)
theorem ok_greatest {f : Addr} {fd : FuncData} (F : Fun K "greatest_value" "greatest_value" sGreatestValue f fd) (hm : mg "greatest_value" = some (.ref f)) (hb : Binds K fd ["clip", "prop", "first", "second"] []) (Ex : DefOk P w K mg base (L2.CX P w) 5 "_extreme_values" Rext) : DefOk P w K mg base (L2.CX P w) 6 "greatest_value" Rhigh :=
  def_okX F scGreatestValue hm hb (fun ds o ⟨a, b, c, d, e, m, h, _⟩ => by rw [h]; rfl) fun cdv A outer s H E hr tk po ds o r => by
    obtain ⟨c, x, tr, u, v, m, rfl, ok, hmm, rfl⟩ := r
    exact gs_cons (gs_ret (ev_ixL (ev_call Ex hr (ea_cons (ev_var 0) (ea_cons (ev_var 1) (ea_cons (ev_var 2) (ea_cons (ev_var 3) ea_nil)))) ⟨c, x, tr, u, v, rfl, ok, rfl⟩) ev_minus1 (atI_last (by rw [List.length_map]; exact get_mapD hmm))) rfl)
end

end K6

namespace K6
open PySem PySem.Spec PyProof.Rows L2 DL MT
def Rlaw : List D → Out → Prop := fun ds o => ∃ ns : List Int, ds = [.list (ns.map .int)] ∧ ns.length ≤ 63 ∧ o = .val (.bool true)
def Rldiv : List D → Out → Prop := fun ds o => ∃ a b : Rat, ds = [dq a, dq b] ∧ Bq 4000 a ∧ Bq 4000 b ∧ b ≠ 0 ∧ o = .val (dq (a / b))
def Rcan : List D → Out → Prop := fun ds o => ∃ (tr : List Pc) (u v : Rat), ds = [dTr tr, dq u, dq v] ∧ (∀ p ∈ tr, Bp 300 p) ∧ (∀ s ∈ jnt 0 tr, Bq 300 s) ∧ Bq 300 u ∧ Bq 300 v ∧ tr.length ≤ 100 ∧ o = .val (.list ((canQ tr u v tr.length).map dq))
theorem nm_ne {k : Nat} (h : k < 3) : nm1 k ≠ nm2 k := by
  rcases (show k = 0 ∨ k = 1 ∨ k = 2 by omega) with z | z | z <;> subst z <;> decide
theorem dqs_lay : ∀ l : List Rat, PyData.canLayAll0 (l.map dq) = true
  | [] => by simp [PyData.canLayAll0]
  | q :: l => by
    have h : PyData.canLay0 (dq q) = true := rfl
    simp [PyData.canLayAll0, h, dqs_lay l]
theorem dqs_depth : ∀ l : List Rat, PyData.depthAll (l.map dq) ≤ 3
  | [] => by simp [PyData.depthAll]
  | q :: l => by
    have h1 := dqs_depth l
    have h2 : PyData.depth (dq q) ≤ 3 := by
      unfold dq
      simp only [PyData.depth, PyData.depthAll]
      omega
    simp only [List.map_cons, PyData.depthAll]
    omega
theorem dqs_shaped (l : List Rat) : SeqAt.shaped (.list (l.map dq)) = true := by
  have h1 := dqs_depth l
  have h2 : PyData.depth (.list (l.map dq)) ≤ 64 := by
    simp only [PyData.depth]
    omega
  show (PyData.canLay0 (.list (l.map dq)) && decide (PyData.depth (.list (l.map dq)) ≤ 64)) = true
  rw [Bool.and_eq_true]
  exact ⟨by simp only [PyData.canLay0]; exact dqs_lay l, decide_eq_true h2⟩
theorem any_dq {l : List Rat} {m : Rat} (h : m ∈ l) : ((l.map dq).any fun z => PyData.eqv z (dq m)) = true := List.any_eq_true.mpr ⟨dq m, List.mem_map_of_mem h, eqv_dq m⟩
theorem inn_sz {n m : Nat} {s q : Rat} {p : Pc} (hp : Bp n p) (hs : Bq m s) (h : q ∈ innQ s p) : Bq (m + (n + (2 + n)) + 1) q := by
  unfold innQ at h
  by_cases c0 : p.c = 0
  · rw [if_pos c0] at h
    rw [List.mem_singleton.mp h]
    exact hs.mono (by omega)
  · rw [if_neg c0] at h
    rcases List.mem_cons.mp h with z | z
    · rw [z]
      exact hs.mono (by omega)
    · rw [List.mem_singleton.mp z]
      have n2 : 2 * p.c ≠ 0 := fun z => c0 (by grind)
      have b2 : Bq 2 (2 : Rat) := ⟨by decide, by decide⟩
      exact hs.sub (hp.b.div (b2.mul hp.c) n2)
theorem can_sz {n m k : Nat} {tr : List Pc} {u v q : Rat} (hp : ∀ p ∈ tr, Bp n p) (hj : ∀ s ∈ jnt 0 tr, Bq m s) (hu : Bq k u) (hv : Bq k v) (h : q ∈ canQ tr u v tr.length) : Bq (k + (m + (n + (2 + n)) + 1)) q := by
  rcases List.mem_append.mp h with z | z
  · rcases List.mem_cons.mp z with z | z
    · rw [z]
      exact hu.mono (by omega)
    · rw [List.mem_singleton.mp z]
      exact hv.mono (by omega)
  · obtain ⟨i, hi, hx⟩ := List.mem_flatMap.mp z
    have il := List.mem_range.mp hi
    have jl := jnt_len 0 tr
    have hm := (List.mem_filter.mp hx).1
    rw [getD_at (List.getElem?_eq_getElem il), getD_at (List.getElem?_eq_getElem (show i < (jnt 0 tr).length by omega))] at hm
    exact (inn_sz (hp _ (List.getElem_mem il)) (hj _ (List.getElem_mem _)) hm).mono (by omega)
theorem twelfths : ∀ j : Nat, j < 13 → 0 ≤ Rat.divInt (j : Int) 12 ∧ Rat.divInt (j : Int) 12 ≤ 1 := by decide +kernel
theorem twelfths2 : ∀ i : Nat, i < 13 → ∀ j : Nat, j < 13 → i ≤ j → Rat.divInt (i : Int) 12 ≤ Rat.divInt (j : Int) 12 := by decide +kernel
theorem twelfth_sz {j : Nat} (h : j < 13) : Bq 4 (Rat.divInt (j : Int) 12) := Bq.frac (by decide) (show j < 16 by omega) (by decide)
theorem span_in {L s t : Rat} (h : 0 ≤ L) (h0 : 0 ≤ s) (h1 : s ≤ t) (h2 : t ≤ 1) : 0 ≤ L * s ∧ L * s ≤ L * t ∧ L * t ≤ L := by
  have a := Rat.mul_nonneg h h0
  have b := Rat.mul_nonneg h (show 0 ≤ t - s by grind)
  have c := Rat.mul_nonneg h (show 0 ≤ 1 - t by grind)
  have e1 : L * (t - s) = L * t - L * s := by grind
  have e2 : L * (1 - t) = L - L * t := by grind
  refine ⟨a, by grind, by grind⟩
theorem smp_in {u v t : Rat} (h : u ≤ v) (h0 : 0 ≤ t) (h1 : t ≤ 1) : u ≤ u + (v - u) * t ∧ u + (v - u) * t ≤ v := by
  have a := Rat.mul_nonneg (show 0 ≤ v - u by grind) h0
  have b := Rat.mul_nonneg (show 0 ≤ v - u by grind) (show 0 ≤ 1 - t by grind)
  have e : (v - u) * (1 - t) = v - u - (v - u) * t := by grind
  constructor <;> grind
theorem OkPos.vsz {c : Clip} {x : Str} {tr : List Pc} {u v y : Rat} (h : OkExt c x tr u v) (hy : Bq 179 y) : Bq 1000 (valF 0 tr y) := by
  have hs : ∀ s ∈ jnt 0 tr, Bq 206 (y - s) := fun s hs => (hy.sub (h.jn s hs)).mono (by decide)
  rw [fnd_val h.ne h.ctg h.pos]
  obtain ⟨s, z, e⟩ := fnd_place false (tr := tr) (s := 0) (x := y)
  rw [e]
  exact ((h.sz _ (fnd_mem false h.ne)).val (hs s z)).mono (by decide)
theorem srt_ends {l : List Rat} (hne : l ≠ []) : ∃ lo hi, (sortQ l)[0]? = some lo ∧ (sortQ l)[(sortQ l).length - 1]? = some hi ∧ lo ∈ l ∧ hi ∈ l ∧ ∀ y ∈ l, lo ≤ y ∧ y ≤ hi := by
  obtain ⟨a, ha⟩ := List.exists_mem_of_ne_nil l hne
  have hs := sortQ_srt l
  have h0 : 0 < (sortQ l).length := List.length_pos_of_mem (sortQ_all ha)
  refine ⟨(sortQ l)[0], (sortQ l)[(sortQ l).length - 1], List.getElem?_eq_getElem h0, List.getElem?_eq_getElem (by omega), sortQ_mem (List.getElem_mem _), sortQ_mem (List.getElem_mem _), fun y hy => ?_⟩
  obtain ⟨i, il, e⟩ := List.getElem_of_mem (sortQ_all hy)
  subst e
  constructor
  · by_cases c : i = 0
    · subst c
      exact Rat.le_refl
    · exact Rat.le_of_lt (List.pairwise_iff_getElem.mp hs 0 i h0 il (by omega))
  · by_cases c : i = (sortQ l).length - 1
    · subst c
      exact Rat.le_refl
    · exact Rat.le_of_lt (List.pairwise_iff_getElem.mp hs i ((sortQ l).length - 1) il (by omega) (by omega))
section
variable {P : Program} {w : World} {K : DL.Fg} {mg : Str → Option Value} {base : Heap} {C : Addr}
theorem ok_ldiv {f : Addr} {fd : FuncData} (F : Fun K "_law_div" "_law_div" sLDiv f fd) (hm : mg "_law_div" = some (.ref f)) (hb : Binds K fd ["a", "b"] []) (Lf : DefOk P w K mg base L2.CX0 1 "_law_f" Rf) : DefOk P w K mg base L2.CX0 2 "_law_div" Rldiv :=
  def_ok F scLDiv hm hb (fun ds o ⟨a, b, h, _⟩ => by rw [h]; rfl) (fun cdv A outer s H E hr ds d r => by
    obtain ⟨a, b, rfl, ha, hbb, h0, e⟩ := r
    have e' := Out.val.inj e
    subst e'
    refine gs_cons (gs_ret (ev_call Lf hr (ea_cons (ev_mul (ev_ixT (ev_var 0) ev_int rfl) (ev_ixT (ev_var 1) ev_int rfl) (ha.mulOk1 hbb)) (ea_cons (ev_mul (ev_ixT (ev_var 0) ev_int rfl) (ev_ixT (ev_var 1) ev_int rfl) (ha.mulOk2 hbb)) ea_nil))
      ⟨a.num * b.den, a.den * b.num, rfl, fun z => ?_, b8 ha.2 hbb.1, by rw [rat_div]⟩) rfl)
    rw [Int.mul_eq_zero] at z
    rcases z with z | z
    · exact den_ne a z
    · exact num_ne h0 z) fun ds y ⟨_, _, _, _, _, _, e⟩ => Out.noConfusion e
theorem ok_lcand {f : Addr} {fd : FuncData} (F : Fun K "_law_candidates" "_law_candidates" sLCandidates f fd) (hm : mg "_law_candidates" = some (.ref f)) (hb : Binds K fd ["track", "first", "second"] []) (Jo : DefOk P w K mg base L2.CX0 3 "_law_joints" Rjoints) (Le : DefOk P w K mg base L2.CX0 1 "_law_less" Rlt)
    (Su : DefOk P w K mg base L2.CX0 2 "_law_sub" (Rop (· - ·))) (Mu : DefOk P w K mg base L2.CX0 2 "_law_mul" (Rop (· * ·))) (Dv : DefOk P w K mg base L2.CX0 2 "_law_div" Rldiv) (mL : mg "len" = none) (mR : mg "range" = none) : DefOk P w K mg base L2.CX0 4 "_law_candidates" Rcan :=
  def_ok F scLCandidates hm hb (fun ds o ⟨a, b, c, h, _⟩ => by rw [h]; rfl) (fun cdv A outer s0 H E hr ds d r => by
    obtain ⟨tr, u, v, rfl, hp, hj, hu, hv, hlen, e⟩ := r
    have e' := Out.val.inj e
    subst e'
    have hN := scLCandidates.nd
    have npos : PassesOwn (model P w) (Xn P w K mg base ["track", "first", "second", "places", "found", "j", "a", "b", "c", "inner", "position", "inside"] "_law_candidates" sLCandidates f cdv A outer s0 H E).A (Xn P w K mg base ["track", "first", "second", "places", "found", "j", "a", "b", "c", "inner", "position", "inside"] "_law_candidates" sLCandidates f cdv A outer s0 H E).env (fun _ _ => False) := PassesOwn.never
    have jl := jnt_len 0 tr
    refine gs_cons (gs_set 3 (ev_call Jo hr (ea_cons (ev_var 0) ea_nil) ⟨tr, rfl, fun p h => (hp p h).len.mono (by decide), fun u h => (hj u h).mono (by decide), by omega, rfl⟩) ?_)
    refine gs_cons (gs_setN 4 (ds := [dq u, dq v]) (en_lst (ea_cons (ev_var 1) (ea_cons (ev_var 2) ea_nil))) ?_)
    refine gs_cut (fun G => ∃ e5 e6 e7 e8 e9 e10 e11 : Ent, G = [.im (dTr tr), .im (dq u), .im (dq v), .im (.list ((jnt 0 tr).map dq)), .own ((canQ tr u v tr.length).map dq), e5, e6, e7, e8, e9, e10, e11])
      (gs_forR 5 (fun i G => ∃ e5 e6 e7 e8 e9 e10 e11 : Ent, G = [.im (dTr tr), .im (dq u), .im (dq v), .im (.list ((jnt 0 tr).map dq)), .own ((canQ tr u v i).map dq), e5, e6, e7, e8, e9, e10, e11]) mR (ev_lenT mL (ev_var 0)) (by rw [List.length_map]; omega) ⟨.no, .no, .no, .no, .no, .no, .no, rfl⟩
        (fun i G hi ⟨e5, e6, e7, e8, e9, e10, e11, hG⟩ => ?_) (fun G hG => by rw [List.length_map] at hG; exact hG) npos) ?_
    · subst hG
      rw [List.length_map] at hi
      have il : i < tr.length := by omega
      have hpi : tr[i]? = some tr[i] := List.getElem?_eq_getElem il
      obtain ⟨s, hs⟩ : ∃ s, (jnt 0 tr)[i]? = some s := ⟨_, List.getElem?_eq_getElem (by omega)⟩
      have hs1 := jnt_succ hs hpi
      have bp := hp tr[i] (List.getElem_mem il)
      generalize tr[i] = p at hpi hs1 bp
      have bs := hj s (List.mem_of_getElem? hs)
      have be := hj _ (List.mem_of_getElem? hs1)
      have i1 : atI ((jnt 0 tr).map dq) (i : Int) = some (dq s) := atI_nat (get_mapD hs)
      have i2 : atI ((jnt 0 tr).map dq) ((i : Int) + 1) = some (dq (s + p.len)) := by
        have h := atI_nat (get_mapD (f := dq) hs1)
        rw [show ((i + 1 : Nat) : Int) = (i : Int) + 1 by omega] at h
        exact h
      have i3 : atI (tr.map dPc) (i : Int) = some (.tuple [dq p.len, .tuple [dq p.a, dq p.b, dq p.c]]) := atI_nat (get_mapD hpi)
      have ec : canQ tr u v (i + 1) = canQ tr u v i ++ c1Q s (s + p.len) u v p := by rw [canQ_succ, getD_at hs, getD_at hs1, getD_at hpi]
      refine gs_cons (gs_unpack3 6 7 8 (ev_ixT (d := .tuple [dq p.a, dq p.b, dq p.c]) (ev_ixT (ev_var 0) (ev_var 5) i3) ev_int rfl) ?_)
      refine gs_cons (gs_setN 9 (ds := [dq s]) (en_lst (ea_cons (ev_ixL (ev_var 3) (ev_var 5) i1) ea_nil)) ?_)
      refine gs_cut (fun G => G = [.im (dTr tr), .im (dq u), .im (dq v), .im (.list ((jnt 0 tr).map dq)), .own ((canQ tr u v i).map dq), .im (.int (i : Int)), .im (dq p.a), .im (dq p.b), .im (dq p.c), .own ((innQ s p).map dq), e10, e11])
        (gs_if (EvT.is (b' := !decide (p.c = 0)) (et_neI (ev_ixT (d := .int p.c.num) (ev_var 8) ev_int rfl) ev_int) (by rw [decide_eq_decide.mpr Rat.num_eq_zero])) (fun c => ?_) (fun c => gs_nil ?_)) ?_
      · have c0 : p.c ≠ 0 := fun z => by
          rw [z] at c
          cases c
        have n2 : 2 * p.c ≠ 0 := fun z => c0 (by grind)
        have b2 : Bq 2 (2 : Rat) := ⟨by decide, by decide⟩
        have bd := bp.b.div (b2.mul bp.c) n2
        refine gs_cons (gs_app 9 (ev_call Su hr (ea_cons (ev_ixL (ev_var 3) (ev_var 5) i1) (ea_cons (ev_call Dv hr (ea_cons (ev_var 7) (ea_cons (ev_call Mu hr (ea_cons (EvD.is (d' := dq 2) (ev_tup (ea_cons ev_int (ea_cons ev_int ea_nil))) rfl) (ea_cons (ev_var 8) ea_nil)) (rop b2 bp.c)) ea_nil)) ⟨p.b, 2 * p.c, rfl, bp.b.mono (by decide), (b2.mul bp.c).mono (by decide), n2, rfl⟩) ea_nil)) (rop bs bd)) (gs_nil ?_) (hl := small_szl (by show 1 ≤ 5000; decide)))
        unfold innQ
        rw [if_neg c0]
        rfl
      · have c0 : p.c = 0 := by
          by_cases z : p.c = 0
          · exact z
          · rw [decide_eq_false z] at c
            cases c
        unfold innQ
        rw [if_pos c0]
        rfl
      · rintro G rfl
        refine gs_keep (i := 9) rfl ?_
        refine gs_cons (gs_forL 10 (ds := (innQ s p).map dq) (fun n G => ∃ e10 e11 : Ent, G = [.im (dTr tr), .im (dq u), .im (dq v), .im (.list ((jnt 0 tr).map dq)), .own ((canQ tr u v i ++ ((innQ s p).take n).filter fun q => (!decide (q < s) && !decide (s + p.len < q)) && (!decide (q < u) && !decide (v < q))).map dq), .im (.int (i : Int)), .im (dq p.a), .im (dq p.b), .im (dq p.c), .im (.list ((innQ s p).map dq)), e10, e11])
          (ev_var 9) ⟨e10, e11, by rw [List.take_zero, List.filter_nil, List.append_nil]; rfl⟩ (fun n d G hd ⟨e10, e11, hG⟩ => ?_) (fun G ⟨e10, e11, hG⟩ => gs_nil ⟨.im (.int (i : Int)), .im (dq p.a), .im (dq p.b), .im (dq p.c), .im (.list ((innQ s p).map dq)), e10, e11, ?_⟩) npos)
        · subst hG
          obtain ⟨q, hq, rfl⟩ := map_getD hd
          have bq := inn_sz bp bs (List.mem_of_getElem? hq)
          have et : (innQ s p).take (n + 1) = (innQ s p).take n ++ [q] := by rw [List.take_add_one, hq]; rfl
          refine gs_cons (gs_set 11 (d := .bool (!decide (q < s) && !decide (s + p.len < q))) (ev_andV (ev_notV (ev_call Le hr (ea_cons (ev_var 10) (ea_cons (ev_ixL (ev_var 3) (ev_var 5) i1) ea_nil)) (rlt bq bs))) (fun _ => ev_one (ev_notV (ev_call Le hr (ea_cons (ev_ixL (ev_var 3) (ev_add (ev_var 5) ev_int) i2) (ea_cons (ev_var 10) ea_nil)) (rlt be bq))))) ?_)
          refine gs_cons (gs_if (EvT.is (b' := (!decide (q < s) && !decide (s + p.len < q)) && (!decide (q < u) && !decide (v < q))) (et_w (ew_and (et_val (ev_var 11)) (fun _ => ew_and (et_not (et_val (ev_call Le hr (ea_cons (ev_var 10) (ea_cons (ev_var 1) ea_nil)) (rlt bq hu)))) (fun _ => ew_and1 (et_not (et_val (ev_call Le hr (ea_cons (ev_var 2) (ea_cons (ev_var 10) ea_nil)) (rlt hv bq)))))))) rfl) (fun c => ?_) (fun c => gs_nil (gs_nil ⟨.im (dq q), .im (.bool (!decide (q < s) && !decide (s + p.len < q))), ?_⟩)))
          · refine gs_cons (gs_app 4 (ev_var 10) (gs_nil (gs_nil ⟨.im (dq q), .im (.bool (!decide (q < s) && !decide (s + p.len < q))), ?_⟩)) (hl := ?_))
            · rw [et, List.filter_append, List.filter_cons, if_pos c, List.filter_nil, ← List.append_assoc, List.map_append (l₂ := [q])]
              rfl
            · rw [List.length_map, List.length_append]
              have h1 := canQ_len (tr := tr) (u := u) (v := v) i
              have h2 := List.length_filter_le (fun q => (!decide (q < s) && !decide (s + p.len < q)) && (!decide (q < u) && !decide (v < q))) ((innQ s p).take n)
              have h3 : ((innQ s p).take n).length ≤ 2 := by
                rw [List.length_take]
                have : (innQ s p).length ≤ 2 := by
                  unfold innQ
                  split
                  · exact Nat.le_succ _
                  · exact Nat.le_refl _
                omega
              exact small_szl (by omega)
          · rw [et, List.filter_append, List.filter_cons, if_neg (by rw [c]; decide), List.filter_nil, List.append_nil]
            rfl
        · rw [hG, List.length_map, List.take_length, ec]
          rfl
    · rintro G ⟨e5, e6, e7, e8, e9, e10, e11, rfl⟩
      exact gs_keep (i := 4) rfl (gs_cons (gs_ret (ev_var 4) rfl))) fun ds y ⟨_, _, _, _, _, _, _, _, _, e⟩ => Out.noConfusion e
abbrev NLaw : List Str := ["script", "k", "clip", "digits", "first", "second", "name", "track", "low", "high", "position", "values", "value"]
theorem ok_law {f : Addr} {fd : FuncData} (F : Fun K "law" "law" sLaw f fd) (Lo : DefOk P w K mg base (L2.CX P w) 6 "least_value" Rlow) (Hi : DefOk P w K mg base (L2.CX P w) 6 "greatest_value" Rhigh) (Cl : DefOk P w K mg base L2.CX0 5 "_law_clip" Rclip) (Dr : DefOk P w K mg base L2.CX0 2 "_law_draw" Rdraw)
    (Lf : DefOk P w K mg base L2.CX0 1 "_law_f" Rf) (Mu : DefOk P w K mg base L2.CX0 2 "_law_mul" (Rop (· * ·))) (Ca : DefOk P w K mg base L2.CX0 4 "_law_candidates" Rcan) (Lv : DefOk P w K mg base L2.CX0 4 "_law_value" Rvalue) (Sa : DefOk P w K mg base L2.CX0 3 "_law_samples" Rsamples) (Le : DefOk P w K mg base L2.CX0 1 "_law_less" Rlt)
    (mR : mg "range" = none) (mL : mg "len" = none) (mMi : mg "min" = none) (mMa : mg "max" = none) : FnOk P w K mg base L2.CX0 7 f fd ["script"] (spD K Rlaw) :=
  fn_ok F scLaw (fun ds o ⟨a, h, _⟩ => by rw [h]; rfl) (fun cdv A outer s H E hr ds d r => by
    obtain ⟨ns, rfl, hlen, e⟩ := r
    have e' := Out.val.inj e
    subst e'
    have hN := scLaw.nd
    have hu65 : (Xn P w K mg base NLaw "law" sLaw f cdv A outer s H E).A.units + 65 < cLine := by
      have h := hr.un
      exact Nat.lt_of_le_of_lt (by rw [Nat.add_assoc]; exact Nat.add_le_add_left (by decide) _) h
    have npos : PassesOwn (model P w) (Xn P w K mg base NLaw "law" sLaw f cdv A outer s H E).A (Xn P w K mg base NLaw "law" sLaw f cdv A outer s H E).env (fun _ _ => False) := PassesOwn.never
    refine gs_cut (fun G => ∃ e1 e2 e3 e4 e5 e6 e7 e8 e9 e10 e11 e12 : Ent, G = [.im (.list (ns.map .int)), e1, e2, e3, e4, e5, e6, e7, e8, e9, e10, e11, e12])
      (gs_forR 1 (fun i G => ∃ e1 e2 e3 e4 e5 e6 e7 e8 e9 e10 e11 e12 : Ent, G = [.im (.list (ns.map .int)), e1, e2, e3, e4, e5, e6, e7, e8, e9, e10, e11, e12]) mR (ev_min2 mMi ev_int (ev_max2 mMa ev_int (ev_fdiv (ev_lenL mL (ev_var 0)) ev_int ⟨by decide, by decide⟩))) (by split <;> split <;> omega) ⟨_, _, _, _, _, _, _, _, _, _, _, _, rfl⟩
        (fun i G hi ⟨e1, e2, e3, e4, e5, e6, e7, e8, e9, e10, e11, e12, hG⟩ => ?_) (fun G hG => hG) npos) ?_
    · subst hG
      have hi' : i < 30 := by
        have h := hi
        split at h <;> omega
      have mo : MulOk 2 (i : Int) := .inl (.inl (by decide))
      refine gs_cons (gs_set 2 (ev_call Cl hr (ea_cons (ev_var 0) (ea_cons (EvD.is (d' := .int ((2 * i : Nat) : Int)) (ev_mul ev_int (ev_var 1) mo) (congrArg PyData.int (by omega))) (ea_cons (ev_mod (ev_var 1) ev_int (by decide)) ea_nil))) ⟨ns, 2 * i, i % 3, rfl, by omega, by omega, rfl⟩) ?_)
      have hd := drawn_clip (drawL_in (ns := ns) (k := 2 * i) sz_pos) (nm_ne (k := i % 3) (by omega))
      have hce := clip_end (dg := drawL ns (2 * i) SZ) (k := i % 3) (n1 := nm1) (n2 := nm2)
      generalize clipOf (drawL ns (2 * i) SZ) (i % 3) nm1 nm2 = c at hd hce
      refine gs_cons (gs_set 3 (ev_call Dr hr (ea_cons (ev_var 0) (ea_cons (EvD.is (d' := .int ((2 * i + 1 : Nat) : Int)) (ev_add (ev_mul ev_int (ev_var 1) mo) ev_int) (congrArg PyData.int (by omega))) (ea_cons (en_lst (ea_cons ev_int (ea_cons ev_int ea_nil))).im ea_nil))) ⟨ns, 2 * i + 1, [13, 13], rfl, by decide, by decide, by omega, rfl⟩) ?_)
      have hin := drawL_in (ns := ns) (k := 2 * i + 1) (sizes := [13, 13]) (by decide)
      generalize drawL ns (2 * i + 1) [13, 13] = dg at hin
      obtain ⟨m, M, m13, hmM, hm0, hm1, hM0, hM1⟩ : ∃ m M : Nat, M < 13 ∧ m ≤ M ∧ (m : Int) ∈ dg ∧ (∀ y ∈ dg, (m : Int) ≤ y) ∧ (M : Int) ∈ dg ∧ ∀ y ∈ dg, y ≤ (M : Int) := by
        obtain ⟨l2, db⟩ := inR_get2 hin
        match dg, l2 with
        | [a, b], _ =>
          have ha := db 0 a 13 rfl rfl
          have hb := db 1 b 13 rfl rfl
          by_cases hab : a ≤ b
          · refine ⟨a.toNat, b.toNat, by omega, by omega, ?_, fun y hy => ?_, ?_, fun y hy => ?_⟩
            · rw [show ((a.toNat : Nat) : Int) = a by omega]
              exact List.mem_cons_self
            · rcases List.mem_cons.mp hy with z | z
              · omega
              · have := List.mem_singleton.mp z
                omega
            · rw [show ((b.toNat : Nat) : Int) = b by omega]
              exact List.mem_cons_of_mem _ List.mem_cons_self
            · rcases List.mem_cons.mp hy with z | z
              · omega
              · have := List.mem_singleton.mp z
                omega
          · refine ⟨b.toNat, a.toNat, by omega, by omega, ?_, fun y hy => ?_, ?_, fun y hy => ?_⟩
            · rw [show ((b.toNat : Nat) : Int) = b by omega]
              exact List.mem_cons_of_mem _ List.mem_cons_self
            · rcases List.mem_cons.mp hy with z | z
              · omega
              · have := List.mem_singleton.mp z
                omega
            · rw [show ((a.toNat : Nat) : Int) = a by omega]
              exact List.mem_cons_self
            · rcases List.mem_cons.mp hy with z | z
              · omega
              · have := List.mem_singleton.mp z
                omega
      have bm := twelfth_sz (j := m) (by omega)
      have bM := twelfth_sz m13
      have h12 : (12 : Int).natAbs < 2 ^ 8999 := lt_pow (a := 4) (by decide)
      refine gs_cons (gs_set 4 (d := dq (c.len * Rat.divInt (m : Int) 12)) (ev_call Mu hr (ea_cons (ev_ixT (ds := [dq c.len, .tuple (c.tracks.map dNt), .tuple (c.marks.map dMk)]) (d := dq c.len) (ev_var 2) ev_int rfl) (ea_cons (ev_call Lf hr (ea_cons (ev_minL mMi (ev_var 3) hm0 hm1) (ea_cons ev_int ea_nil)) ⟨(m : Int), 12, rfl, by decide, h12, rfl⟩) ea_nil)) (rop hd.len bm)) ?_)
      refine gs_cons (gs_set 5 (d := dq (c.len * Rat.divInt (M : Int) 12)) (ev_call Mu hr (ea_cons (ev_ixT (ds := [dq c.len, .tuple (c.tracks.map dNt), .tuple (c.marks.map dMk)]) (d := dq c.len) (ev_var 2) ev_int rfl) (ea_cons (ev_call Lf hr (ea_cons (ev_maxL mMa (ev_var 3) hM0 hM1) (ea_cons ev_int ea_nil)) ⟨(M : Int), 12, rfl, by decide, h12, rfl⟩) ea_nil)) (rop hd.len bM)) ?_)
      have bu := hd.len.mul bm
      have bv := hd.len.mul bM
      have huv : 0 ≤ c.len → 0 ≤ c.len * Rat.divInt (m : Int) 12 ∧ c.len * Rat.divInt (m : Int) 12 ≤ c.len * Rat.divInt (M : Int) 12 ∧ c.len * Rat.divInt (M : Int) 12 ≤ c.len := fun h => span_in h (twelfths m (by omega)).1 (twelfths2 m (by omega) M m13 hmM) (twelfths M m13).2
      generalize c.len * Rat.divInt (m : Int) 12 = u at bu huv
      generalize c.len * Rat.divInt (M : Int) 12 = v at bv huv
      refine gs_cons (gs_for2T 6 7 c.tracks (fun q => .str q.1) (fun q => dTr q.2) (fun n G => ∃ e6 e7 e8 e9 e10 e11 e12 : Ent, G = [.im (.list (ns.map .int)), .im (.int (i : Int)), .im (dClip c), .im (.list (dg.map .int)), .im (dq u), .im (dq v), e6, e7, e8, e9, e10, e11, e12]) (pg_2 6 7) (ev_ixT (ev_var 2) ev_int rfl) ⟨_, _, _, _, _, _, _, rfl⟩ (fun n q G hq ⟨e6, e7, e8, e9, e10, e11, e12, hG⟩ => ?_) (fun G ⟨e6, e7, e8, e9, e10, e11, e12, hG⟩ => gs_nil ⟨_, _, _, _, _, e6, e7, e8, e9, e10, e11, e12, hG⟩) npos)
      subst hG
      have hm := List.mem_of_getElem? hq
      obtain ⟨t1, t2, t3, t4, t5, t6⟩ := hd.lens q hm
      have he := hce q hm
      have hj : ∀ s ∈ jnt 0 q.2, Bq 16 s := fun s hs => (jnt_sz (by decide) q.2 0 1 (Bq.zero (n := 0)) t6 s hs).mono (by omega)
      have ok : OkExt c q.1 q.2 u v := ⟨hd.look hm, t1, by omega, t3, t4, t5, fun s h => (hj s h).mono (by decide), bu.mono (by decide), bv.mono (by decide)⟩
      obtain ⟨u0, uv, vL⟩ := huv (by rw [← he]; exact endQ_ge t4)
      have vE : v ≤ endQ 0 q.2 := by rw [he]; exact vL
      obtain ⟨lo, hi, s1, s2, s3, s4, s5⟩ := srt_ends (l := (posQ q.2 u v).map (valF 0 q.2)) (by unfold posQ; exact fun z => by cases z)
      have inn : ∀ x, u ≤ x → x ≤ v → ¬ valF 0 q.2 x < lo ∧ ¬ hi < valF 0 q.2 x := fun x h1 h2 => by
        obtain ⟨⟨y, y1, y2⟩, z, z1, z2⟩ := ext_both t1 t3 t4 u0 vE h1 h2
        have a1 := (s5 _ (List.mem_map_of_mem (f := valF 0 q.2) y1)).1
        have a2 := (s5 _ (List.mem_map_of_mem (f := valF 0 q.2) z1)).2
        exact ⟨by grind, by grind⟩
      have cmem : ∀ y ∈ (posQ q.2 u v).map (valF 0 q.2), y ∈ (canQ q.2 u v q.2.length).map (valF 0 q.2) := fun y hy => by
        obtain ⟨x, hx, rfl⟩ := List.mem_map.mp hy
        exact List.mem_map_of_mem (pos_can t4 uv vE hx)
      have vsz : ∀ y ∈ (posQ q.2 u v).map (valF 0 q.2), Bq 604 y := fun y hy => by
        obtain ⟨x, hx, rfl⟩ := List.mem_map.mp hy
        exact (ok.ok (ok.pl hx)).2
      have b1 := vsz lo s3
      have b2 := vsz hi s4
      have csz : ∀ x ∈ canQ q.2 u v q.2.length, Bq 179 x := fun x hx => (can_sz (k := 20) t5 hj (bu.mono (by decide)) (bv.mono (by decide)) hx).mono (by decide)
      have lv : ∀ x, Bq 400 x → Rvalue [dTr q.2, dq x] (.val (dq (valF 0 q.2 x))) := fun x hx => ⟨q.2, x, rfl, fun p hp => (t5 p hp).mono (by decide), fun s hs => (hj s hs).mono (by decide), hx, by omega, rfl⟩
      refine gs_cons (gs_set 8 (ev_call Lo hr (ea_cons (ev_var 2) (ea_cons (ev_var 6) (ea_cons (ev_var 4) (ea_cons (ev_var 5) ea_nil)))) ⟨c, q.1, q.2, u, v, lo, rfl, ok, s1, rfl⟩) ?_)
      refine gs_cons (gs_set 9 (ev_call Hi hr (ea_cons (ev_var 2) (ea_cons (ev_var 6) (ea_cons (ev_var 4) (ea_cons (ev_var 5) ea_nil)))) ⟨c, q.1, q.2, u, v, hi, rfl, ok, s2, rfl⟩) ?_)
      have cl := canQ_len (tr := q.2) (u := u) (v := v) q.2.length
      have vals : (((canQ q.2 u v q.2.length).filter fun _ => true).map fun x => dq (valF 0 q.2 x)) = ((canQ q.2 u v q.2.length).map (valF 0 q.2)).map dq := by
        rw [List.filter_eq_self.mpr fun _ _ => rfl, List.map_map]
        rfl
      refine gs_cut (fun G => G = [.im (.list (ns.map .int)), .im (.int (i : Int)), .im (dClip c), .im (.list (dg.map .int)), .im (dq u), .im (dq v), .im (.str q.1), .im (dTr q.2), .im (dq lo), .im (dq hi), e10, .own (((canQ q.2 u v q.2.length).map (valF 0 q.2)).map dq), e12])
        (gs_setLcL (own := [("position", 10)]) (g := gName 10) 11 (canQ q.2 u v q.2.length) dq (fun _ => true) (fun x => dq (valF 0 q.2 x))
        (ev_call Ca hr (ea_cons (ev_var 7) (ea_cons (ev_var 4) (ea_cons (ev_var 5) ea_nil))) ⟨q.2, u, v, rfl, fun p hp => (t5 p hp).mono (by decide), fun s hs => (hj s hs).mono (by decide), bu.mono (by decide), bv.mono (by decide), by omega, rfl⟩)
        (fun j x hx => ⟨[10], _, tg_nm 10, fun _ h => h, rfl, fun _ s' H' C' cl fp => ev_call Lv hr (ea_cons (ev_var 7) (ea_cons (ev_var 10) ea_nil)) (lv x ((csz x (List.mem_of_getElem? hx)).mono (by decide)))⟩) (small_szl (by omega)) (Nat.zero_le _) hN rfl (blkOk_by (N := NLaw) (sc := defScope sLaw) (by decide +kernel)) (fun _ _ _ _ _ => pg_name hN rfl (Or.inl rfl)) (k := by rw [vals]; rfl) (hsw := rfl)) ?_
      rintro G rfl
      refine gs_keep (i := 11) rfl ?_
      refine gs_cons (gs_ifF (EvT.is (et_w (ew_or (et_notInD hu65 (ev_var 8) (ev_var 11) rfl (dqs_shaped _)) (fun _ => ew_or1 (et_notInD hu65 (ev_var 9) (ev_var 11) rfl (dqs_shaped _))))) (by rw [any_dq (cmem lo s3), any_dq (cmem hi s4)]; rfl)) ?_)
      refine gs_cut (fun G => ∃ e10 e12 : Ent, G = [.im (.list (ns.map .int)), .im (.int (i : Int)), .im (dClip c), .im (.list (dg.map .int)), .im (dq u), .im (dq v), .im (.str q.1), .im (dTr q.2), .im (dq lo), .im (dq hi), e10, .im (.list (((canQ q.2 u v q.2.length).map (valF 0 q.2)).map dq)), e12])
        (gs_forL 10 (ds := ((List.range (12 + 1)).map fun j : Nat => u + (v - u) * Rat.divInt (j : Int) 12).map dq) (fun n G => ∃ e10 e12 : Ent, G = [.im (.list (ns.map .int)), .im (.int (i : Int)), .im (dClip c), .im (.list (dg.map .int)), .im (dq u), .im (dq v), .im (.str q.1), .im (dTr q.2), .im (dq lo), .im (dq hi), e10, .im (.list (((canQ q.2 u v q.2.length).map (valF 0 q.2)).map dq)), e12])
          (EvD.is (ev_call Sa hr (ea_cons (ev_var 4) (ea_cons (ev_var 5) (ea_cons ev_int ea_nil))) ⟨u, v, 12, rfl, bu.mono (by decide), bv.mono (by decide), by decide, by decide, rfl⟩) (by rw [List.map_map]; rfl)) ⟨_, _, rfl⟩ (fun n d G hx ⟨e10, e12, hG⟩ => ?_) (fun G hG => hG) npos) ?_
      · subst hG
        obtain ⟨x, hx', rfl⟩ := map_getD hx
        obtain ⟨j, hj', rfl⟩ := List.mem_map.mp (List.mem_of_getElem? hx')
        have j13 := List.mem_range.mp hj'
        obtain ⟨x1, x2⟩ := smp_in uv (twelfths j j13).1 (twelfths j j13).2
        have bx := bu.add ((bv.sub bu).mul (twelfth_sz j13))
        generalize u + (v - u) * Rat.divInt (j : Int) 12 = x at x1 x2 bx
        have bvx := (ok.ok (bx.mono (by decide))).2
        obtain ⟨n1, n2⟩ := inn x x1 x2
        refine gs_cons (gs_set 12 (ev_call Lv hr (ea_cons (ev_var 7) (ea_cons (ev_var 10) ea_nil)) (lv x (bx.mono (by decide)))) ?_)
        exact gs_cons (gs_ifF (EvT.is (et_w (ew_or (et_val (ev_call Le hr (ea_cons (ev_var 12) (ea_cons (ev_var 8) ea_nil)) (rlt bvx b1))) (fun _ => ew_or1 (et_val (ev_call Le hr (ea_cons (ev_var 9) (ea_cons (ev_var 12) ea_nil)) (rlt b2 bvx)))))) (by rw [decide_eq_false n1, decide_eq_false n2]; rfl)) (gs_nil ⟨_, _, rfl⟩))
      · rintro G ⟨e10, e12, rfl⟩
        refine gs_cons (gs_forL 12 (ds := ((canQ q.2 u v q.2.length).map (valF 0 q.2)).map dq) (fun n G => ∃ e12 : Ent, G = [.im (.list (ns.map .int)), .im (.int (i : Int)), .im (dClip c), .im (.list (dg.map .int)), .im (dq u), .im (dq v), .im (.str q.1), .im (dTr q.2), .im (dq lo), .im (dq hi), e10, .im (.list (((canQ q.2 u v q.2.length).map (valF 0 q.2)).map dq)), e12])
          (ev_var 11) ⟨_, rfl⟩ (fun n d G hx ⟨e12, hG⟩ => ?_) (fun G ⟨e12, hG⟩ => gs_nil ⟨_, _, _, _, _, _, e12, hG⟩) npos)
        subst hG
        obtain ⟨y, hy, rfl⟩ := map_getD hx
        obtain ⟨x, hx', rfl⟩ := List.mem_map.mp (List.mem_of_getElem? hy)
        obtain ⟨x1, x2⟩ := canQ_in uv hx'
        obtain ⟨n1, n2⟩ := inn x x1 x2
        have bvx := OkPos.vsz ok (csz x hx')
        exact gs_cons (gs_ifF (EvT.is (et_w (ew_or (et_val (ev_call Le hr (ea_cons (ev_var 12) (ea_cons (ev_var 8) ea_nil)) (rlt bvx b1))) (fun _ => ew_or1 (et_val (ev_call Le hr (ea_cons (ev_var 9) (ea_cons (ev_var 12) ea_nil)) (rlt b2 bvx)))))) (by rw [decide_eq_false n1, decide_eq_false n2]; rfl)) (gs_nil ⟨_, rfl⟩))
    · rintro G ⟨e1, e2, e3, e4, e5, e6, e7, e8, e9, e10, e11, e12, rfl⟩
      exact gs_cons (gs_ret ev_bl rfl)) fun ds y ⟨_, _, _, e⟩ => Out.noConfusion e
end
end K6

namespace K6
open PySem PySem.Spec PyProof.Rows L2 DL MT
theorem all_mk {l : PySem.W.OpenLaw} {w : World} {K : PySem.W.Frag} {h : Heap} {mg : Str → Option Value} {fa : Addr} (X : K.In h) (G : h.Ns mainGlobals mg) (hfa : mg "law" = some (.ref fa))
    {CN : Addr} (aCN : PySem.W.nsIn K mainGlobals "NumberError" = some (some (.ref CN))) (eCN : PySem.W.excIn K CN [.type "ValueError", .type "Exception", .type "BaseException", .type "object"] "ValueError.__new__" = true) (kCN : PySem.W.keepIn K (.ref CN) = true) (bCN : PySem.W.subIn K (.ref CN) (.type "BaseException") = some true) (tCN : PySem.W.typeIn K (.ref CN) = some (.type "type")) (iCN : PySem.W.isClsIn K CN = true) (sCN : PySem.W.subIn K (.ref CN) (.ref CN) = some true)
    {f0 : Addr} {od0 an0 : Option Addr} {sl0 : Array (Option Value)} {oc0 kV0 dc0 pm0 cd0 ct0 : Value} (a0 : PySem.W.nsIn K mainGlobals "number" = some (some (.ref f0))) (l0 : K.lookup f0 = some ⟨oc0, od0, .func (PySem.W.fnOf "number" "number" (defArgs sNumber) (defBody sNumber) (defScope sNumber) .none kV0 dc0 pm0 an0 cd0 ct0), sl0⟩) (c0 : PySem.W.codeIn K cd0 "number" = true) (k0 : PySem.W.keepIn K (.ref f0) = true)
    {f1 : Addr} {od1 an1 : Option Addr} {sl1 : Array (Option Value)} {oc1 kV1 dc1 pm1 cd1 ct1 : Value} (a1 : PySem.W.nsIn K mainGlobals "plus" = some (some (.ref f1))) (l1 : K.lookup f1 = some ⟨oc1, od1, .func (PySem.W.fnOf "plus" "plus" (defArgs sPlus) (defBody sPlus) (defScope sPlus) .none kV1 dc1 pm1 an1 cd1 ct1), sl1⟩) (c1 : PySem.W.codeIn K cd1 "plus" = true) (k1 : PySem.W.keepIn K (.ref f1) = true)
    {f2 : Addr} {od2 an2 : Option Addr} {sl2 : Array (Option Value)} {oc2 kV2 dc2 pm2 cd2 ct2 : Value} (a2 : PySem.W.nsIn K mainGlobals "minus" = some (some (.ref f2))) (l2 : K.lookup f2 = some ⟨oc2, od2, .func (PySem.W.fnOf "minus" "minus" (defArgs sMinus) (defBody sMinus) (defScope sMinus) .none kV2 dc2 pm2 an2 cd2 ct2), sl2⟩) (c2 : PySem.W.codeIn K cd2 "minus" = true) (k2 : PySem.W.keepIn K (.ref f2) = true)
    {f3 : Addr} {od3 an3 : Option Addr} {sl3 : Array (Option Value)} {oc3 kV3 dc3 pm3 cd3 ct3 : Value} (a3 : PySem.W.nsIn K mainGlobals "times" = some (some (.ref f3))) (l3 : K.lookup f3 = some ⟨oc3, od3, .func (PySem.W.fnOf "times" "times" (defArgs sTimes) (defBody sTimes) (defScope sTimes) .none kV3 dc3 pm3 an3 cd3 ct3), sl3⟩) (c3 : PySem.W.codeIn K cd3 "times" = true) (k3 : PySem.W.keepIn K (.ref f3) = true)
    {f4 : Addr} {od4 an4 : Option Addr} {sl4 : Array (Option Value)} {oc4 kV4 dc4 pm4 cd4 ct4 : Value} (a4 : PySem.W.nsIn K mainGlobals "over" = some (some (.ref f4))) (l4 : K.lookup f4 = some ⟨oc4, od4, .func (PySem.W.fnOf "over" "over" (defArgs sOver) (defBody sOver) (defScope sOver) .none kV4 dc4 pm4 an4 cd4 ct4), sl4⟩) (c4 : PySem.W.codeIn K cd4 "over" = true) (k4 : PySem.W.keepIn K (.ref f4) = true)
    {f5 : Addr} {od5 an5 : Option Addr} {sl5 : Array (Option Value)} {oc5 kV5 dc5 pm5 cd5 ct5 : Value} (a5 : PySem.W.nsIn K mainGlobals "compare" = some (some (.ref f5))) (l5 : K.lookup f5 = some ⟨oc5, od5, .func (PySem.W.fnOf "compare" "compare" (defArgs sCompare) (defBody sCompare) (defScope sCompare) .none kV5 dc5 pm5 an5 cd5 ct5), sl5⟩) (c5 : PySem.W.codeIn K cd5 "compare" = true) (k5 : PySem.W.keepIn K (.ref f5) = true)
    {f6 : Addr} {od6 an6 : Option Addr} {sl6 : Array (Option Value)} {oc6 kV6 dc6 pm6 cd6 ct6 : Value} (a6 : PySem.W.nsIn K mainGlobals "ascending" = some (some (.ref f6))) (l6 : K.lookup f6 = some ⟨oc6, od6, .func (PySem.W.fnOf "ascending" "ascending" (defArgs sAscending) (defBody sAscending) (defScope sAscending) .none kV6 dc6 pm6 an6 cd6 ct6), sl6⟩) (c6 : PySem.W.codeIn K cd6 "ascending" = true) (k6 : PySem.W.keepIn K (.ref f6) = true)
    {f7 : Addr} {od7 an7 : Option Addr} {sl7 : Array (Option Value)} {oc7 kV7 dc7 pm7 cd7 ct7 : Value} (a7 : PySem.W.nsIn K mainGlobals "between" = some (some (.ref f7))) (l7 : K.lookup f7 = some ⟨oc7, od7, .func (PySem.W.fnOf "between" "between" (defArgs sBetween) (defBody sBetween) (defScope sBetween) .none kV7 dc7 pm7 an7 cd7 ct7), sl7⟩) (c7 : PySem.W.codeIn K cd7 "between" = true) (k7 : PySem.W.keepIn K (.ref f7) = true)
    {f8 : Addr} {od8 an8 : Option Addr} {sl8 : Array (Option Value)} {oc8 kV8 dc8 pm8 cd8 ct8 : Value} (a8 : PySem.W.nsIn K mainGlobals "_common_bottom" = some (some (.ref f8))) (l8 : K.lookup f8 = some ⟨oc8, od8, .func (PySem.W.fnOf "_common_bottom" "_common_bottom" (defArgs sCommonBottom) (defBody sCommonBottom) (defScope sCommonBottom) .none kV8 dc8 pm8 an8 cd8 ct8), sl8⟩) (c8 : PySem.W.codeIn K cd8 "_common_bottom" = true) (k8 : PySem.W.keepIn K (.ref f8) = true)
    {f9 : Addr} {od9 an9 : Option Addr} {sl9 : Array (Option Value)} {oc9 kV9 dc9 pm9 cd9 ct9 : Value} (a9 : PySem.W.nsIn K mainGlobals "_top_over" = some (some (.ref f9))) (l9 : K.lookup f9 = some ⟨oc9, od9, .func (PySem.W.fnOf "_top_over" "_top_over" (defArgs sTopOver) (defBody sTopOver) (defScope sTopOver) .none kV9 dc9 pm9 an9 cd9 ct9), sl9⟩) (c9 : PySem.W.codeIn K cd9 "_top_over" = true) (k9 : PySem.W.keepIn K (.ref f9) = true)
    {f10 : Addr} {od10 an10 : Option Addr} {sl10 : Array (Option Value)} {oc10 kV10 dc10 pm10 cd10 ct10 : Value} (a10 : PySem.W.nsIn K mainGlobals "track_of" = some (some (.ref f10))) (l10 : K.lookup f10 = some ⟨oc10, od10, .func (PySem.W.fnOf "track_of" "track_of" (defArgs sTrackOf) (defBody sTrackOf) (defScope sTrackOf) .none kV10 dc10 pm10 an10 cd10 ct10), sl10⟩) (c10 : PySem.W.codeIn K cd10 "track_of" = true) (k10 : PySem.W.keepIn K (.ref f10) = true)
    {f11 : Addr} {od11 an11 : Option Addr} {sl11 : Array (Option Value)} {oc11 kV11 dc11 pm11 cd11 ct11 : Value} (a11 : PySem.W.nsIn K mainGlobals "value_of" = some (some (.ref f11))) (l11 : K.lookup f11 = some ⟨oc11, od11, .func (PySem.W.fnOf "value_of" "value_of" (defArgs sValueOf) (defBody sValueOf) (defScope sValueOf) .none kV11 dc11 pm11 an11 cd11 ct11), sl11⟩) (c11 : PySem.W.codeIn K cd11 "value_of" = true) (k11 : PySem.W.keepIn K (.ref f11) = true)
    {f12 : Addr} {od12 an12 : Option Addr} {sl12 : Array (Option Value)} {oc12 kV12 dc12 pm12 cd12 ct12 : Value} (a12 : PySem.W.nsIn K mainGlobals "find_place" = some (some (.ref f12))) (l12 : K.lookup f12 = some ⟨oc12, od12, .func (PySem.W.fnOf "find_place" "find_place" (defArgs sFindPlace) (defBody sFindPlace) (defScope sFindPlace) .none kV12 dc12 pm12 an12 cd12 ct12), sl12⟩) (c12 : PySem.W.codeIn K cd12 "find_place" = true) (k12 : PySem.W.keepIn K (.ref f12) = true)
    {f13 : Addr} {od13 an13 : Option Addr} {sl13 : Array (Option Value)} {oc13 kV13 dc13 pm13 cd13 ct13 : Value} (a13 : PySem.W.nsIn K mainGlobals "bounds" = some (some (.ref f13))) (l13 : K.lookup f13 = some ⟨oc13, od13, .func (PySem.W.fnOf "bounds" "bounds" (defArgs sBounds) (defBody sBounds) (defScope sBounds) .none kV13 dc13 pm13 an13 cd13 ct13), sl13⟩) (c13 : PySem.W.codeIn K cd13 "bounds" = true) (k13 : PySem.W.keepIn K (.ref f13) = true)
    {f14 : Addr} {od14 an14 : Option Addr} {sl14 : Array (Option Value)} {oc14 kV14 dc14 pm14 cd14 ct14 : Value} (a14 : PySem.W.nsIn K mainGlobals "turns" = some (some (.ref f14))) (l14 : K.lookup f14 = some ⟨oc14, od14, .func (PySem.W.fnOf "turns" "turns" (defArgs sTurns) (defBody sTurns) (defScope sTurns) .none kV14 dc14 pm14 an14 cd14 ct14), sl14⟩) (c14 : PySem.W.codeIn K cd14 "turns" = true) (k14 : PySem.W.keepIn K (.ref f14) = true)
    {f15 : Addr} {od15 an15 : Option Addr} {sl15 : Array (Option Value)} {oc15 kV15 dc15 pm15 cd15 ct15 : Value} (a15 : PySem.W.nsIn K mainGlobals "value_at" = some (some (.ref f15))) (l15 : K.lookup f15 = some ⟨oc15, od15, .func (PySem.W.fnOf "value_at" "value_at" (defArgs sValueAt) (defBody sValueAt) (defScope sValueAt) .none kV15 dc15 pm15 an15 cd15 ct15), sl15⟩) (c15 : PySem.W.codeIn K cd15 "value_at" = true) (k15 : PySem.W.keepIn K (.ref f15) = true)
    {f16 : Addr} {od16 an16 : Option Addr} {sl16 : Array (Option Value)} {oc16 kV16 dc16 pm16 cd16 ct16 : Value} (a16 : PySem.W.nsIn K mainGlobals "least_value" = some (some (.ref f16))) (l16 : K.lookup f16 = some ⟨oc16, od16, .func (PySem.W.fnOf "least_value" "least_value" (defArgs sLeastValue) (defBody sLeastValue) (defScope sLeastValue) .none kV16 dc16 pm16 an16 cd16 ct16), sl16⟩) (c16 : PySem.W.codeIn K cd16 "least_value" = true) (k16 : PySem.W.keepIn K (.ref f16) = true)
    {f17 : Addr} {od17 an17 : Option Addr} {sl17 : Array (Option Value)} {oc17 kV17 dc17 pm17 cd17 ct17 : Value} (a17 : PySem.W.nsIn K mainGlobals "greatest_value" = some (some (.ref f17))) (l17 : K.lookup f17 = some ⟨oc17, od17, .func (PySem.W.fnOf "greatest_value" "greatest_value" (defArgs sGreatestValue) (defBody sGreatestValue) (defScope sGreatestValue) .none kV17 dc17 pm17 an17 cd17 ct17), sl17⟩) (c17 : PySem.W.codeIn K cd17 "greatest_value" = true) (k17 : PySem.W.keepIn K (.ref f17) = true)
    {f18 : Addr} {od18 an18 : Option Addr} {sl18 : Array (Option Value)} {oc18 kV18 dc18 pm18 cd18 ct18 : Value} (a18 : PySem.W.nsIn K mainGlobals "_extreme_values" = some (some (.ref f18))) (l18 : K.lookup f18 = some ⟨oc18, od18, .func (PySem.W.fnOf "_extreme_values" "_extreme_values" (defArgs sExtremeValues) (defBody sExtremeValues) (defScope sExtremeValues) .none kV18 dc18 pm18 an18 cd18 ct18), sl18⟩) (c18 : PySem.W.codeIn K cd18 "_extreme_values" = true) (k18 : PySem.W.keepIn K (.ref f18) = true)
    {f19 : Addr} {od19 an19 : Option Addr} {sl19 : Array (Option Value)} {oc19 kV19 dc19 pm19 cd19 ct19 : Value} (a19 : PySem.W.nsIn K mainGlobals "_law_cell" = some (some (.ref f19))) (l19 : K.lookup f19 = some ⟨oc19, od19, .func (PySem.W.fnOf "_law_cell" "_law_cell" (defArgs sCell) (defBody sCell) (defScope sCell) .none kV19 dc19 pm19 an19 cd19 ct19), sl19⟩) (c19 : PySem.W.codeIn K cd19 "_law_cell" = true) (k19 : PySem.W.keepIn K (.ref f19) = true)
    {f20 : Addr} {od20 an20 : Option Addr} {sl20 : Array (Option Value)} {oc20 kV20 dc20 pm20 cd20 ct20 : Value} (a20 : PySem.W.nsIn K mainGlobals "_law_draw" = some (some (.ref f20))) (l20 : K.lookup f20 = some ⟨oc20, od20, .func (PySem.W.fnOf "_law_draw" "_law_draw" (defArgs sDraw) (defBody sDraw) (defScope sDraw) .none kV20 dc20 pm20 an20 cd20 ct20), sl20⟩) (c20 : PySem.W.codeIn K cd20 "_law_draw" = true) (k20 : PySem.W.keepIn K (.ref f20) = true)
    {f21 : Addr} {od21 an21 : Option Addr} {sl21 : Array (Option Value)} {oc21 kV21 dc21 pm21 cd21 ct21 : Value} (a21 : PySem.W.nsIn K mainGlobals "_law_f" = some (some (.ref f21))) (l21 : K.lookup f21 = some ⟨oc21, od21, .func (PySem.W.fnOf "_law_f" "_law_f" (defArgs sF) (defBody sF) (defScope sF) .none kV21 dc21 pm21 an21 cd21 ct21), sl21⟩) (c21 : PySem.W.codeIn K cd21 "_law_f" = true) (k21 : PySem.W.keepIn K (.ref f21) = true)
    {f22 : Addr} {od22 an22 : Option Addr} {sl22 : Array (Option Value)} {oc22 kV22 dc22 pm22 cd22 ct22 : Value} (a22 : PySem.W.nsIn K mainGlobals "_law_add" = some (some (.ref f22))) (l22 : K.lookup f22 = some ⟨oc22, od22, .func (PySem.W.fnOf "_law_add" "_law_add" (defArgs sLAdd) (defBody sLAdd) (defScope sLAdd) .none kV22 dc22 pm22 an22 cd22 ct22), sl22⟩) (c22 : PySem.W.codeIn K cd22 "_law_add" = true) (k22 : PySem.W.keepIn K (.ref f22) = true)
    {f23 : Addr} {od23 an23 : Option Addr} {sl23 : Array (Option Value)} {oc23 kV23 dc23 pm23 cd23 ct23 : Value} (a23 : PySem.W.nsIn K mainGlobals "_law_sub" = some (some (.ref f23))) (l23 : K.lookup f23 = some ⟨oc23, od23, .func (PySem.W.fnOf "_law_sub" "_law_sub" (defArgs sLSub) (defBody sLSub) (defScope sLSub) .none kV23 dc23 pm23 an23 cd23 ct23), sl23⟩) (c23 : PySem.W.codeIn K cd23 "_law_sub" = true) (k23 : PySem.W.keepIn K (.ref f23) = true)
    {f24 : Addr} {od24 an24 : Option Addr} {sl24 : Array (Option Value)} {oc24 kV24 dc24 pm24 cd24 ct24 : Value} (a24 : PySem.W.nsIn K mainGlobals "_law_mul" = some (some (.ref f24))) (l24 : K.lookup f24 = some ⟨oc24, od24, .func (PySem.W.fnOf "_law_mul" "_law_mul" (defArgs sLMul) (defBody sLMul) (defScope sLMul) .none kV24 dc24 pm24 an24 cd24 ct24), sl24⟩) (c24 : PySem.W.codeIn K cd24 "_law_mul" = true) (k24 : PySem.W.keepIn K (.ref f24) = true)
    {f25 : Addr} {od25 an25 : Option Addr} {sl25 : Array (Option Value)} {oc25 kV25 dc25 pm25 cd25 ct25 : Value} (a25 : PySem.W.nsIn K mainGlobals "_law_div" = some (some (.ref f25))) (l25 : K.lookup f25 = some ⟨oc25, od25, .func (PySem.W.fnOf "_law_div" "_law_div" (defArgs sLDiv) (defBody sLDiv) (defScope sLDiv) .none kV25 dc25 pm25 an25 cd25 ct25), sl25⟩) (c25 : PySem.W.codeIn K cd25 "_law_div" = true) (k25 : PySem.W.keepIn K (.ref f25) = true)
    {f26 : Addr} {od26 an26 : Option Addr} {sl26 : Array (Option Value)} {oc26 kV26 dc26 pm26 cd26 ct26 : Value} (a26 : PySem.W.nsIn K mainGlobals "_law_less" = some (some (.ref f26))) (l26 : K.lookup f26 = some ⟨oc26, od26, .func (PySem.W.fnOf "_law_less" "_law_less" (defArgs sLLess) (defBody sLLess) (defScope sLLess) .none kV26 dc26 pm26 an26 cd26 ct26), sl26⟩) (c26 : PySem.W.codeIn K cd26 "_law_less" = true) (k26 : PySem.W.keepIn K (.ref f26) = true)
    {f27 : Addr} {od27 an27 : Option Addr} {sl27 : Array (Option Value)} {oc27 kV27 dc27 pm27 cd27 ct27 : Value} (a27 : PySem.W.nsIn K mainGlobals "_law_sorted" = some (some (.ref f27))) (l27 : K.lookup f27 = some ⟨oc27, od27, .func (PySem.W.fnOf "_law_sorted" "_law_sorted" (defArgs sLSorted) (defBody sLSorted) (defScope sLSorted) .none kV27 dc27 pm27 an27 cd27 ct27), sl27⟩) (c27 : PySem.W.codeIn K cd27 "_law_sorted" = true) (k27 : PySem.W.keepIn K (.ref f27) = true)
    {f28 : Addr} {od28 an28 : Option Addr} {sl28 : Array (Option Value)} {oc28 kV28 dc28 pm28 cd28 ct28 : Value} (a28 : PySem.W.nsIn K mainGlobals "_law_in" = some (some (.ref f28))) (l28 : K.lookup f28 = some ⟨oc28, od28, .func (PySem.W.fnOf "_law_in" "_law_in" (defArgs sLIn) (defBody sLIn) (defScope sLIn) .none kV28 dc28 pm28 an28 cd28 ct28), sl28⟩) (c28 : PySem.W.codeIn K cd28 "_law_in" = true) (k28 : PySem.W.keepIn K (.ref f28) = true)
    {f29 : Addr} {od29 an29 : Option Addr} {sl29 : Array (Option Value)} {oc29 kV29 dc29 pm29 cd29 ct29 : Value} (a29 : PySem.W.nsIn K mainGlobals "_law_track" = some (some (.ref f29))) (l29 : K.lookup f29 = some ⟨oc29, od29, .func (PySem.W.fnOf "_law_track" "_law_track" (defArgs sLTrack) (defBody sLTrack) (defScope sLTrack) .none kV29 dc29 pm29 an29 cd29 ct29), sl29⟩) (c29 : PySem.W.codeIn K cd29 "_law_track" = true) (k29 : PySem.W.keepIn K (.ref f29) = true)
    {f30 : Addr} {od30 an30 : Option Addr} {sl30 : Array (Option Value)} {oc30 kV30 dc30 pm30 cd30 ct30 : Value} (a30 : PySem.W.nsIn K mainGlobals "_law_names" = some (some (.ref f30))) (l30 : K.lookup f30 = some ⟨oc30, od30, .func (PySem.W.fnOf "_law_names" "_law_names" (defArgs sLNames) (defBody sLNames) (defScope sLNames) .none kV30 dc30 pm30 an30 cd30 ct30), sl30⟩) (c30 : PySem.W.codeIn K cd30 "_law_names" = true) (k30 : PySem.W.keepIn K (.ref f30) = true)
    {f31 : Addr} {od31 an31 : Option Addr} {sl31 : Array (Option Value)} {oc31 kV31 dc31 pm31 cd31 ct31 : Value} (a31 : PySem.W.nsIn K mainGlobals "_law_clip" = some (some (.ref f31))) (l31 : K.lookup f31 = some ⟨oc31, od31, .func (PySem.W.fnOf "_law_clip" "_law_clip" (defArgs sLClip) (defBody sLClip) (defScope sLClip) .none kV31 dc31 pm31 an31 cd31 ct31), sl31⟩) (c31 : PySem.W.codeIn K cd31 "_law_clip" = true) (k31 : PySem.W.keepIn K (.ref f31) = true)
    {f32 : Addr} {od32 an32 : Option Addr} {sl32 : Array (Option Value)} {oc32 kV32 dc32 pm32 cd32 ct32 : Value} (a32 : PySem.W.nsIn K mainGlobals "_law_value" = some (some (.ref f32))) (l32 : K.lookup f32 = some ⟨oc32, od32, .func (PySem.W.fnOf "_law_value" "_law_value" (defArgs sLValue) (defBody sLValue) (defScope sLValue) .none kV32 dc32 pm32 an32 cd32 ct32), sl32⟩) (c32 : PySem.W.codeIn K cd32 "_law_value" = true) (k32 : PySem.W.keepIn K (.ref f32) = true)
    {f33 : Addr} {od33 an33 : Option Addr} {sl33 : Array (Option Value)} {oc33 kV33 dc33 pm33 cd33 ct33 : Value} (a33 : PySem.W.nsIn K mainGlobals "_law_joints" = some (some (.ref f33))) (l33 : K.lookup f33 = some ⟨oc33, od33, .func (PySem.W.fnOf "_law_joints" "_law_joints" (defArgs sLJoints) (defBody sLJoints) (defScope sLJoints) .none kV33 dc33 pm33 an33 cd33 ct33), sl33⟩) (c33 : PySem.W.codeIn K cd33 "_law_joints" = true) (k33 : PySem.W.keepIn K (.ref f33) = true)
    {f34 : Addr} {od34 an34 : Option Addr} {sl34 : Array (Option Value)} {oc34 kV34 dc34 pm34 cd34 ct34 : Value} (a34 : PySem.W.nsIn K mainGlobals "_law_samples" = some (some (.ref f34))) (l34 : K.lookup f34 = some ⟨oc34, od34, .func (PySem.W.fnOf "_law_samples" "_law_samples" (defArgs sLSamples) (defBody sLSamples) (defScope sLSamples) .none kV34 dc34 pm34 an34 cd34 ct34), sl34⟩) (c34 : PySem.W.codeIn K cd34 "_law_samples" = true) (k34 : PySem.W.keepIn K (.ref f34) = true)
    {f35 : Addr} {od35 an35 : Option Addr} {sl35 : Array (Option Value)} {oc35 kV35 dc35 pm35 cd35 ct35 : Value} (a35 : PySem.W.nsIn K mainGlobals "_law_candidates" = some (some (.ref f35))) (l35 : K.lookup f35 = some ⟨oc35, od35, .func (PySem.W.fnOf "_law_candidates" "_law_candidates" (defArgs sLCandidates) (defBody sLCandidates) (defScope sLCandidates) .none kV35 dc35 pm35 an35 cd35 ct35), sl35⟩) (c35 : PySem.W.codeIn K cd35 "_law_candidates" = true) (k35 : PySem.W.keepIn K (.ref f35) = true)
    {f36 : Addr} {od36 an36 : Option Addr} {sl36 : Array (Option Value)} {oc36 kV36 dc36 pm36 cd36 ct36 : Value} (a36 : PySem.W.nsIn K mainGlobals "law" = some (some (.ref f36))) (l36 : K.lookup f36 = some ⟨oc36, od36, .func (PySem.W.fnOf "law" "law" (defArgs sLaw) (defBody sLaw) (defScope sLaw) .none kV36 dc36 pm36 an36 cd36 ct36), sl36⟩) (c36 : PySem.W.codeIn K cd36 "law" = true) (k36 : PySem.W.keepIn K (.ref f36) = true)
    {pZERO : Addr} {taZERO tbZERO : Tok} {nZERO : Nat} {sZERO : Array (Option Value)} (aZERO : PySem.W.nsIn K mainGlobals "ZERO" = some (some (.ref pZERO))) (lZERO : K.lookup pZERO = some ⟨.type "tuple", none, .seq #[.int 0 taZERO, .int 1 tbZERO] nZERO, sZERO⟩)
    (z1 : PySem.W.nsIn K mainGlobals "len" = some none)
    (z2 : PySem.W.nsIn K mainGlobals "range" = some none)
    (z3 : PySem.W.nsIn K mainGlobals "min" = some none)
    (z4 : PySem.W.nsIn K mainGlobals "max" = some none)
    (z5 : PySem.W.nsIn K mainGlobals "gcd" = some (some (.builtin "math.gcd")))
    (z6 : PySem.W.nsIn K mainGlobals "tuple" = some none)
    (z7 : PySem.W.nsIn K mainGlobals "sorted" = some none)
    (z8 : PySem.W.nsIn K mainGlobals "dict" = some none)
    (z9 : PySem.W.nsIn K mainGlobals "zip" = some none)
    (z10 : PySem.W.nsIn K mainGlobals "lcm" = some (some (.builtin "math.lcm"))) :
    ∃ fd : FuncData, (∀ (s : Shared) (v : Value), BindsTo s fd ⟨[v], []⟩ [("script", v)]) ∧ ∀ base : Heap, K.In base → base.Ns mainGlobals mg → FnOk l.prog w K mg base L2.CX0 7 fa fd ["script"] (spD K Rlaw) := by
  have e := hfa.symm.trans (PySem.W.mg_of X G a36)
  cases e
  have F0 := fun_mk (st := sNumber) l0 c0 k0
  have b0 := F0.binds (ps := ["top", "bottom"]) fun _ _ _ _ _ _ us hl => match us, hl with | [_, _], _ => rfl
  have m0 := PySem.W.mg_of X G a0
  have F1 := fun_mk (st := sPlus) l1 c1 k1
  have b1 := F1.binds (ps := ["first", "second"]) fun _ _ _ _ _ _ us hl => match us, hl with | [_, _], _ => rfl
  have m1 := PySem.W.mg_of X G a1
  have F2 := fun_mk (st := sMinus) l2 c2 k2
  have b2 := F2.binds (ps := ["first", "second"]) fun _ _ _ _ _ _ us hl => match us, hl with | [_, _], _ => rfl
  have m2 := PySem.W.mg_of X G a2
  have F3 := fun_mk (st := sTimes) l3 c3 k3
  have b3 := F3.binds (ps := ["first", "second"]) fun _ _ _ _ _ _ us hl => match us, hl with | [_, _], _ => rfl
  have m3 := PySem.W.mg_of X G a3
  have F4 := fun_mk (st := sOver) l4 c4 k4
  have b4 := F4.binds (ps := ["first", "second"]) fun _ _ _ _ _ _ us hl => match us, hl with | [_, _], _ => rfl
  have m4 := PySem.W.mg_of X G a4
  have F5 := fun_mk (st := sCompare) l5 c5 k5
  have b5 := F5.binds (ps := ["first", "second"]) fun _ _ _ _ _ _ us hl => match us, hl with | [_, _], _ => rfl
  have m5 := PySem.W.mg_of X G a5
  have F6 := fun_mk (st := sAscending) l6 c6 k6
  have b6 := F6.binds (ps := ["values"]) fun _ _ _ _ _ _ us hl => match us, hl with | [_], _ => rfl
  have m6 := PySem.W.mg_of X G a6
  have F7 := fun_mk (st := sBetween) l7 c7 k7
  have b7 := F7.binds (ps := ["values", "first", "second"]) fun _ _ _ _ _ _ us hl => match us, hl with | [_, _, _], _ => rfl
  have m7 := PySem.W.mg_of X G a7
  have F8 := fun_mk (st := sCommonBottom) l8 c8 k8
  have b8 := F8.binds (ps := ["values"]) fun _ _ _ _ _ _ us hl => match us, hl with | [_], _ => rfl
  have m8 := PySem.W.mg_of X G a8
  have F9 := fun_mk (st := sTopOver) l9 c9 k9
  have b9 := F9.binds (ps := ["value", "bottom"]) fun _ _ _ _ _ _ us hl => match us, hl with | [_, _], _ => rfl
  have m9 := PySem.W.mg_of X G a9
  have F10 := fun_mk (st := sTrackOf) l10 c10 k10
  have b10 := F10.binds (ps := ["clip", "prop"]) fun _ _ _ _ _ _ us hl => match us, hl with | [_, _], _ => rfl
  have m10 := PySem.W.mg_of X G a10
  have F11 := fun_mk (st := sValueOf) l11 c11 k11
  have b11 := F11.binds (ps := ["formula", "place"]) fun _ _ _ _ _ _ us hl => match us, hl with | [_, _], _ => rfl
  have m11 := PySem.W.mg_of X G a11
  have F12 := fun_mk (st := sFindPlace) l12 c12 k12
  have b12 := F12.binds (ps := ["track", "position", "back"]) fun _ _ _ _ _ _ us hl => match us, hl with | [_, _, _], _ => rfl
  have m12 := PySem.W.mg_of X G a12
  have F13 := fun_mk (st := sBounds) l13 c13 k13
  have b13 := F13.binds (ps := ["track"]) fun _ _ _ _ _ _ us hl => match us, hl with | [_], _ => rfl
  have m13 := PySem.W.mg_of X G a13
  have F14 := fun_mk (st := sTurns) l14 c14 k14
  have b14 := F14.binds (ps := ["track"]) fun _ _ _ _ _ _ us hl => match us, hl with | [_], _ => rfl
  have m14 := PySem.W.mg_of X G a14
  have F15 := fun_mk (st := sValueAt) l15 c15 k15
  have b15 := F15.binds (ps := ["clip", "prop", "position"]) fun _ _ _ _ _ _ us hl => match us, hl with | [_, _, _], _ => rfl
  have m15 := PySem.W.mg_of X G a15
  have F16 := fun_mk (st := sLeastValue) l16 c16 k16
  have b16 := F16.binds (ps := ["clip", "prop", "first", "second"]) fun _ _ _ _ _ _ us hl => match us, hl with | [_, _, _, _], _ => rfl
  have m16 := PySem.W.mg_of X G a16
  have F17 := fun_mk (st := sGreatestValue) l17 c17 k17
  have b17 := F17.binds (ps := ["clip", "prop", "first", "second"]) fun _ _ _ _ _ _ us hl => match us, hl with | [_, _, _, _], _ => rfl
  have m17 := PySem.W.mg_of X G a17
  have F18 := fun_mk (st := sExtremeValues) l18 c18 k18
  have b18 := F18.binds (ps := ["clip", "prop", "first", "second"]) fun _ _ _ _ _ _ us hl => match us, hl with | [_, _, _, _], _ => rfl
  have m18 := PySem.W.mg_of X G a18
  have F19 := fun_mk (st := sCell) l19 c19 k19
  have b19 := F19.binds (ps := ["script", "k"]) fun _ _ _ _ _ _ us hl => match us, hl with | [_, _], _ => rfl
  have m19 := PySem.W.mg_of X G a19
  have F20 := fun_mk (st := sDraw) l20 c20 k20
  have b20 := F20.binds (ps := ["script", "k", "sizes"]) fun _ _ _ _ _ _ us hl => match us, hl with | [_, _, _], _ => rfl
  have m20 := PySem.W.mg_of X G a20
  have F21 := fun_mk (st := sF) l21 c21 k21
  have b21 := F21.binds (ps := ["top", "bottom"]) fun _ _ _ _ _ _ us hl => match us, hl with | [_, _], _ => rfl
  have m21 := PySem.W.mg_of X G a21
  have F22 := fun_mk (st := sLAdd) l22 c22 k22
  have b22 := F22.binds (ps := ["a", "b"]) fun _ _ _ _ _ _ us hl => match us, hl with | [_, _], _ => rfl
  have m22 := PySem.W.mg_of X G a22
  have F23 := fun_mk (st := sLSub) l23 c23 k23
  have b23 := F23.binds (ps := ["a", "b"]) fun _ _ _ _ _ _ us hl => match us, hl with | [_, _], _ => rfl
  have m23 := PySem.W.mg_of X G a23
  have F24 := fun_mk (st := sLMul) l24 c24 k24
  have b24 := F24.binds (ps := ["a", "b"]) fun _ _ _ _ _ _ us hl => match us, hl with | [_, _], _ => rfl
  have m24 := PySem.W.mg_of X G a24
  have F25 := fun_mk (st := sLDiv) l25 c25 k25
  have b25 := F25.binds (ps := ["a", "b"]) fun _ _ _ _ _ _ us hl => match us, hl with | [_, _], _ => rfl
  have m25 := PySem.W.mg_of X G a25
  have F26 := fun_mk (st := sLLess) l26 c26 k26
  have b26 := F26.binds (ps := ["a", "b"]) fun _ _ _ _ _ _ us hl => match us, hl with | [_, _], _ => rfl
  have m26 := PySem.W.mg_of X G a26
  have F27 := fun_mk (st := sLSorted) l27 c27 k27
  have b27 := F27.binds (ps := ["numbers"]) fun _ _ _ _ _ _ us hl => match us, hl with | [_], _ => rfl
  have m27 := PySem.W.mg_of X G a27
  have F28 := fun_mk (st := sLIn) l28 c28 k28
  have b28 := F28.binds (ps := ["piece", "t"]) fun _ _ _ _ _ _ us hl => match us, hl with | [_, _], _ => rfl
  have m28 := PySem.W.mg_of X G a28
  have F29 := fun_mk (st := sLTrack) l29 c29 k29
  have b29 := F29.binds (ps := ["lengths", "digits"]) fun _ _ _ _ _ _ us hl => match us, hl with | [_, _], _ => rfl
  have m29 := PySem.W.mg_of X G a29
  have F30 := fun_mk (st := sLNames) l30 c30 k30
  have b30 := F30.binds (ps := ["k"]) fun _ _ _ _ _ _ us hl => match us, hl with | [_], _ => rfl
  have m30 := PySem.W.mg_of X G a30
  have F31 := fun_mk (st := sLClip) l31 c31 k31
  have b31 := F31.binds (ps := ["script", "k", "kind"]) fun _ _ _ _ _ _ us hl => match us, hl with | [_, _, _], _ => rfl
  have m31 := PySem.W.mg_of X G a31
  have F32 := fun_mk (st := sLValue) l32 c32 k32
  have b32 := F32.binds (ps := ["track", "position"]) fun _ _ _ _ _ _ us hl => match us, hl with | [_, _], _ => rfl
  have m32 := PySem.W.mg_of X G a32
  have F33 := fun_mk (st := sLJoints) l33 c33 k33
  have b33 := F33.binds (ps := ["track"]) fun _ _ _ _ _ _ us hl => match us, hl with | [_], _ => rfl
  have m33 := PySem.W.mg_of X G a33
  have F34 := fun_mk (st := sLSamples) l34 c34 k34
  have b34 := F34.binds (ps := ["first", "second", "many"]) fun _ _ _ _ _ _ us hl => match us, hl with | [_, _, _], _ => rfl
  have m34 := PySem.W.mg_of X G a34
  have F35 := fun_mk (st := sLCandidates) l35 c35 k35
  have b35 := F35.binds (ps := ["track", "first", "second"]) fun _ _ _ _ _ _ us hl => match us, hl with | [_, _, _], _ => rfl
  have m35 := PySem.W.mg_of X G a35
  have F36 := fun_mk (st := sLaw) l36 c36 k36
  have m_z1 := PySem.W.mg_none_of X G z1
  have m_z2 := PySem.W.mg_none_of X G z2
  have m_z3 := PySem.W.mg_none_of X G z3
  have m_z4 := PySem.W.mg_none_of X G z4
  have m_z5 := PySem.W.mg_of X G z5
  have m_z6 := PySem.W.mg_none_of X G z6
  have m_z7 := PySem.W.mg_none_of X G z7
  have m_z8 := PySem.W.mg_none_of X G z8
  have m_z9 := PySem.W.mg_none_of X G z9
  have m_z10 := PySem.W.mg_of X G z10
  exact ⟨PySem.W.fnOf "law" "law" (defArgs sLaw) (defBody sLaw) (defScope sLaw) .none kV36 dc36 pm36 an36 cd36 ct36, fun s v => .of_eq rfl, fun base _ _ => by
    have Nm := ok_number (P := l.prog) (w := w) (base := base) F0 m0 b0 m_z5 ⟨PySem.W.mg_of X G aCN, eCN, kCN, bCN, tCN⟩
    have Pl := ok_plus F1 m1 b1 Nm
    have Mi := ok_minus F2 m2 b2 Nm
    have Ti := ok_times F3 m3 b3 Nm
    have Ov := ok_over F4 m4 b4 Nm
    have Cm := ok_compare (P := l.prog) (w := w) (base := base) F5 m5 b5
    have Vo := ok_value_of F11 m11 b11 Pl Ti
    have Fp := ok_find_place F12 m12 b12 Mi Cm
    have To := ok_track_of (P := l.prog) (w := w) (base := base) F10 m10 b10 m_z8
    have Va := ok_value_at F15 m15 b15 Vo Fp To
    have Cb := ok_common_bottom (P := l.prog) (w := w) (base := base) F8 m8 b8 m_z10
    have Tp := ok_top_over (P := l.prog) (w := w) (base := base) F9 m9 b9
    have As := ok_ascending F6 m6 b6 Nm Cb Tp m_z7
    have Bt := ok_between F7 m7 b7 Cm
    have Bo := ok_bounds F13 m13 b13 Pl (PySem.W.mg_of X G aZERO) lZERO
    have Tu := ok_turns F14 m14 b14 Pl Ti Ov Cm Bo m_z9 (PySem.W.mg_of X G aZERO) lZERO
    have Ex := ok_extreme F18 m18 b18 To Va Bo Tu Bt As
    have Lo := ok_least F16 m16 b16 Ex
    have Hi := ok_greatest F17 m17 b17 Ex
    have Ce := ok_cell (P := l.prog) (w := w) (base := base) F19 m19 b19 m_z1
    have Dr := ok_draw F20 m20 b20 m_z1 m_z2 Ce
    have Lf := ok_f (P := l.prog) (w := w) (base := base) F21 m21 b21 m_z4
    have La := ok_ladd F22 m22 b22 Lf
    have Ls := ok_lsub F23 m23 b23 Lf
    have Lm := ok_lmul F24 m24 b24 Lf
    have Ld := ok_ldiv F25 m25 b25 Lf
    have Ll := ok_lless (P := l.prog) (w := w) (base := base) F26 m26 b26
    have So := ok_lsorted F27 m27 b27 Ll m_z1
    have In := ok_lin F28 m28 b28 La Lm
    have Tr := ok_ltrack F29 m29 b29 Lf In m_z1 m_z2 m_z6
    have Na := ok_lnames (P := l.prog) (w := w) (base := base) F30 m30 b30
    have Cl := ok_lclip F31 m31 b31 Dr Lf Na Tr La Lm So m_z2 m_z6 m_z7
    have Lv := ok_lvalue F32 m32 b32 La Ls Ll In m_z1 m_z2
    have Jo := ok_ljoints F33 m33 b33 La
    have Sa := ok_lsamples F34 m34 b34 La Ls Lm Lf m_z2
    have Ca := ok_lcand F35 m35 b35 Jo Ll Ls Lm Ld m_z1 m_z2
    exact ok_law F36 Lo Hi Cl Dr Lf Lm Ca Lv Sa Ll m_z2 m_z1 m_z3 m_z4⟩
end K6
open PySem PySem.W PyProof.Rows
set_option maxRecDepth 100000 in
set_option maxHeartbeats 0 in
theorem PySem.Challenge.cw_surecues_k06_least_and_greatest_values_holds : PySem.Challenge.rw_surecues_k06_least_and_greatest_values.Holds := by
  w_on; o_law; k_head; (case hw => w_witness2)
  k_fill
  refine L2.walk_of (l := PySem.Challenge.rw_surecues_k06_least_and_greatest_values) (n := 63) (k := 7) (x := "script") (CX := fun _ => L2.CX0) (sp := fun w => DL.spD _ K6.Rlaw) rfl (by decide) rfl ⟨rfl, by decide, by decide⟩ (fun w h Y => PySem.W.kIn_of Y) ?F (fun _ H a ns hl _ hS => ⟨H, _, _, DL.Ex.refl H, .cons (.lst hS (DL.dpAll_ints ns)) .nil, ⟨ns, rfl, hl, rfl⟩, fun v S' H' _ q => by cases q; rfl⟩) (fun _ _ _ _ _ h => h)
  case F =>
    intro w mg fa h KX G hmg
    refine' K6.all_mk KX G hmg ?aCN ?eCN ?kCN ?bCN ?tCN ?iCN ?sCN ?a0 ?l0 ?c0 ?k0 ?a1 ?l1 ?c1 ?k1 ?a2 ?l2 ?c2 ?k2 ?a3 ?l3 ?c3 ?k3 ?a4 ?l4 ?c4 ?k4 ?a5 ?l5 ?c5 ?k5 ?a6 ?l6 ?c6 ?k6 ?a7 ?l7 ?c7 ?k7 ?a8 ?l8 ?c8 ?k8 ?a9 ?l9 ?c9 ?k9 ?a10 ?l10 ?c10 ?k10 ?a11 ?l11 ?c11 ?k11 ?a12 ?l12 ?c12 ?k12 ?a13 ?l13 ?c13 ?k13 ?a14 ?l14 ?c14 ?k14 ?a15 ?l15 ?c15 ?k15 ?a16 ?l16 ?c16 ?k16 ?a17 ?l17 ?c17 ?k17 ?a18 ?l18 ?c18 ?k18 ?a19 ?l19 ?c19 ?k19 ?a20 ?l20 ?c20 ?k20 ?a21 ?l21 ?c21 ?k21 ?a22 ?l22 ?c22 ?k22 ?a23 ?l23 ?c23 ?k23 ?a24 ?l24 ?c24 ?k24 ?a25 ?l25 ?c25 ?k25 ?a26 ?l26 ?c26 ?k26 ?a27 ?l27 ?c27 ?k27 ?a28 ?l28 ?c28 ?k28 ?a29 ?l29 ?c29 ?k29 ?a30 ?l30 ?c30 ?k30 ?a31 ?l31 ?c31 ?k31 ?a32 ?l32 ?c32 ?k32 ?a33 ?l33 ?c33 ?k33 ?a34 ?l34 ?c34 ?k34 ?a35 ?l35 ?c35 ?k35 ?a36 ?l36 ?c36 ?k36 ?aZERO ?lZERO ?z1 ?z2 ?z3 ?z4 ?z5 ?z6 ?z7 ?z8 ?z9 ?z10
    (case aCN => k_is); (case eCN => k_exc); (case kCN => k_is); (case bCN => k_is); (case tCN => k_is); (case iCN => k_is); (case sCN => first | rfl | k_is); (case a0 => k_is); (case l0 => k_is); (case c0 => k_is); (case k0 => k_is); (case a1 => k_is); (case l1 => k_is); (case c1 => k_is); (case k1 => k_is); (case a2 => k_is); (case l2 => k_is); (case c2 => k_is); (case k2 => k_is); (case a3 => k_is); (case l3 => k_is); (case c3 => k_is); (case k3 => k_is); (case a4 => k_is); (case l4 => k_is); (case c4 => k_is); (case k4 => k_is); (case a5 => k_is); (case l5 => k_is); (case c5 => k_is); (case k5 => k_is); (case a6 => k_is); (case l6 => k_is); (case c6 => k_is); (case k6 => k_is); (case a7 => k_is); (case l7 => k_is); (case c7 => k_is); (case k7 => k_is); (case a8 => k_is); (case l8 => k_is); (case c8 => k_is); (case k8 => k_is); (case a9 => k_is); (case l9 => k_is); (case c9 => k_is); (case k9 => k_is); (case a10 => k_is); (case l10 => k_is); (case c10 => k_is); (case k10 => k_is); (case a11 => k_is); (case l11 => k_is); (case c11 => k_is); (case k11 => k_is); (case a12 => k_is); (case l12 => k_is); (case c12 => k_is); (case k12 => k_is); (case a13 => k_is); (case l13 => k_is); (case c13 => k_is); (case k13 => k_is); (case a14 => k_is); (case l14 => k_is); (case c14 => k_is); (case k14 => k_is); (case a15 => k_is); (case l15 => k_is); (case c15 => k_is); (case k15 => k_is); (case a16 => k_is); (case l16 => k_is); (case c16 => k_is); (case k16 => k_is); (case a17 => k_is); (case l17 => k_is); (case c17 => k_is); (case k17 => k_is); (case a18 => k_is); (case l18 => k_is); (case c18 => k_is); (case k18 => k_is); (case a19 => k_is); (case l19 => k_is); (case c19 => k_is); (case k19 => k_is); (case a20 => k_is); (case l20 => k_is); (case c20 => k_is); (case k20 => k_is); (case a21 => k_is); (case l21 => k_is); (case c21 => k_is); (case k21 => k_is); (case a22 => k_is); (case l22 => k_is); (case c22 => k_is); (case k22 => k_is); (case a23 => k_is); (case l23 => k_is); (case c23 => k_is); (case k23 => k_is); (case a24 => k_is); (case l24 => k_is); (case c24 => k_is); (case k24 => k_is); (case a25 => k_is); (case l25 => k_is); (case c25 => k_is); (case k25 => k_is); (case a26 => k_is); (case l26 => k_is); (case c26 => k_is); (case k26 => k_is); (case a27 => k_is); (case l27 => k_is); (case c27 => k_is); (case k27 => k_is); (case a28 => k_is); (case l28 => k_is); (case c28 => k_is); (case k28 => k_is); (case a29 => k_is); (case l29 => k_is); (case c29 => k_is); (case k29 => k_is); (case a30 => k_is); (case l30 => k_is); (case c30 => k_is); (case k30 => k_is); (case a31 => k_is); (case l31 => k_is); (case c31 => k_is); (case k31 => k_is); (case a32 => k_is); (case l32 => k_is); (case c32 => k_is); (case k32 => k_is); (case a33 => k_is); (case l33 => k_is); (case c33 => k_is); (case k33 => k_is); (case a34 => k_is); (case l34 => k_is); (case c34 => k_is); (case k34 => k_is); (case a35 => k_is); (case l35 => k_is); (case c35 => k_is); (case k35 => k_is); (case a36 => k_is); (case l36 => k_is); (case c36 => k_is); (case k36 => k_is); (case aZERO => k_is); (case lZERO => k_is); (case z1 => k_is); (case z2 => k_is); (case z3 => k_is); (case z4 => k_is); (case z5 => k_is); (case z6 => k_is); (case z7 => k_is); (case z8 => k_is); (case z9 => k_is); (case z10 => k_is)

