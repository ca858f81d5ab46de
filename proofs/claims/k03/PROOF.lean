import PyProof.Rows.All
import Wide.All
import OpenK.AllK
import Wide.FinOn
import HandS.Base
import HandS.Call
import HandS.List
import HandS.Ends
import HandS.Exc
import HandS.TryOnly
import HandS.ExcOwn
import HandS.Words
import HandS.Wide
import HandS.Gcd
import HandS.WordsExc
import HandS.Text
import HandS.StrMore
import HandS.Iter
import HandS.Comp
import HandS.Rev
import PyProof.Rows.StrDigitsNeg
import PySem.Challenge.RW_surecues_k03_how_numbers_are_written
set_option Elab.async false
set_option linter.all false
set_option maxRecDepth 100000
set_option maxHeartbeats 4000000
/-! Heap-free words over the hand layer: what an expression is worth, as data; what a body does, over the data in its slots. -/
namespace DL
open PySem PySem.Spec PyProof.Rows L2

abbrev D := PyData
abbrev Fg := PySem.W.Frag

/-! ### heaps -/
def Ex (H H' : Hp) : Prop := ∀ a o, H a = some o → H' a = some o
theorem Ex.refl (H : Hp) : Ex H H := fun _ _ h => h
theorem Ex.trans {H H1 H2 : Hp} (a : Ex H H1) (b : Ex H1 H2) : Ex H H2 := fun x o h => b x o (a x o h)
theorem Ex.new {H H' : Hp} {p : Addr} {o : HO} (e : Ex H H') (h : H p = none) : Ex H (upd H' p o) := fun a u q => by
  rw [upd_ne (ne_of_none q h)]
  exact e a u q
theorem Ex.both {H H' : Hp} {p : Addr} {o : HO} (e : Ex H H') : Ex (upd H p o) (upd H' p o) := fun a u q => by
  by_cases h : a = p
  · subst h
    rw [upd_same] at q ⊢
    exact q
  · rw [upd_ne h] at q ⊢
    exact e a u q
theorem Ex.none {H H' : Hp} {p : Addr} (e : Ex H H') (h : H' p = none) : H p = none := by
  cases q : H p with
  | none => rfl
  | some o =>
    rw [e p o q] at h
    cases h
theorem Ex.rd {H H' : Hp} {a : Addr} {u : HO} (e : Ex H H') (h : Rd H a u) : Rd H' a u := by
  rcases h with h | ⟨o, h⟩
  · exact .inl (e a _ h)
  · exact .inr ⟨o, e a _ h⟩
theorem Ex.sqL {K : Fg} {H H' : Hp} {a : Addr} {xs : List V} (e : Ex H H') (h : SqL K H a xs) : SqL K H' a xs := h.imp e.rd id
theorem Ex.sqT {K : Fg} {H H' : Hp} {a : Addr} {xs : List V} (e : Ex H H') (h : SqT K H a xs) : SqT K H' a xs := h.imp e.rd id
mutual
theorem Ex.dp {K : Fg} {H H' : Hp} (e : Ex H H') : ∀ {d : D} {v : V}, Dp K H v d → Dp K H' v d
  | .none, _, h => by cases h; exact .non
  | .bool b, _, h => by cases h; exact .bl b
  | .int i, _, h => by cases h; exact .int i
  | .str x, _, h => by cases h; exact .str x
  | .list ds, _, h => by
    cases h with
    | lst hs ha => exact .lst (e.sqL hs) (Ex.dpAll e ha)
  | .tuple ds, _, h => by
    cases h with
    | tup hs ha => exact .tup (e.sqT hs) (Ex.dpAll e ha)
  | .dict _, _, h => by cases h
theorem Ex.dpAll {K : Fg} {H H' : Hp} (e : Ex H H') : ∀ {ds : List D} {vs : List V}, DpAll K H vs ds → DpAll K H' vs ds
  | [], _, h => by cases h; exact .nil
  | d :: ds, _, h => by
    cases h with
    | cons h1 h2 => exact .cons (Ex.dp e h1) (Ex.dpAll e h2)
end
theorem DpAll.len {K : Fg} {H : Hp} : ∀ {ds : List D} {vs : List V}, DpAll K H vs ds → vs.length = ds.length
  | [], _, h => by cases h; rfl
  | d :: ds, _, h => by
    cases h with
    | cons h1 h2 => rw [List.length_cons, List.length_cons, DpAll.len h2]
theorem DpAll.get {K : Fg} {H : Hp} : ∀ {ds : List D} {vs : List V} {i : Nat} {d : D}, DpAll K H vs ds → ds[i]? = some d → ∃ v, vs[i]? = some v ∧ Dp K H v d
  | [], _, i, d, h, e => by simp at e
  | c :: ds, _, 0, d, h, e => by
    cases h with
    | cons h1 h2 =>
      have e' : c = d := Option.some.inj e
      subst e'
      exact ⟨_, rfl, h1⟩
  | c :: ds, _, i + 1, d, h, e => by
    cases h with
    | cons h1 h2 => exact DpAll.get (i := i) h2 e
theorem DpAll.getV {K : Fg} {H : Hp} : ∀ {ds : List D} {vs : List V} {i : Nat} {v : V}, DpAll K H vs ds → vs[i]? = some v → ∃ d, ds[i]? = some d ∧ Dp K H v d
  | [], _, i, d, h, e => by cases h; simp at e
  | c :: ds, _, 0, d, h, e => by
    cases h with
    | cons h1 h2 =>
      have e' := Option.some.inj e
      subst e'
      exact ⟨_, rfl, h1⟩
  | c :: ds, _, i + 1, d, h, e => by
    cases h with
    | cons h1 h2 => exact DpAll.getV (i := i) h2 e
theorem DpAll.snoc {K : Fg} {H : Hp} {v : V} {d : D} (h : Dp K H v d) : ∀ {ds : List D} {vs : List V}, DpAll K H vs ds → DpAll K H (vs ++ [v]) (ds ++ [d])
  | [], _, q => by cases q; exact .cons h .nil
  | c :: ds, _, q => by
    cases q with
    | cons h1 h2 => exact .cons h1 (DpAll.snoc h h2)
theorem DpAll.app {K : Fg} {H : Hp} {ws : List V} {es : List D} (h : DpAll K H ws es) : ∀ {ds : List D} {vs : List V}, DpAll K H vs ds → DpAll K H (vs ++ ws) (ds ++ es)
  | [], _, q => by cases q; exact h
  | c :: ds, _, q => by
    cases q with
    | cons h1 h2 => exact .cons h1 (DpAll.app h h2)
theorem dpAll_ints {K : Fg} {H : Hp} : ∀ ns : List Int, DpAll K H (ns.map V.int) (ns.map PyData.int)
  | [] => .nil
  | n :: ns => .cons (.int n) (dpAll_ints ns)

/-- the stable part and the whole, both grown -/
structure Ext (S H S' H' : Hp) : Prop where
  s : Ex S S'
  h : Ex H H'
  i : Ex S' H'
  n : ∀ a, S a = none → H a ≠ none → S' a = none
theorem Ext.refl {S H : Hp} (i : Ex S H) : Ext S H S H := ⟨Ex.refl S, Ex.refl H, i, fun _ h _ => h⟩
theorem Ext.trans {S H S1 H1 S2 H2 : Hp} (a : Ext S H S1 H1) (b : Ext S1 H1 S2 H2) : Ext S H S2 H2 :=
  ⟨a.s.trans b.s, a.h.trans b.h, b.i, fun x h1 h2 => b.n x (a.n x h1 h2) fun z => h2 (a.h.none z)⟩
/-- a new thing, in both -/
theorem Ext.add {S H S' H' : Hp} {p : Addr} {o : HO} (a : Ext S H S' H') (h : H' p = none) : Ext S H (upd S' p o) (upd H' p o) :=
  ⟨a.s.new (a.s.none (a.i.none h)), a.h.new (a.h.none h), a.i.both, fun x h1 h2 => by
    have ne : x ≠ p := fun z => by subst z; exact h2 (a.h.none h)
    rw [upd_ne ne]
    exact a.n x h1 h2⟩
/-- a new thing, in the whole alone -/
theorem Ext.own {S H S' H' : Hp} {p : Addr} {o : HO} (a : Ext S H S' H') (h0 : H p = none) (hs : S' p = none) : Ext S H S' (upd H' p o) :=
  ⟨a.s, a.h.new h0, a.i.new hs, a.n⟩
/-- what was the whole's alone becomes stable -/
theorem Ext.keep {S H S' H' : Hp} {p : Addr} {o : HO} (a : Ext S H S' H') (h0 : H p = none) (hs : S' p = none) (h : H' p = some o) : Ext S H (upd S' p o) H' :=
  ⟨a.s.new (a.s.none hs), a.h, fun x u q => by
    by_cases z : x = p
    · subst z
      rw [upd_same] at q
      rw [h]
      exact q
    · rw [upd_ne z] at q
      exact a.i x u q, fun x h1 h2 => by
    have ne : x ≠ p := fun z => by subst z; exact h2 h0
    rw [upd_ne ne]
    exact a.n x h1 h2⟩

/-! ### slots -/
/-- what a slot holds: nothing that is known; data; a list that it alone holds -/
inductive Ent where
  | no
  | im (d : D)
  | own (ds : List D)
abbrev Gam := List Ent
structure Hol (K : Fg) (H0 S H : Hp) (σ : L2.St) (G : Gam) : Prop where
  len : σ.length = G.length
  im : ∀ (i : Nat) (d : D), G[i]? = some (.im d) → ∃ v, σ[i]? = some (some v) ∧ Dp K S v d
  own : ∀ (i : Nat) (ds : List D), G[i]? = some (.own ds) → ∃ (p : Addr) (vs : List V), σ[i]? = some (some (.ref p)) ∧ H0 p = none ∧ S p = none ∧ H p = some (.lst vs) ∧ DpAll K S vs ds
  sep : ∀ (i j : Nat) (ds es : List D) (p : Addr), i ≠ j → G[i]? = some (.own ds) → G[j]? = some (.own es) → σ[i]? = some (some (.ref p)) → σ[j]? ≠ some (some (.ref p))
theorem Hol.ext {K : Fg} {H0 S H S' H' : Hp} {σ : L2.St} {G : Gam} (h : Hol K H0 S H σ G) (e : Ext S H S' H') : Hol K H0 S' H' σ G :=
  ⟨h.len, fun i d q => let ⟨v, a, b⟩ := h.im i d q; ⟨v, a, e.s.dp b⟩, fun i ds q => let ⟨p, vs, a, z, b, c, r⟩ := h.own i ds q
    ⟨p, vs, a, z, e.n p b (by rw [c]; exact fun z => nomatch z), e.h _ _ c, e.s.dpAll r⟩, h.sep⟩
theorem Hol.set_im {K : Fg} {H0 S H : Hp} {σ : L2.St} {G : Gam} {i : Nat} {v : V} {d : D} (h : Hol K H0 S H σ G) (q : Dp K S v d) : Hol K H0 S H (σ.set i (some v)) (G.set i (.im d)) := by
  refine ⟨by rw [List.length_set, List.length_set, h.len], fun j e hj => ?_, fun j es hj => ?_, fun j k es fs p hne hj hk hp => ?_⟩
  · by_cases c : i = j
    · subst c
      have l : i < G.length := by
        have := (List.getElem?_eq_some_iff.mp hj).1
        rw [List.length_set] at this
        exact this
      rw [List.getElem?_set_self l] at hj
      have e' : d = e := Ent.im.inj (Option.some.inj hj)
      subst e'
      exact ⟨v, List.getElem?_set_self (by rw [h.len]; exact l), q⟩
    · rw [List.getElem?_set_ne c] at hj ⊢
      exact h.im j e hj
  · by_cases c : i = j
    · subst c
      have l : i < G.length := by
        have := (List.getElem?_eq_some_iff.mp hj).1
        rw [List.length_set] at this
        exact this
      rw [List.getElem?_set_self l] at hj
      cases hj
    · rw [List.getElem?_set_ne c] at hj ⊢
      exact h.own j es hj
  · have nj : i ≠ j := fun c => by
      subst c
      have l : i < G.length := by
        have := (List.getElem?_eq_some_iff.mp hj).1
        rw [List.length_set] at this
        exact this
      rw [List.getElem?_set_self l] at hj
      cases hj
    have nk : i ≠ k := fun c => by
      subst c
      have l : i < G.length := by
        have := (List.getElem?_eq_some_iff.mp hk).1
        rw [List.length_set] at this
        exact this
      rw [List.getElem?_set_self l] at hk
      cases hk
    rw [List.getElem?_set_ne nj] at hj hp
    rw [List.getElem?_set_ne nk] at hk ⊢
    exact h.sep j k es fs p hne hj hk hp
/-- a slot takes a list that nothing else holds -/
theorem Hol.set_own {K : Fg} {H0 S H : Hp} {σ : L2.St} {G : Gam} {i : Nat} {p : Addr} {vs : List V} {ds : List D} (h : Hol K H0 S H σ G) (h0 : H0 p = none) (hs : S p = none) (hp : H p = some (.lst vs)) (q : DpAll K S vs ds)
    (hn : ∀ (j : Nat) (es : List D), j ≠ i → G[j]? = some (.own es) → σ[j]? ≠ some (some (.ref p))) : Hol K H0 S H (σ.set i (some (.ref p))) (G.set i (.own ds)) := by
  have lt : ∀ {j : Nat} {x : Ent}, (G.set i (.own ds))[j]? = some x → j < G.length := fun {j x} hj => by
    have := (List.getElem?_eq_some_iff.mp hj).1
    rw [List.length_set] at this
    exact this
  refine ⟨by rw [List.length_set, List.length_set, h.len], fun j e hj => ?_, fun j es hj => ?_, fun j k es fs r hne hj hk hr => ?_⟩
  · by_cases c : i = j
    · subst c
      rw [List.getElem?_set_self (lt hj)] at hj
      cases hj
    · rw [List.getElem?_set_ne c] at hj ⊢
      exact h.im j e hj
  · by_cases c : i = j
    · subst c
      have l := lt hj
      rw [List.getElem?_set_self l] at hj
      have e' : ds = es := Ent.own.inj (Option.some.inj hj)
      subst e'
      exact ⟨p, vs, List.getElem?_set_self (by rw [h.len]; exact l), h0, hs, hp, q⟩
    · rw [List.getElem?_set_ne c] at hj ⊢
      exact h.own j es hj
  · by_cases cj : i = j
    · subst cj
      have nk : i ≠ k := hne
      rw [List.getElem?_set_self (by rw [h.len]; exact lt hj)] at hr
      have er : p = r := V.ref.inj (Option.some.inj (Option.some.inj hr))
      subst er
      rw [List.getElem?_set_ne nk] at hk ⊢
      exact hn k fs (Ne.symm nk) hk
    · rw [List.getElem?_set_ne cj] at hj hr
      by_cases ck : i = k
      · subst ck
        rw [List.getElem?_set_self (by rw [h.len]; exact lt hk)]
        intro z
        have er : p = r := V.ref.inj (Option.some.inj (Option.some.inj z))
        subst er
        exact hn j es (Ne.symm cj) hj hr
      · rw [List.getElem?_set_ne ck] at hk ⊢
        exact h.sep j k es fs r hne hj hk hr
/-- a list that one slot holds becomes plain data -/
theorem Hol.keep {K : Fg} {H0 S H : Hp} {σ : L2.St} {G : Gam} {i : Nat} {ds : List D} (h : Hol K H0 S H σ G) (hi : G[i]? = some (.own ds)) : ∃ (p : Addr) (vs : List V), H0 p = none ∧ S p = none ∧ H p = some (.lst vs) ∧
    Hol K H0 (upd S p (.lst vs)) H σ (G.set i (.im (.list ds))) := by
  obtain ⟨p, vs, hp, z, hs, hh, q⟩ := h.own i ds hi
  have l : i < G.length := (List.getElem?_eq_some_iff.mp hi).1
  have e : Ex S (upd S p (.lst vs)) := (Ex.refl S).new hs
  have no : ∀ {j : Nat} {es : List D}, (G.set i (.im (.list ds)))[j]? = some (.own es) → i ≠ j ∧ G[j]? = some (.own es) := fun {j es} hj => by
    have c : i ≠ j := fun c => by
      subst c
      rw [List.getElem?_set_self l] at hj
      cases hj
    rw [List.getElem?_set_ne c] at hj
    exact ⟨c, hj⟩
  refine ⟨p, vs, z, hs, hh, by rw [List.length_set, h.len], fun j d hj => ?_, fun j es hj => ?_, fun j k es fs r hne hj hk hr => ?_⟩
  · by_cases c : i = j
    · subst c
      rw [List.getElem?_set_self l] at hj
      have e' : (.list ds : D) = d := Ent.im.inj (Option.some.inj hj)
      subst e'
      exact ⟨_, hp, .lst (SqL.of upd_same) (e.dpAll q)⟩
    · rw [List.getElem?_set_ne c] at hj
      obtain ⟨v, a, b⟩ := h.im j d hj
      exact ⟨v, a, e.dp b⟩
  · obtain ⟨c, hj⟩ := no hj
    obtain ⟨r, ws, a, z', b, b', q'⟩ := h.own j es hj
    refine ⟨r, ws, a, z', ?_, b', e.dpAll q'⟩
    rw [upd_ne fun y => h.sep i j ds es p c hi hj hp (by rw [← y]; exact a)]
    exact b
  · exact h.sep j k es fs r hne (no hj).2 (no hk).2 hr
/-- a slot is forgotten -/
theorem Hol.drop {K : Fg} {H0 S H : Hp} {σ : L2.St} {G : Gam} {i : Nat} (h : Hol K H0 S H σ G) : Hol K H0 S H σ (G.set i .no) := by
  have no : ∀ {j : Nat} {x : Ent}, (G.set i .no)[j]? = some x → x ≠ .no → i ≠ j ∧ G[j]? = some x := fun {j x} hj hx => by
    have c : i ≠ j := fun c => by
      subst c
      have l : i < G.length := by
        have := (List.getElem?_eq_some_iff.mp hj).1
        rw [List.length_set] at this
        exact this
      rw [List.getElem?_set_self l] at hj
      exact hx (Option.some.inj hj).symm
    rw [List.getElem?_set_ne c] at hj
    exact ⟨c, hj⟩
  exact ⟨by rw [List.length_set, h.len], fun j d hj => h.im j d (no hj (fun z => nomatch z)).2, fun j es hj => h.own j es (no hj (fun z => nomatch z)).2,
    fun j k es fs r hne hj hk => h.sep j k es fs r hne (no hj (fun z => nomatch z)).2 (no hk (fun z => nomatch z)).2⟩
/-- another value in a slot of which nothing is known -/
theorem Hol.set_no {K : Fg} {H0 S H : Hp} {σ : L2.St} {G : Gam} {i : Nat} {x : Option V} (h : Hol K H0 S H σ G) : Hol K H0 S H (σ.set i x) (G.set i .no) := by
  have no : ∀ {j : Nat} {x : Ent}, (G.set i .no)[j]? = some x → x ≠ .no → i ≠ j ∧ G[j]? = some x := fun {j x} hj hx => by
    have c : i ≠ j := fun c => by
      subst c
      have l : i < G.length := by
        have := (List.getElem?_eq_some_iff.mp hj).1
        rw [List.length_set] at this
        exact this
      rw [List.getElem?_set_self l] at hj
      exact hx (Option.some.inj hj).symm
    rw [List.getElem?_set_ne c] at hj
    exact ⟨c, hj⟩
  refine ⟨by rw [List.length_set, List.length_set, h.len], fun j d hj => ?_, fun j es hj => ?_, fun j k es fs r hne hj hk hr => ?_⟩
  · obtain ⟨c, hj⟩ := no hj (fun z => nomatch z)
    rw [List.getElem?_set_ne c]
    exact h.im j d hj
  · obtain ⟨c, hj⟩ := no hj (fun z => nomatch z)
    rw [List.getElem?_set_ne c]
    exact h.own j es hj
  · obtain ⟨cj, hj⟩ := no hj (fun z => nomatch z)
    obtain ⟨ck, hk⟩ := no hk (fun z => nomatch z)
    rw [List.getElem?_set_ne cj] at hr
    rw [List.getElem?_set_ne ck]
    exact h.sep j k es fs r hne hj hk hr
end DL

namespace DL
open PySem PySem.Spec PyProof.Rows L2

/-! ### what syntax needs of its state -/
def WE (X : Cx) (e : Expr) : TE := fun σ H Q => ∀ (pins : List (Addr × Obj)) (s : Shared), Inv X pins σ H s → wpAny (model X.prog X.w) X.A (eval e X.env) (EP X pins σ Q) X.xe s
def WT (X : Cx) (e : Expr) : TT := fun σ H Q => ∀ (pins : List (Addr × Obj)) (s : Shared), Inv X pins σ H s → wpAny (model X.prog X.w) X.A (isTrue e X.env (eval e X.env)) (TP X pins σ Q) X.xe s
def WW (X : Cx) (e : Expr) : TT := fun σ H Q => ∀ (whole : Sem Value) (pins : List (Addr × Obj)) (s : Shared), Inv X pins σ H s → wpAny (model X.prog X.w) X.A (isTrue e X.env whole) (TP X pins σ Q) X.xe s
def WA (X : Cx) (es : List Expr) : TA := fun σ H Q => ∀ (pos : Pos) (pins : List (Addr × Obj)) (s : Shared), Inv X pins σ H s → wpAny (model X.prog X.w) X.A (spliced (backTo pos (starEach es X.env))) (AP X pins σ Q) X.xe s
def WS (X : Cx) (st : Stmt) : TS := fun D σ H => ∀ (pins : List (Addr × Obj)) (s : Shared), Inv X pins σ H s → wpAny (model X.prog X.w) X.A (exec st X.env) (SP X pins D) X.xe s
def WSs (X : Cx) (sts : List Stmt) : TS := fun D σ H => ∀ (pins : List (Addr × Obj)) (s : Shared), Inv X pins σ H s → wpAny (model X.prog X.w) X.A (execs sts X.env) (SP X pins D) X.xe s
section
variable {X : Cx} {e : Expr} {es : List Expr} {st : Stmt} {sts : List Stmt} {σ : L2.St} {H : Hp}
theorem pe_w : PE X e (WE X e) := ⟨fun pins s _ _ _ I h => h pins s I⟩
theorem pt_w : PT X e (WT X e) := ⟨fun pins s _ _ _ I h => h pins s I⟩
theorem pw_w : PW X e (WW X e) := ⟨fun whole pins s _ _ _ I h => h whole pins s I⟩
theorem pa_w : PA X es (WA X es) := ⟨fun pos pins s _ _ _ I h => h pos pins s I⟩
theorem ps_w : PS X st (WS X st) := ⟨fun pins s _ _ _ I h => h pins s I⟩
theorem pss_w : PSs X sts (WSs X sts) := ⟨fun pins s _ _ _ I h => h pins s I⟩
theorem we {t : TE} {Q : VK} (h : PE X e t) (q : t σ H Q) : WE X e σ H Q := fun pins s I => h.run pins s σ H Q I q
theorem wt {t : TT} {Q : Bool → Hp → Prop} (h : PT X e t) (q : t σ H Q) : WT X e σ H Q := fun pins s I => h.run pins s σ H Q I q
theorem ww {t : TT} {Q : Bool → Hp → Prop} (h : PW X e t) (q : t σ H Q) : WW X e σ H Q := fun whole pins s I => h.run whole pins s σ H Q I q
theorem wa {t : TA} {Q : List V → Hp → Prop} (h : PA X es t) (q : t σ H Q) : WA X es σ H Q := fun pos pins s I => h.run pos pins s σ H Q I q
theorem ws {t : TS} {E : Ends} (h : PS X st t) (q : t E σ H) : WS X st E σ H := fun pins s I => h.run pins s σ H E I q
theorem wss {t : TS} {E : Ends} (h : PSs X sts t) (q : t E σ H) : WSs X sts E σ H := fun pins s I => h.run pins s σ H E I q
end

/-! ### worth -/
/-- e is worth d where the slots hold G -/
def EvD (X : Cx) (e : Expr) (G : Gam) (d : D) : Prop := ∀ (H0 S H : Hp) (σ : L2.St), Hol X.K H0 S H σ G → Ex S H → ∀ Q : VK, (∀ v S' H', Ext S H S' H' → Dp X.K S' v d → Q v H') → WE X e σ H Q
def EvT (X : Cx) (e : Expr) (G : Gam) (b : Bool) : Prop := ∀ (H0 S H : Hp) (σ : L2.St), Hol X.K H0 S H σ G → Ex S H → ∀ Q : Bool → Hp → Prop, (∀ S' H', Ext S H S' H' → Q b H') → WT X e σ H Q
def EvW (X : Cx) (e : Expr) (G : Gam) (b : Bool) : Prop := ∀ (H0 S H : Hp) (σ : L2.St), Hol X.K H0 S H σ G → Ex S H → ∀ Q : Bool → Hp → Prop, (∀ S' H', Ext S H S' H' → Q b H') → WW X e σ H Q
def EvA (X : Cx) (es : List Expr) (G : Gam) (ds : List D) : Prop := ∀ (H0 S H : Hp) (σ : L2.St), Hol X.K H0 S H σ G → Ex S H → ∀ Q : List V → Hp → Prop, (∀ vs S' H', Ext S H S' H' → DpAll X.K S' vs ds → Q vs H') → WA X es σ H Q
/-- e makes a new list -/
def EvN (X : Cx) (e : Expr) (G : Gam) (ds : List D) : Prop := ∀ (H0 S H : Hp) (σ : L2.St), Hol X.K H0 S H σ G → Ex S H → ∀ Q : VK,
  (∀ p vs S' H', Ext S H S' H' → H p = none → S' p = none → H' p = some (.lst vs) → DpAll X.K S' vs ds → Q (.ref p) H') → WE X e σ H Q

section
variable {X : Cx} {e a b c : Expr} {es : List Expr} {G : Gam} {d da db : D} {ds : List D} {pos : Pos} {i j : Int} {x : Str}
theorem EvD.is {d' : D} (h : EvD X e G d) (q : d = d') : EvD X e G d' := q ▸ h
theorem EvT.is {b b' : Bool} (h : EvT X e G b) (q : b = b') : EvT X e G b' := q ▸ h
theorem EvN.im (h : EvN X e G ds) : EvD X e G (.list ds) := fun H0 S H σ o i Q q => h H0 S H σ o i Q fun p vs S' H' x h0 hs hp hd =>
  q _ _ _ (x.keep h0 hs hp) (.lst (SqL.of upd_same) (((Ex.refl S').new hs).dpAll hd))
theorem ev_var (n : Nat) (hN : X.N[n]? = some x := by rfl) (hG : G[n]? = some (.im d) := by rfl) (hv : Vis X.env.scope x := by first | exact Or.inl rfl | exact Or.inr (Or.inl rfl) | exact Or.inr (Or.inr rfl)) (hd : (x == ("__debug__" : Str)) = false := by decide)
    (hcd : (x == ("__classdict__" : Str)) = false := by decide) : EvD X (.Name x pos) G d := fun H0 S H σ o i Q q => by
  obtain ⟨v, h1, h2⟩ := o.im n d hG
  exact we (pe_var (i := n) hN hv hd hcd) ⟨v, h1, q v S H (Ext.refl i) h2⟩
theorem ev_int {k : Nat} : EvD X (.Constant (.int i) k pos) G (.int i) := fun H0 S H σ o e Q q => we pe_int (q _ S H (Ext.refl e) (.int i))
theorem ev_bl {k : Nat} {b : Bool} : EvD X (.Constant (.bool b) k pos) G (.bool b) := fun H0 S H σ o e Q q => we pe_bl (q _ S H (Ext.refl e) (.bl b))
theorem ev_non {k : Nat} : EvD X (.Constant .none k pos) G .none := fun H0 S H σ o e Q q => we pe_non (q _ S H (Ext.refl e) .non)
theorem ev_str {k : Nat} : EvD X (.Constant (.str x) k pos) G (.str x) := fun H0 S H σ o e Q q => we pe_str (q _ S H (Ext.refl e) (.str x))

/-- an operation on two values -/
def RD (K : Fg) (r : R2) (da db d : D) : Prop := ∀ (S H : Hp) (x y : V), Ex S H → Dp K S x da → Dp K S y db → ∀ Q : VK, (∀ v S' H', Ext S H S' H' → Dp K S' v d → Q v H') → r x y H Q
theorem ev_op2 {r : R2} (ht : PE X e (tOp r (WE X a) (WE X b))) (ha : EvD X a G da) (hb : EvD X b G db) (hr : RD X.K r da db d) : EvD X e G d := fun H0 S H σ o i Q q =>
  we ht (ha H0 S H σ o i _ fun x S1 H1 x1 d1 => hb H0 S1 H1 σ (o.ext x1) x1.i _ fun y S2 H2 x2 d2 => hr S2 H2 x y x2.i (x2.s.dp d1) d2 Q fun v S3 H3 x3 d3 => q v S3 H3 ((x1.trans x2).trans x3) d3)
theorem rd_I0 {f : Int → Int → V} {K : Fg} (h : ∀ S : Hp, Dp K S (f i j) d) : RD K (rI0 f) (.int i) (.int j) d := fun S H x y e h1 h2 Q q => by
  cases h1
  cases h2
  exact ⟨i, j, rfl, rfl, q _ S H (Ext.refl e) (h S)⟩
theorem rd_I {C : Int → Int → Prop} {f : Int → Int → V} {K : Fg} (hc : C i j) (h : ∀ S : Hp, Dp K S (f i j) d) : RD K (rI C f) (.int i) (.int j) d := fun S H x y e h1 h2 Q q => by
  cases h1
  cases h2
  exact ⟨i, j, rfl, rfl, hc, q _ S H (Ext.refl e) (h S)⟩
theorem ev_add (ha : EvD X a G (.int i)) (hb : EvD X b G (.int j)) : EvD X (.BinOp a .Add b pos) G (.int (i + j)) := ev_op2 (pe_op op_add pe_w pe_w) ha hb (rd_I0 fun _ => .int _)
theorem ev_sub (ha : EvD X a G (.int i)) (hb : EvD X b G (.int j)) : EvD X (.BinOp a .Sub b pos) G (.int (i - j)) := ev_op2 (pe_op op_sub pe_w pe_w) ha hb (rd_I0 fun _ => .int _)
/-- a product: of less than a million bits -/
def MulOk (i j : Int) : Prop := CMul i j ∨ CMulW i j
theorem op_mulD : OpR X (binaryOp .Mult) (rI MulOk fun i j => .int (i * j)) := opI fun _ _ _ _ _ _ _ hc q => by
  rcases hc with hc | hc
  · exact mul_int q hc.ok
  · exact mul_int q hc.ok
theorem ev_mul (ha : EvD X a G (.int i)) (hb : EvD X b G (.int j)) (h : MulOk i j) : EvD X (.BinOp a .Mult b pos) G (.int (i * j)) := ev_op2 (pe_op op_mulD pe_w pe_w) ha hb (rd_I h fun _ => .int _)
theorem ev_fdiv (ha : EvD X a G (.int i)) (hb : EvD X b G (.int j)) (h : CDivW i j) : EvD X (.BinOp a .FloorDiv b pos) G (.int (i / j)) := ev_op2 (pe_op op_fdivW pe_w pe_w) ha hb (rd_I h fun _ => .int _)
theorem ev_mod (ha : EvD X a G (.int i)) (hb : EvD X b G (.int j)) (h : 0 < j) : EvD X (.BinOp a .Mod b pos) G (.int (i % j)) := ev_op2 (pe_op op_mod pe_w pe_w) ha hb (rd_I (C := fun _ j => 0 < j) h fun _ => .int _)
theorem ev_pow (ha : EvD X a G (.int i)) (hb : EvD X b G (.int j)) (h : CPow i j) : EvD X (.BinOp a .Pow b pos) G (.int (i ^ j.toNat)) := ev_op2 (pe_op op_pow pe_w pe_w) ha hb (rd_I h fun _ => .int _)
theorem ev_neg (ha : EvD X a G (.int i)) : EvD X (.UnaryOp .USub a pos) G (.int (-i)) := fun H0 S H σ o e Q q =>
  we (pe_un un_neg pe_w) (ha H0 S H σ o e _ fun v S1 H1 x1 d1 => by
    cases d1
    exact ⟨i, rfl, q _ _ _ x1 (.int _)⟩)
/-! tests -/
theorem et_op2 {r : R2} {bb : Bool} (ht : PT X e (tTest (tOp r (WE X a) (WE X b)))) (ha : EvD X a G da) (hb : EvD X b G db) (hr : RD X.K r da db (.bool bb)) : EvT X e G bb := fun H0 S H σ o i Q q =>
  wt ht (ha H0 S H σ o i _ fun x S1 H1 x1 d1 => hb H0 S1 H1 σ (o.ext x1) x1.i _ fun y S2 H2 x2 d2 => hr S2 H2 x y x2.i (x2.s.dp d1) d2 _ fun v S3 H3 x3 d3 => by
    cases d3
    exact ⟨bb, rfl, q S3 H3 ((x1.trans x2).trans x3)⟩)
theorem et_lt (ha : EvD X a G (.int i)) (hb : EvD X b G (.int j)) : EvT X (.Compare a [.Lt] [b] pos) G (decide (i < j)) := et_op2 (pt_cmpR op_lt pe_w pe_w (nomark _)) ha hb (rd_I0 fun _ => .bl _)
theorem et_le (ha : EvD X a G (.int i)) (hb : EvD X b G (.int j)) : EvT X (.Compare a [.LtE] [b] pos) G (decide (i ≤ j)) := et_op2 (pt_cmpR op_le pe_w pe_w (nomark _)) ha hb (rd_I0 fun _ => .bl _)
theorem et_gt (ha : EvD X a G (.int i)) (hb : EvD X b G (.int j)) : EvT X (.Compare a [.Gt] [b] pos) G (decide (j < i)) := et_op2 (pt_cmpR op_gt pe_w pe_w (nomark _)) ha hb (rd_I0 fun _ => .bl _)
theorem et_ge (ha : EvD X a G (.int i)) (hb : EvD X b G (.int j)) : EvT X (.Compare a [.GtE] [b] pos) G (decide (j ≤ i)) := et_op2 (pt_cmpR op_ge pe_w pe_w (nomark _)) ha hb (rd_I0 fun _ => .bl _)
theorem rd_eqD {K : Fg} (h1 : SeqAt.shaped da = true) (h2 : SeqAt.shaped db = true) : RD K (rEqD K) da db (.bool (PyData.eqv da db)) := fun S H x y e d1 d2 Q q =>
  ⟨da, db, e.dp d1, e.dp d2, h1, h2, q _ S H (Ext.refl e) (.bl _)⟩
theorem rd_neD {K : Fg} (h1 : SeqAt.shaped da = true) (h2 : SeqAt.shaped db = true) : RD K (rNeD K) da db (.bool (!PyData.eqv da db)) := fun S H x y e d1 d2 Q q =>
  ⟨da, db, e.dp d1, e.dp d2, h1, h2, q _ S H (Ext.refl e) (.bl _)⟩
theorem et_eq (hu : X.A.units + 64 < cLine) (ha : EvD X a G da) (hb : EvD X b G db) (h1 : SeqAt.shaped da = true) (h2 : SeqAt.shaped db = true) : EvT X (.Compare a [.Eq] [b] pos) G (PyData.eqv da db) :=
  et_op2 (pt_cmpR (op_eqD hu) pe_w pe_w (nomark _)) ha hb (rd_eqD h1 h2)
theorem et_ne (hu : X.A.units + 64 < cLine) (ha : EvD X a G da) (hb : EvD X b G db) (h1 : SeqAt.shaped da = true) (h2 : SeqAt.shaped db = true) : EvT X (.Compare a [.NotEq] [b] pos) G (!PyData.eqv da db) :=
  et_op2 (pt_cmpR (op_neD hu) pe_w pe_w (nomark _)) ha hb (rd_neD h1 h2)
theorem ev_eq (hu : X.A.units + 64 < cLine) (ha : EvD X a G da) (hb : EvD X b G db) (h1 : SeqAt.shaped da = true) (h2 : SeqAt.shaped db = true) : EvD X (.Compare a [.Eq] [b] pos) G (.bool (PyData.eqv da db)) :=
  ev_op2 (pe_cmpR (op_eqD hu) pe_w pe_w (nomark _)) ha hb (rd_eqD h1 h2)
/-- ints -/
theorem rd_eqI {K : Fg} : RD K rEq (.int i) (.int j) (.bool (decide (i = j))) := fun S H x y e d1 d2 Q q => by
  cases d1
  cases d2
  refine ⟨rfl, ?_⟩
  have h : decide (V.int i = V.int j) = decide (i = j) := by
    by_cases c : i = j
    · subst c
      rw [decide_eq_true rfl, decide_eq_true rfl]
    · rw [decide_eq_false c, decide_eq_false fun z => c (V.int.inj z)]
  rw [h]
  exact q _ S H (Ext.refl e) (.bl _)
theorem rd_neI {K : Fg} : RD K rNe (.int i) (.int j) (.bool (!decide (i = j))) := fun S H x y e d1 d2 Q q => by
  cases d1
  cases d2
  refine ⟨rfl, ?_⟩
  have h : decide (V.int i = V.int j) = decide (i = j) := by
    by_cases c : i = j
    · subst c
      rw [decide_eq_true rfl, decide_eq_true rfl]
    · rw [decide_eq_false c, decide_eq_false fun z => c (V.int.inj z)]
  rw [h]
  exact q _ S H (Ext.refl e) (.bl _)
theorem et_eqI (ha : EvD X a G (.int i)) (hb : EvD X b G (.int j)) : EvT X (.Compare a [.Eq] [b] pos) G (decide (i = j)) := et_op2 (pt_cmpR op_eq pe_w pe_w (nomark _)) ha hb rd_eqI
theorem et_neI (ha : EvD X a G (.int i)) (hb : EvD X b G (.int j)) : EvT X (.Compare a [.NotEq] [b] pos) G (!decide (i = j)) := et_op2 (pt_cmpR op_ne pe_w pe_w (nomark _)) ha hb rd_neI
theorem ev_eqI (ha : EvD X a G (.int i)) (hb : EvD X b G (.int j)) : EvD X (.Compare a [.Eq] [b] pos) G (.bool (decide (i = j))) := ev_op2 (pe_cmpR op_eq pe_w pe_w (nomark _)) ha hb rd_eqI
theorem ev_lt (ha : EvD X a G (.int i)) (hb : EvD X b G (.int j)) : EvD X (.Compare a [.Lt] [b] pos) G (.bool (decide (i < j))) := ev_op2 (pe_cmpR op_lt pe_w pe_w (nomark _)) ha hb (rd_I0 fun _ => .bl _)
theorem ev_le (ha : EvD X a G (.int i)) (hb : EvD X b G (.int j)) : EvD X (.Compare a [.LtE] [b] pos) G (.bool (decide (i ≤ j))) := ev_op2 (pe_cmpR op_le pe_w pe_w (nomark _)) ha hb (rd_I0 fun _ => .bl _)
theorem et_val {bb : Bool} (h : EvD X e G (.bool bb)) (he : ∀ whole, isTrue e X.env whole = (do let v ← whole; standAt e.pos; holding [v] (truthy v)) := by intro _; rfl) : EvT X e G bb := fun H0 S H σ o i Q q =>
  wt (pt_val pe_w he) (h H0 S H σ o i _ fun v S1 H1 x1 d1 => by
    cases d1
    exact ⟨bb, rfl, q S1 H1 x1⟩)
theorem et_w {bb : Bool} (h : EvW X e G bb) : EvT X e G bb := fun H0 S H σ o i Q q => wt (PW.pt pw_w) (h H0 S H σ o i Q q)
theorem ew_and1 {bb : Bool} (h : EvT X a G bb) : EvW X (.BoolOp .And [a] pos) G bb := fun H0 S H σ o i Q q => ww (pw_and1 pt_w) (h H0 S H σ o i Q q)
theorem ew_or1 {bb : Bool} (h : EvT X a G bb) : EvW X (.BoolOp .Or [a] pos) G bb := fun H0 S H σ o i Q q => ww (pw_or1 pt_w) (h H0 S H σ o i Q q)
theorem ew_and {p q : Bool} (h : EvT X a G p) (k : p = true → EvW X (.BoolOp .And (b :: es) pos) G q) : EvW X (.BoolOp .And (a :: b :: es) pos) G (p && q) := fun H0 S H σ o i Q w =>
  ww (pw_and pt_w pw_w) (h H0 S H σ o i _ fun S1 H1 x1 => by
    cases p with
    | true =>
      rw [if_pos rfl]
      exact k rfl H0 S1 H1 σ (o.ext x1) x1.i Q fun S2 H2 x2 => w S2 H2 (x1.trans x2)
    | false =>
      rw [if_neg Bool.false_ne_true]
      exact w S1 H1 x1)
theorem ew_or {p q : Bool} (h : EvT X a G p) (k : p = false → EvW X (.BoolOp .Or (b :: es) pos) G q) : EvW X (.BoolOp .Or (a :: b :: es) pos) G (p || q) := fun H0 S H σ o i Q w =>
  ww (pw_or pt_w pw_w) (h H0 S H σ o i _ fun S1 H1 x1 => by
    cases p with
    | true =>
      rw [if_pos rfl]
      exact w S1 H1 x1
    | false =>
      rw [if_neg Bool.false_ne_true]
      exact k rfl H0 S1 H1 σ (o.ext x1) x1.i Q fun S2 H2 x2 => w S2 H2 (x1.trans x2))
theorem et_not {p : Bool} (h : EvT X a G p) : EvT X (.UnaryOp .Not a pos) G (!p) := fun H0 S H σ o i Q q => wt (pt_not pt_w) (h H0 S H σ o i _ q)
theorem ev_if {p : Bool} (h : EvT X c G p) (h1 : p = true → EvD X a G d) (h2 : p = false → EvD X b G d) : EvD X (.IfExp c a b pos) G d := fun H0 S H σ o i Q q =>
  we (pe_ifExp pt_w pe_w pe_w) (h H0 S H σ o i _ fun S1 H1 x1 => by
    cases p with
    | true =>
      rw [if_pos rfl]
      exact h1 rfl H0 S1 H1 σ (o.ext x1) x1.i Q fun v S2 H2 x2 => q v S2 H2 (x1.trans x2)
    | false =>
      rw [if_neg Bool.false_ne_true]
      exact h2 rfl H0 S1 H1 σ (o.ext x1) x1.i Q fun v S2 H2 x2 => q v S2 H2 (x1.trans x2))
/-! lists of expressions, displays, items -/
theorem ea_nil : EvA X [] G [] := fun H0 S H σ o i Q q => wa pa_nil (q [] S H (Ext.refl i) .nil)
theorem ea_cons (h : EvD X e G d) (hr : EvA X es G ds) (hs : starEach (e :: es) X.env = (false, eval e X.env) :: starEach es X.env := by rfl) : EvA X (e :: es) G (d :: ds) := fun H0 S H σ o i Q q =>
  wa (pa_cons pe_w pa_w hs) (h H0 S H σ o i _ fun v S1 H1 x1 d1 => hr H0 S1 H1 σ (o.ext x1) x1.i _ fun vs S2 H2 x2 d2 => q _ S2 H2 (x1.trans x2) (.cons (x2.s.dp d1) d2))
theorem ev_tup {x1} (h : EvA X es G ds) (hl : ds.length ≤ sizeLine := by exact Nat.le_of_ble_eq_true rfl) : EvD X (.Tuple es x1 pos) G (.tuple ds) := fun H0 S H σ o i Q q =>
  we (pe_tup pa_w) (h H0 S H σ o i _ fun vs S1 H1 x1 d1 => ⟨by rw [DpAll.len d1]; exact hl, fun p hp => q _ _ _ (x1.add hp) (.tup (SqT.of upd_same) (((Ex.refl S1).new (x1.i.none hp)).dpAll d1))⟩)
theorem en_lst (h : EvA X es G ds) (hl : ds.length ≤ sizeLine := by exact Nat.le_of_ble_eq_true rfl) : EvN X (.List es pos) G ds := fun H0 S H σ o i Q q =>
  we (pe_lst pa_w) (h H0 S H σ o i _ fun vs S1 H1 x1 d1 => ⟨by rw [DpAll.len d1]; exact hl, fun p hp => q p vs _ _ (x1.own (x1.h.none hp) (x1.i.none hp)) (x1.h.none hp) (x1.i.none hp) upd_same d1⟩)
theorem atI_len {α β : Type} {xs : List α} {ys : List β} (h : xs.length = ys.length) {k : Int} {y : β} (q : atI ys k = some y) : ∃ n : Nat, ixN xs.length k = some n ∧ ys[n]? = some y := by
  unfold atI at q
  rw [← h] at q
  cases c : ixN xs.length k with
  | none =>
    rw [c] at q
    cases q
  | some n =>
    rw [c] at q
    exact ⟨n, rfl, q⟩
theorem DpAll.at {K : Fg} {S : Hp} {vs : List V} {ds : List D} {k : Int} {d : D} (h : DpAll K S vs ds) (q : atI ds k = some d) : ∃ v, atI vs k = some v ∧ Dp K S v d := by
  obtain ⟨n, h1, h2⟩ := atI_len (xs := vs) (DpAll.len h) q
  obtain ⟨v, h3, h4⟩ := DpAll.get h h2
  refine ⟨v, ?_, h4⟩
  unfold atI
  rw [h1]
  exact h3
theorem ev_ixT {k : Int} (ha : EvD X a G (.tuple ds)) (hb : EvD X b G (.int k)) (h : atI ds k = some d) (hs : PlainIx b := by exact fun _ _ => rfl) : EvD X (.Subscript a b pos) G d :=
  ev_op2 (pe_ix ix_tup pe_w pe_w hs) ha hb fun S H x y e d1 d2 Q q => by
    cases d1 with
    | tup hq ha =>
      cases d2
      obtain ⟨v, h1, h2⟩ := DpAll.at ha h
      exact ⟨_, _, k, v, rfl, rfl, e.sqT hq, h1, q v S H (Ext.refl e) h2⟩
theorem ev_ixL {k : Int} (ha : EvD X a G (.list ds)) (hb : EvD X b G (.int k)) (h : atI ds k = some d) (hs : PlainIx b := by exact fun _ _ => rfl) : EvD X (.Subscript a b pos) G d :=
  ev_op2 (pe_ix ix_list pe_w pe_w hs) ha hb fun S H x y e d1 d2 Q q => by
    cases d1 with
    | lst hq ha =>
      cases d2
      obtain ⟨v, h1, h2⟩ := DpAll.at ha h
      exact ⟨_, _, k, v, rfl, rfl, e.sqL hq, h1, q v S H (Ext.refl e) h2⟩
/-! built-in calls -/
def CD (K : Fg) (r : List V → Hp → VK → Prop) (ds : List D) (d : D) : Prop := ∀ (S H : Hp) (vs : List V), Ex S H → DpAll K S vs ds → ∀ Q : VK, (∀ v S' H', Ext S H S' H' → Dp K S' v d → Q v H') → r vs H Q
theorem ev_cb {r : List V → Hp → VK → Prop} (ht : PE X e (tCB r (WA X es))) (ha : EvA X es G ds) (hr : CD X.K r ds d) : EvD X e G d := fun H0 S H σ o i Q q =>
  we ht (ha H0 S H σ o i _ fun vs S1 H1 x1 d1 => hr S1 H1 vs x1.i d1 Q fun v S2 H2 x2 d2 => q v S2 H2 (x1.trans x2) d2)
end
end DL

namespace DL
open PySem PySem.Spec PyProof.Rows L2

/-! ### errors, outcomes, promises -/
structure Exc where
  cls : Value
  fs : List (Str × D)
/-- the error's own dict, where it has one -/
def XDp (K : Fg) (S : Hp) (a : Option Addr) (fs : List (Str × D)) : Prop :=
  match a with
  | none => fs = []
  | some p => ∃ fv : List (Str × V), S p = some (.xd fv) ∧ fv.map (·.1) = fs.map (·.1) ∧ DpAll K S (fv.map (·.2)) (fs.map (·.2))
inductive Out where
  | val (d : D)
  | exc (x : Exc)
def spD (K : Fg) (R : List D → Out → Prop) : Sp := fun vs H Q E => ∃ (S : Hp) (ds : List D) (o : Out), Ex S H ∧ DpAll K S vs ds ∧ R ds o ∧
  match o with
  | .val d => ∀ v S' H', Ext S H S' H' → Dp K S' v d → Q v H'
  | .exc x => ∀ a S' H', Ext S H S' H' → XDp K S' a x.fs → E x.cls a H'

/-! ### what a statement does -/
structure Fin' where
  nx : Gam → Prop
  rt : D → Prop
  bk : Gam → Prop := fun _ => False
  ct : Gam → Prop := fun _ => False
  ex : Exc → Gam → Prop := fun _ _ => False
abbrev Fin := Fin'
structure Met (X : Cx) (W : WX) (S0 H0 : Hp) (F : DL.Fin) (E : Ends) : Prop where
  nx : ∀ (σ : L2.St) (S H : Hp) (G : Gam), Ext S0 H0 S H → Hol X.K H0 S H σ G → F.nx G → E.nx σ H
  rt : ∀ (v : V) (S H : Hp) (d : D), Ext S0 H0 S H → Dp X.K S v d → F.rt d → E.rt v H
  bk : ∀ (σ : L2.St) (S H : Hp) (G : Gam), Ext S0 H0 S H → Hol X.K H0 S H σ G → F.bk G → E.bk σ H
  ct : ∀ (σ : L2.St) (S H : Hp) (G : Gam), Ext S0 H0 S H → Hol X.K H0 S H σ G → F.ct G → E.ct σ H
  ex : ∀ (x : Exc) (σ : L2.St) (S H : Hp) (G : Gam) (a : Option Addr), Ext S0 H0 S H → Hol X.K H0 S H σ G → XDp X.K S a x.fs → F.ex x G → W x.cls a σ H
def GS (X : Cx) (W : WX) (st : Stmt) (F : DL.Fin) (G : Gam) : Prop := ∀ (S0 H0 S H : Hp) (σ : L2.St) (E : Ends), Ext S0 H0 S H → Hol X.K H0 S H σ G → Met X W S0 H0 F E → WS X st E σ H
def GSs (X : Cx) (W : WX) (sts : List Stmt) (F : DL.Fin) (G : Gam) : Prop := ∀ (S0 H0 S H : Hp) (σ : L2.St) (E : Ends), Ext S0 H0 S H → Hol X.K H0 S H σ G → Met X W S0 H0 F E → WSs X sts E σ H

section
variable {X : Cx} {W : WX} {F F' : DL.Fin} {G : Gam} {st : Stmt} {sts body els : List Stmt} {e a b c : Expr} {es : List Expr} {d da db : D} {ds : List D} {pos pos' : Pos} {x : Str}
theorem gs_nil (h : F.nx G) : GSs X W [] F G := fun S0 H0 S H σ E x o m => wss pss_nil (m.nx σ S H G x o h)
theorem gs_cons (h : GS X W st { F with nx := fun G' => GSs X W sts F G' } G) : GSs X W (st :: sts) F G := fun S0 H0 S H σ E x o m =>
  wss (pss_cons ps_w pss_w) (h S0 H0 S H σ { E with nx := WSs X sts E } x o ⟨fun σ' S' H' G' x' o' k => k S0 H0 S' H' σ' E x' o' m, m.rt, m.bk, m.ct, m.ex⟩)
theorem gs_imp (h : GS X W st F G) (n : ∀ G', F.nx G' → F'.nx G') (r : ∀ d, F.rt d → F'.rt d := by exact fun _ h => h) (bb : ∀ G', F.bk G' → F'.bk G' := by exact fun _ h => h) (cc : ∀ G', F.ct G' → F'.ct G' := by exact fun _ h => h) (xx : ∀ y G', F.ex y G' → F'.ex y G' := by exact fun _ _ h => h) : GS X W st F' G :=
  fun S0 H0 S H σ E x o m => h S0 H0 S H σ E x o ⟨fun σ' S' H' G' x' o' k => m.nx σ' S' H' G' x' o' (n _ k), fun v S' H' d x' o' k => m.rt v S' H' d x' o' (r _ k), fun σ' S' H' G' x' o' k => m.bk σ' S' H' G' x' o' (bb _ k), fun σ' S' H' G' x' o' k => m.ct σ' S' H' G' x' o' (cc _ k),
    fun y σ' S' H' G' a x' o' q k => m.ex y σ' S' H' G' a x' o' q (xx _ _ k)⟩
theorem gss_imp (h : GSs X W sts F G) (n : ∀ G', F.nx G' → F'.nx G') (r : ∀ d, F.rt d → F'.rt d := by exact fun _ h => h) (bb : ∀ G', F.bk G' → F'.bk G' := by exact fun _ h => h) (cc : ∀ G', F.ct G' → F'.ct G' := by exact fun _ h => h) (xx : ∀ y G', F.ex y G' → F'.ex y G' := by exact fun _ _ h => h) : GSs X W sts F' G :=
  fun S0 H0 S H σ E x o m => h S0 H0 S H σ E x o ⟨fun σ' S' H' G' x' o' k => m.nx σ' S' H' G' x' o' (n _ k), fun v S' H' d x' o' k => m.rt v S' H' d x' o' (r _ k), fun σ' S' H' G' x' o' k => m.bk σ' S' H' G' x' o' (bb _ k), fun σ' S' H' G' x' o' k => m.ct σ' S' H' G' x' o' (cc _ k),
    fun y σ' S' H' G' a x' o' q k => m.ex y σ' S' H' G' a x' o' q (xx _ _ k)⟩
/-- a statement, then the rest from M -/
theorem gs_cut (M : Gam → Prop) (h : GS X W st { F with nx := M } G) (k : ∀ G', M G' → GSs X W sts F G') : GSs X W (st :: sts) F G := gs_cons (gs_imp h k)
/-- what is known is made ready ahead of a statement -/
theorem gs_keep {i : Nat} (hi : G[i]? = some (.own ds) := by rfl) (h : GSs X W sts F (G.set i (.im (.list ds)))) : GSs X W sts F G := fun S0 H0 S H σ E x o m => by
  obtain ⟨p, vs, h0, hs, hp, o'⟩ := o.keep hi
  exact h S0 H0 (upd S p (.lst vs)) H σ E (x.keep h0 hs hp) o' m
theorem gs_drop (i : Nat) (h : GSs X W sts F (G.set i .no)) : GSs X W sts F G := fun S0 H0 S H σ E x o m => h S0 H0 S H σ E x o.drop m
/-- x = e -/
theorem gs_set (i : Nat) (he : EvD X e G d) (k : F.nx (G.set i (.im d))) (hi : X.N[i]? = some x := by rfl) (hN : X.N.Nodup := by assumption) (hx : Loc X.env.scope x := by first | exact Or.inl rfl | exact Or.inr rfl)
    (hs : swapsWith e (some (.Name x pos')) pos.line X.env = pure false := by rfl) (hf : X.fn x = true ∨ X.env.scope.names.lookup x = some .local := by first | exact .inl rfl | exact .inr rfl | assumption) : GS X W (.Assign [.Name x pos'] e pos) F G := fun S0 H0 S H σ E x o m =>
  ws (ps_set (i := i) hN hi hx pe_w hs hf) (he H0 S H σ o x.i _ fun v S1 H1 x1 d1 => m.nx _ S1 H1 _ (x.trans x1) ((o.ext x1).set_im d1) k)
/-- x = a new list -/
theorem gs_setN (i : Nat) (he : EvN X e G ds) (k : F.nx (G.set i (.own ds))) (hi : X.N[i]? = some x := by rfl) (hN : X.N.Nodup := by assumption) (hx : Loc X.env.scope x := by first | exact Or.inl rfl | exact Or.inr rfl)
    (hs : swapsWith e (some (.Name x pos')) pos.line X.env = pure false := by rfl) (hf : X.fn x = true ∨ X.env.scope.names.lookup x = some .local := by first | exact .inl rfl | exact .inr rfl | assumption) : GS X W (.Assign [.Name x pos'] e pos) F G := fun S0 H0 S H σ E x o m =>
  ws (ps_set (i := i) hN hi hx pe_w hs hf) (he H0 S H σ o x.i _ fun p vs S1 H1 x1 h0 hs1 hp d1 => m.nx _ S1 H1 _ (x.trans x1) ((o.ext x1).set_own (x.h.none h0) hs1 hp d1 fun j es hj hg hv => by
    obtain ⟨q, ws', a1, a2, a3, a4, a5⟩ := o.own j es hg
    rw [a1] at hv
    have z : q = p := V.ref.inj (Option.some.inj (Option.some.inj hv))
    subst z
    rw [a4] at h0
    cases h0) k)
/-- x, y = a, b -/
theorem gs_par {y : Str} {px py pt : Pos} {kt k2 pt2} (i j : Nat) (ha : EvA X [a, b] G [da, db]) (k : F.nx ((G.set i (.im da)).set j (.im db))) (hi : X.N[i]? = some x := by rfl) (hj : X.N[j]? = some y := by rfl) (hij : i ≠ j := by decide) (hN : X.N.Nodup := by assumption) (hc : X.calm = true := by rfl)
    (hx : X.env.scope.names.lookup x = some .local := by rfl) (hy : X.env.scope.names.lookup y = some .local := by rfl)
    (hw : swappedStores [.Tuple [.Name x px, .Name y py] kt pt] (.Tuple [a, b] k2 pt2) X.env = pure (some [x, y]) := by rfl)
    (hs : swapsWithSole [.Tuple [.Name x px, .Name y py] kt pt] (.Tuple [a, b] k2 pt2) pos.line X.env = pure false := by rfl) :
    GS X W (.Assign [.Tuple [.Name x px, .Name y py] kt pt] (.Tuple [a, b] k2 pt2) pos) F G := fun S0 H0 S H σ E x o m =>
  ws (ps_par (i := i) (j := j) hc hN hi hj hij hx hy pa_w hw hs) (ha H0 S H σ o x.i _ fun vs S1 H1 x1 d1 => by
    cases d1 with
    | cons d1 d2 =>
      cases d2 with
      | cons d2 d3 =>
        cases d3
        exact ⟨_, _, rfl, m.nx _ S1 H1 _ (x.trans x1) (((o.ext x1).set_im d1).set_im d2) k⟩)
theorem gs_if {p : Bool} (hc : EvT X c G p) (h1 : p = true → GSs X W body F G) (h2 : p = false → GSs X W els F G) : GS X W (.If c body els pos) F G := fun S0 H0 S H σ E x o m =>
  ws (ps_if pt_w pss_w pss_w) (hc H0 S H σ o x.i _ fun S1 H1 x1 => by
    cases p with
    | true =>
      rw [if_pos rfl]
      exact h1 rfl S0 H0 S1 H1 σ E (x.trans x1) (o.ext x1) m
    | false =>
      rw [if_neg Bool.false_ne_true]
      exact h2 rfl S0 H0 S1 H1 σ E (x.trans x1) (o.ext x1) m)
theorem gs_ret (he : EvD X e G d) (k : F.rt d) : GS X W (.Return (some e) pos) F G := fun S0 H0 S H σ E x o m =>
  ws (ps_ret pe_w) (he H0 S H σ o x.i _ fun v S1 H1 x1 d1 => m.rt v S1 H1 d (x.trans x1) d1 k)
theorem gs_retN (k : F.rt .none) : GS X W (.Return none pos) F G := fun S0 H0 S H σ E x o m => ws ps_retN (m.rt .non S H .none x .non k)
theorem gs_pass (k : F.nx G) : GS X W (.Pass pos) F G := fun S0 H0 S H σ E x o m => ws ps_pass (m.nx σ S H G x o k)
theorem gs_doc {j : Nat} (k : F.nx G) : GS X W (.Expr (.Constant (.str x) j pos) pos') F G := fun S0 H0 S H σ E x o m => ws ps_doc (m.nx σ S H G x o k)
theorem gs_break (k : F.bk G) : GS X W (.Break pos) F G := fun S0 H0 S H σ E x o m => ws ps_break (m.bk σ S H G x o k)
theorem gs_cont (k : F.ct G) : GS X W (.Continue pos) F G := fun S0 H0 S H σ E x o m => ws ps_continue (m.ct σ S H G x o k)
theorem gs_expr (he : EvD X e G d) (k : F.nx G) (hs : swapsWith e none pos.line X.env = pure false := by rfl) : GS X W (.Expr e pos) F G := fun S0 H0 S H σ E x o m =>
  ws (ps_expr pe_w hs) (he H0 S H σ o x.i _ fun v S1 H1 x1 d1 => m.nx σ S1 H1 G (x.trans x1) (o.ext x1) k)
end
end DL

namespace DL
open PySem PySem.Spec PyProof.Rows L2

/-! ### defs and their calls -/
structure DefOk (P : Program) (w : World) (K : Fg) (mg : Str → Option Value) (base : Heap) (CX : CXT) (k : Nat) (x : Str) (R : List D → Out → Prop) : Prop where
  ex : ∃ (f : Addr) (fd : FuncData) (ps : List Str), FnOk P w K mg base CX k f fd ps (spD K R) ∧ mg x = some (.ref f) ∧ PySem.W.keepIn K (.ref f) = true ∧ Binds K fd ps []
theorem DefOk.mono {P : Program} {w : World} {K : Fg} {mg : Str → Option Value} {base : Heap} {CX : CXT} {j k : Nat} {x : Str} {R : List D → Out → Prop} (F : DefOk P w K mg base CX j x R) (h : j ≤ k) : DefOk P w K mg base CX k x R :=
  let ⟨f, fd, ps, a, b⟩ := F.ex; ⟨f, fd, ps, a.mono h, b⟩
section
variable {X : Cx} {W : WX} {F : DL.Fin} {G : Gam} {e a b c : Expr} {es : List Expr} {d da db : D} {ds : List D} {pos pos' p : Pos} {x : Str} {k j : Nat} {R : List D → Out → Prop} {CX : CXT} {y : Exc}
theorem ev_call (Fn : DefOk X.prog X.w X.K X.mg X.base CX j x R) (hr : Room k X.A) (ha : EvA X (e :: es) G ds) (h : R ds (.val d)) (hj : j ≤ k := by decide) (hx : Passes CX X E0 := by first | exact pass0 | exact passL) (hg : Gl X x := by rfl)
    (hdb : (x == ("__debug__" : Str)) = false := by decide) (he : starEach (e :: es) X.env = (false, eval e X.env) :: starEach es X.env := by rfl) (hpl : (backTo pos (starEach es X.env)).any (·.1) = false := by rfl) :
    EvD X (.Call (.Name x p) (e :: es) [] pos) G d := fun H0 S H σ o i Q q => by
  obtain ⟨f, fd, ps, F, hm, hk, hb⟩ := Fn.ex
  refine we (pe_call F (hr.mono hj) hg hm hk hb .nil hx pa_w hdb he hpl) (ha H0 S H σ o i _ fun vs S1 H1 x1 d1 => ?_)
  rw [List.append_nil]
  exact ⟨S1, ds, .val d, x1.i, d1, h, fun v S2 H2 x2 d2 => q v S2 H2 (x1.trans x2) d2⟩
/-- e raises y -/
def EvX (X : Cx) (W : WX) (e : Expr) (G : Gam) (y : Exc) : Prop := ∀ (H0 S H : Hp) (σ : L2.St), Hol X.K H0 S H σ G → Ex S H → (∀ a S' H', Ext S H S' H' → XDp X.K S' a y.fs → W y.cls a σ H') → ∀ Q : VK, DL.WE X e σ H Q
theorem ex_call (tk : Takes X W) (Fn : DefOk X.prog X.w X.K X.mg X.base (L2.CX X.prog X.w) j x R) (hr : Room k X.A) (ha : EvA X (e :: es) G ds) (h : R ds (.exc y)) (hj : j ≤ k := by decide) (hg : Gl X x := by rfl)
    (hdb : (x == ("__debug__" : Str)) = false := by decide) (he : starEach (e :: es) X.env = (false, eval e X.env) :: starEach es X.env := by rfl) (hpl : (backTo pos (starEach es X.env)).any (·.1) = false := by rfl) :
    EvX X W (.Call (.Name x p) (e :: es) [] pos) G y := fun H0 S H σ o i w Q => by
  obtain ⟨f, fd, ps, F, hm, hk, hb⟩ := Fn.ex
  refine we (pe_callS F (hr.mono hj) hg hm hk hb (fun σ => passAt tk σ) pa_w hdb he hpl) (ha H0 S H σ o i _ fun vs S1 H1 x1 d1 => ?_)
  exact ⟨S1, ds, .exc y, x1.i, d1, h, fun aa S2 H2 x2 d2 => w aa S2 H2 (x1.trans x2) d2⟩
theorem Met.goes {S0 H0 S H : Hp} {σ : L2.St} {E : Ends} (m : Met X W S0 H0 F E) (x : Ext S0 H0 S H) (o : Hol X.K H0 S H σ G) (k : F.ex y G) : ∀ a S' H', Ext S H S' H' → XDp X.K S' a y.fs → W y.cls a σ H' :=
  fun aa S' H' x' q => m.ex y σ S' H' G aa (x.trans x') (o.ext x') q k
theorem gs_retX (he : EvX X W e G y) (k : F.ex y G) : GS X W (.Return (some e) pos) F G := fun S0 H0 S H σ E x o m => ws (ps_ret pe_w) (he H0 S H σ o x.i (m.goes x o k) _)
theorem gs_exprX (he : EvX X W e G y) (k : F.ex y G) (hs : swapsWith e none pos.line X.env = pure false := by rfl) : GS X W (.Expr e pos) F G := fun S0 H0 S H σ E x o m => ws (ps_expr pe_w hs) (he H0 S H σ o x.i (m.goes x o k) _)
theorem gs_setX {n : Str} (i : Nat) (he : EvX X W e G y) (k : F.ex y G) (hi : X.N[i]? = some n := by rfl) (hN : X.N.Nodup := by assumption) (hx : Loc X.env.scope n := by first | exact Or.inl rfl | exact Or.inr rfl)
    (hs : swapsWith e (some (.Name n pos')) pos.line X.env = pure false := by rfl) (hf : X.fn n = true ∨ X.env.scope.names.lookup n = some .local := by first | exact .inl rfl | exact .inr rfl | assumption) : GS X W (.Assign [.Name n pos'] e pos) F G := fun S0 H0 S H σ E x o m =>
  ws (ps_set (i := i) hN hi hx pe_w hs hf) (he H0 S H σ o x.i (m.goes x o k) _)
end

/-! ### an own error, raised and caught -/
section
variable {X : Cx} {W : WX} {F : DL.Fin} {G : Gam} {e : Expr} {x : Str} {C : Addr} {bmB : List Value} {B newId initId : String} {p pos pos' np : Pos} {body suite : List Stmt} {b₀ : Stmt} {c : Value}
theorem pmk_own0 (Fb : ExcBaseFacts B newId initId bmB) (q : PySem.W.excIn X.K C bmB newId = true) (gC : X.mg x = some (.ref C)) (kC : PySem.W.keepIn X.K (.ref C) = true) (r : Raises X (.ref C)) (hg : Gl X x)
    (hdb : (x == ("__debug__" : Str)) = false := by decide) : PMk X (.Call (.Name x p) [] [] pos) (fun σ H Q => Q (.ref C) none H) := by
  intro pins s σ H Q I h
  refine wpAny_Call_Name_kw (ld_glob I hg gC ?_ hdb)
  refine PySem.W.callWith_K0 I.kIn kC ?_
  show wpAny _ _ (call (.ref C) []) _ _ _
  obtain ⟨bm, N, nm, qn, bs, hdct, sn, sub, ab, col, dd, k0, k1, k2, k3, k5, mN, hC, hN, hni, T⟩ := exc_obj I.kIn q
  refine wpAny_call_exc_subT Fb T hC hN hni (fun h' e hm => ?_) (Nat.zero_le _)
  exact mk_of I hm r h (I.hok.gone hm.new)
/-- what stands of an own error class without more -/
structure ErrOk (K : Fg) (mg : Str → Option Value) (x : Str) (C : Addr) (bmB : List Value) (newId : String) : Prop where
  g : mg x = some (.ref C)
  e : PySem.W.excIn K C bmB newId = true
  k : PySem.W.keepIn K (.ref C) = true
  b : PySem.W.subIn K (.ref C) (.type "BaseException") = some true
  t : PySem.W.typeIn K (.ref C) = some (.type "type")
theorem gs_raise0 (tk : Takes X W) (Fb : ExcBaseFacts B newId initId bmB) (T : ErrOk X.K X.mg x C bmB newId) (k : F.ex ⟨.ref C, []⟩ G) (hc : X.calm = true := by rfl) (hg : Gl X x := by rfl) (hdb : (x == ("__debug__" : Str)) = false := by decide) :
    GS X W (.Raise (some (.Call (.Name x p) [] [] pos)) none pos') F G := fun S0 H0 S H σ E y o m =>
  ws (ps_raise hc tk (pmk_own0 Fb T.e T.g T.k (raises_own T.b T.t) hg hdb)) (m.ex ⟨.ref C, []⟩ σ S H G none y o rfl k)
/-- try: body / except x: suite, the suite raises nothing -/
theorem gs_try (tk : Takes X W) (hs : X.stack = X.env :: X.outer) (hf : X.env.frame = some X.env.locals) (hc : Names X x c)
    (hb : ∀ (W' : WX) (pn : List (Addr × Obj)) (xe : Value → Shared → Prop), Takes (X.tr pn xe) W' → PassesOwn (model X.prog X.w) X.A X.env xe →
      GSs (X.tr pn xe) W' body { F with ex := fun y G' => ∃ bb, PySem.W.exmOne X.K y.cls c = some bb ∧ (bb = true → ∀ (a : Addr) (oe : Obj) (d : Option Addr) (pn : List (Addr × Obj)), Zc y.cls d oe → GSs (X.suite a ((a, oe) :: pn)) (fun _ _ _ _ => False) (b₀ :: suite) { F with ex := fun _ _ => False } G') ∧ (bb = false → F.ex y G') } G) :
    GS X W (.Try body [.ExceptHandler (some (.Name x np)) none (b₀ :: suite) pos'] [] [] pos) F G := fun S0 H0 S H σ E z o m => by
  refine ws (ps_try_only (tb := fun W' D σ H => ∀ (pn : List (Addr × Obj)) (xe : Value → Shared → Prop), Takes (X.tr pn xe) W' → PassesOwn (model X.prog X.w) X.A X.env xe → WSs (X.tr pn xe) body D σ H)
    (ts := fun a cls d D σ H => ∀ (oe : Obj) (pn : List (Addr × Obj)), Zc cls d oe → WSs (X.suite a ((a, oe) :: pn)) (b₀ :: suite) D σ H) (Wout := W) hs hf hc tk
    (fun W' pn xe t po => ⟨fun pins s σ H D I h => h pn xe t po pins s I⟩) (fun a oe cls d pn hz _ => ⟨fun pins s σ H D I h => h oe pn hz pins s I⟩)) ?_
  intro pn xe t po
  refine hb _ pn xe t po S0 H0 S H σ E z o ⟨m.nx, m.rt, m.bk, m.ct, ?_⟩
  rintro y σ1 S1 H1 G1 a z1 o1 q1 ⟨bb, h1, h2, h3⟩
  refine ⟨bb, h1, fun hbt ad na oe pn' hz => ?_, fun hbf => m.ex y σ1 S1 H1 G1 a z1 o1 q1 (h3 hbf)⟩
  exact h2 hbt ad oe a pn' hz S0 H0 S1 H1 σ1 E z1 o1 ⟨m.nx, m.rt, m.bk, m.ct, fun _ _ _ _ _ _ _ _ _ f => f.elim⟩
end

/-! ### loops -/
/-- the ground of a loop: all that is stable, and what stood at the entry -/
def bed (S H0 : Hp) : Hp := fun a => match S a with | some o => some o | none => H0 a
theorem bed_none {S H0 : Hp} {a : Addr} (h1 : S a = none) (h2 : H0 a = none) : bed S H0 a = none := by unfold bed; rw [h1]; exact h2
theorem none_bed {S H0 : Hp} {a : Addr} (h : bed S H0 a = none) : S a = none ∧ H0 a = none := by
  unfold bed at h
  cases q : S a with
  | some o => rw [q] at h; cases h
  | none => rw [q] at h; exact ⟨rfl, h⟩
theorem Ext.bed {S0 H0 S H : Hp} (x : Ext S0 H0 S H) : Ext S (bed S H0) S H := ⟨Ex.refl S, fun a o q => by
  unfold DL.bed at q
  cases c : S a with
  | some u =>
    rw [c] at q
    cases q
    exact x.i a _ c
  | none =>
    rw [c] at q
    exact x.h a o q, x.i, fun _ h _ => h⟩
theorem Ext.unbed {S0 H0 S H S' H' : Hp} (x : Ext S0 H0 S H) (y : Ext S (DL.bed S H0) S' H') : Ext S0 H0 S' H' :=
  ⟨x.s.trans y.s, fun a o q => y.h a o (by
    unfold DL.bed
    cases c : S a with
    | some u =>
      have h1 := x.i a u c
      rw [x.h a o q] at h1
      exact h1.symm
    | none => exact q), y.i, fun a h1 h2 => y.n a (x.n a h1 h2) fun z => h2 (none_bed z).2⟩
theorem Hol.bed {K : Fg} {H0 S H : Hp} {σ : L2.St} {G : Gam} (o : Hol K H0 S H σ G) : Hol K (DL.bed S H0) S H σ G :=
  ⟨o.len, o.im, fun i ds q => let ⟨p, vs, a, z, b, c⟩ := o.own i ds q; ⟨p, vs, a, bed_none b z, b, c⟩, o.sep⟩
theorem Hol.unbed {K : Fg} {H0 S S' H' : Hp} {σ : L2.St} {G : Gam} (o : Hol K (DL.bed S H0) S' H' σ G) : Hol K H0 S' H' σ G :=
  ⟨o.len, o.im, fun i ds q => let ⟨p, vs, a, z, b, c⟩ := o.own i ds q; ⟨p, vs, a, (none_bed z).2, b, c⟩, o.sep⟩
theorem Met.bed {X : Cx} {W : WX} {S0 H0 S H : Hp} {F : DL.Fin} {E : Ends} (m : Met X W S0 H0 F E) (x : Ext S0 H0 S H) : Met X W S (DL.bed S H0) F E :=
  ⟨fun σ S' H' G y o => m.nx σ S' H' G (x.unbed y) o.unbed, fun v S' H' d y => m.rt v S' H' d (x.unbed y), fun σ S' H' G y o => m.bk σ S' H' G (x.unbed y) o.unbed, fun σ S' H' G y o => m.ct σ S' H' G (x.unbed y) o.unbed,
    fun z σ S' H' G a y o => m.ex z σ S' H' G a (x.unbed y) o.unbed⟩
/-- between two turns -/
def Lp (K : Fg) (Sb Hb : Hp) (I : Gam → Prop) (σ : L2.St) (H : Hp) : Prop := ∃ S G, Ext Sb Hb S H ∧ Hol K Hb S H σ G ∧ I G
section
variable {X : Cx} {W : WX} {F : DL.Fin} {G : Gam} {e c : Expr} {es : List Expr} {d : D} {ds : List D} {pos p np : Pos} {body : List Stmt} {x : Str}
theorem Met.turn {S0 H0 : Hp} {E : Ends} {I : Gam → Prop} {N : L2.St → Hp → Prop} (m : Met X W S0 H0 F E) (hN : ∀ σ H, Lp X.K S0 H0 I σ H → N σ H) : Met X W S0 H0 { nx := I, rt := F.rt, bk := F.nx, ct := I, ex := F.ex } { E with nx := N, ct := N, bk := E.nx } :=
  ⟨fun σ S H G x o k => hN σ H ⟨S, G, x, o, k⟩, m.rt, fun σ S H G x o k => m.nx σ S H G x o k, fun σ S H G x o k => hN σ H ⟨S, G, x, o, k⟩, m.ex⟩
abbrev Fin'.turn (F : DL.Fin) (I : Gam → Prop) : DL.Fin := { nx := I, rt := F.rt, bk := F.nx, ct := I, ex := F.ex }
/-- for x in a list -/
theorem gs_forL (j : Nat) (I : Nat → Gam → Prop) (he : EvD X e G (.list ds)) (h0 : I 0 G)
    (hs : ∀ (i : Nat) (d : D) (G' : Gam), ds[i]? = some d → I i G' → GSs X W body (F.turn (I (i + 1))) (G'.set j (.im d)))
    (hd : ∀ G', I ds.length G' → F.nx G') (hp : PassesOwn (model X.prog X.w) X.A X.env X.xe) (hj : X.N[j]? = some x := by rfl) (hN : X.N.Nodup := by assumption) (hc : X.calm = true := by rfl)
    (hx : Loc X.env.scope x := by first | exact Or.inl rfl | exact Or.inr rfl) (hf : X.fn x = true ∨ X.env.scope.names.lookup x = some .local := by first | exact .inl rfl | exact .inr rfl | assumption)
    (hst : ∀ x, foldedSetIterable e X.env x = pure x := by intro _; rfl) : GS X W (.For (.Name x np) e body [] pos) F G := fun S0 H0 S H σ E z o m => by
  refine ws (ps_for hp hc (pi_list pe_w) (pg_name hN hj hx hf) pss_w hst) (he H0 S H σ o z.i _ fun v S1 H1 x1 d1 => ?_)
  cases d1 with
  | lst hq ha =>
    rename_i a vs
    have z1 := z.trans x1
    have mb := m.bed z1
    refine ⟨a, rfl, ⟨_, x1.i.sqL hq⟩, for_list (xs := vs) (fun i σ' H' => Lp X.K S1 (bed S1 H0) (I i) σ' H') ⟨S1, G, z1.bed, (o.ext x1).bed, h0⟩ ?_ ?_ ?_⟩
    · rintro i σ' H' _ ⟨S', G', y, _, _⟩
      exact y.i.sqL (y.s.sqL hq)
    · rintro i v σ' H' hv ⟨S', G', y, o', k⟩
      obtain ⟨dd, h1, h2⟩ := DpAll.getV ha hv
      exact hs i dd G' h1 k S1 (bed S1 H0) S' H' _ _ y (o'.set_im (y.s.dp h2)) (mb.turn fun _ _ q => q)
    · rintro σ' H' ⟨S', G', y, o', k⟩
      rw [DpAll.len ha] at k
      exact mb.nx σ' S' H' G' y o' (hd G' k)
/-- for x in a tuple -/
theorem gs_forT (j : Nat) (I : Nat → Gam → Prop) (he : EvD X e G (.tuple ds)) (h0 : I 0 G)
    (hs : ∀ (i : Nat) (d : D) (G' : Gam), ds[i]? = some d → I i G' → GSs X W body (F.turn (I (i + 1))) (G'.set j (.im d)))
    (hd : ∀ G', I ds.length G' → F.nx G') (hp : PassesOwn (model X.prog X.w) X.A X.env X.xe) (hj : X.N[j]? = some x := by rfl) (hN : X.N.Nodup := by assumption) (hc : X.calm = true := by rfl)
    (hx : Loc X.env.scope x := by first | exact Or.inl rfl | exact Or.inr rfl) (hf : X.fn x = true ∨ X.env.scope.names.lookup x = some .local := by first | exact .inl rfl | exact .inr rfl | assumption)
    (hst : ∀ x, foldedSetIterable e X.env x = pure x := by intro _; rfl) : GS X W (.For (.Name x np) e body [] pos) F G := fun S0 H0 S H σ E z o m => by
  refine ws (ps_for hp hc (pi_tup pe_w) (pg_name hN hj hx hf) pss_w hst) (he H0 S H σ o z.i _ fun v S1 H1 x1 d1 => ?_)
  cases d1 with
  | tup hq ha =>
    rename_i a vs
    have z1 := z.trans x1
    have mb := m.bed z1
    refine ⟨a, rfl, ⟨_, x1.i.sqT hq⟩, for_tup (xs := vs) (fun i σ' H' => Lp X.K S1 (bed S1 H0) (I i) σ' H') ⟨S1, G, z1.bed, (o.ext x1).bed, h0⟩ ?_ ?_ ?_⟩
    · rintro i σ' H' _ ⟨S', G', y, _, _⟩
      exact y.i.sqT (y.s.sqT hq)
    · rintro i v σ' H' hv ⟨S', G', y, o', k⟩
      obtain ⟨dd, h1, h2⟩ := DpAll.getV ha hv
      exact hs i dd G' h1 k S1 (bed S1 H0) S' H' _ _ y (o'.set_im (y.s.dp h2)) (mb.turn fun _ _ q => q)
    · rintro σ' H' ⟨S', G', y, o', k⟩
      rw [DpAll.len ha] at k
      exact mb.nx σ' S' H' G' y o' (hd G' k)
/-- for x in range(n) -/
theorem gs_forR (j : Nat) (I : Nat → Gam → Prop) {n : Int} {a : Expr} (hm : X.mg "range" = none) (he : EvD X a G (.int n)) (hn : -(2 ^ 62) ≤ n ∧ n < 2 ^ 62) (h0 : I 0 G)
    (hs : ∀ (i : Nat) (G' : Gam), (i : Int) < n → I i G' → GSs X W body (F.turn (I (i + 1))) (G'.set j (.im (.int (i : Int)))))
    (hd : ∀ G', I n.toNat G' → F.nx G') (hp : PassesOwn (model X.prog X.w) X.A X.env X.xe) (hj : X.N[j]? = some x := by rfl) (hN : X.N.Nodup := by assumption) (hc : X.calm = true := by rfl) (hg : Gl X "range" := by rfl)
    (hx : Loc X.env.scope x := by first | exact Or.inl rfl | exact Or.inr rfl) (hf : X.fn x = true ∨ X.env.scope.names.lookup x = some .local := by first | exact .inl rfl | exact .inr rfl | assumption)
    (hst : ∀ x, foldedSetIterable (.Call (.Name "range" p) [a] [] np) X.env x = pure x := by intro _; rfl) (hse : starEach [a] X.env = [(false, eval a X.env)] := by rfl) : GS X W (.For (.Name x pos) (.Call (.Name "range" p) [a] [] np) body [] pos) F G := fun S0 H0 S H σ E z o m => by
  refine ws (ps_for hp hc (pi_range1 hg hm pa_w hse) (pg_name hN hj hx hf) pss_w hst) (ea_cons he ea_nil (by exact hse) H0 S H σ o z.i _ fun vs S1 H1 x1 d1 => ?_)
  cases d1 with
  | cons d1 d2 =>
    cases d2
    cases d1
    have z1 := z.trans x1
    have mb := m.bed z1
    refine ⟨n, rfl, hn.1, hn.2, for_range (lo := 0) (n := n.toNat) (fun i σ' H' => Lp X.K S1 (bed S1 H0) (I i) σ' H') ⟨S1, G, z1.bed, (o.ext x1).bed, h0⟩ ?_ ?_⟩
    · rintro i σ' H' hi ⟨S', G', y, o', k⟩
      have e0 : (0 : Int) + (i : Int) = (i : Int) := Int.zero_add _
      rw [e0]
      exact hs i G' (by omega) k S1 (bed S1 H0) S' H' _ _ y (o'.set_im (.int _)) (mb.turn fun _ _ q => q)
    · rintro σ' H' ⟨S', G', y, o', k⟩
      exact mb.nx σ' S' H' G' y o' (hd G' k)
/-- while c -/
theorem gs_while (I : Nat → Gam → Prop) (m0 : Nat) (h0 : I m0 G)
    (hs : ∀ (m : Nat) (G' : Gam), I m G' → ∃ b, EvT X c G' b ∧ (b = true → GSs X W body (F.turn (fun G'' => ∃ m', m' < m ∧ I m' G'')) G') ∧ (b = false → F.nx G'))
    (hp : PassesOwn (model X.prog X.w) X.A X.env X.xe) : GS X W (.While c body [] pos) F G := fun S0 H0 S H σ E z o m => by
  have mb := m.bed z
  refine ws (ps_while hp pt_w pss_w) ⟨fun n σ' H' => Lp X.K S (bed S H0) (I n) σ' H', ⟨m0, S, G, z.bed, o.bed, h0⟩, ?_⟩
  rintro n σ' H' ⟨S', G', y, o', k⟩
  obtain ⟨b, h1, h2, h3⟩ := hs n G' k
  refine h1 (bed S H0) S' H' σ' o' y.i _ fun S2 H2 x2 => ?_
  cases b with
  | true =>
    rw [if_pos rfl]
    refine ⟨fun σ3 H3 => ∃ m', m' < n ∧ Lp X.K S (bed S H0) (I m') σ3 H3, fun σ3 H3 q => q, ?_⟩
    exact h2 rfl S (bed S H0) S2 H2 σ' _ (y.trans x2) (o'.ext x2) (mb.turn fun σ3 H3 ⟨S3, G3, y3, o3, mm, lt, q3⟩ => ⟨mm, lt, S3, G3, y3, o3, q3⟩)
  | false =>
    rw [if_neg Bool.false_ne_true]
    exact mb.nx σ' S2 H2 G' (y.trans x2) (o'.ext x2) (h3 rfl)
/-- l.append(e), l a list that its slot alone holds -/
theorem gs_app {apos cpos : Pos} (i : Nat) (he : EvD X e G d) (k : F.nx (G.set i (.own (ds ++ [d])))) (hi : X.N[i]? = some x := by rfl) (hG : G[i]? = some (.own ds) := by rfl) (hl : ds.length < sizeLine)
    (hv : Vis X.env.scope x := by first | exact Or.inl rfl | exact Or.inr (Or.inl rfl) | exact Or.inr (Or.inr rfl)) (hd : (x == ("__debug__" : Str)) = false := by decide) (hcd : (x == ("__classdict__" : Str)) = false := by decide)
    (hbase : attributeBase (.Name x np) "append" X.env (eval (.Name x np) X.env) = eval (.Name x np) X.env := by rfl)
    (hfew : ((backTo cpos (starEach [e] X.env)).all (fun x => !x.1) && (backToKw cpos (keywordEach [] X.env)).all (fun x => x.1.isSome)
      && decide ([e].length + ([] : List Keyword).length + (if ([] : List Keyword).isEmpty then 0 else 1) < 30)) = true := by rfl)
    (hline : (apos.endLine == cpos.line) = true := by rfl) (hs : starEach [e] X.env = (false, eval e X.env) :: starEach [] X.env := by rfl) (hplain : (backTo cpos (starEach [] X.env)).any (·.1) = false := by rfl)
    (hsw : swapsWith (.Call (.Attribute (.Name x np) "append" apos) [e] [] cpos) none pos.line X.env = pure false := by rfl) :
    GS X W (.Expr (.Call (.Attribute (.Name x np) "append" apos) [e] [] cpos) pos) F G := fun S0 H0 S H σ E z o m => by
  refine ws (ps_expr (pe_bm PySem.F.plainAttrs_list PySem.F.slot_list_append PySem.F.type_list_append mt_append (pe_var (i := i) hi hv hd hcd) pa_w hbase hfew hline hs hplain) hsw) ?_
  obtain ⟨q, vs, a1, a2, a3, a4, a5⟩ := o.own i ds hG
  refine ⟨.ref q, a1, .inl ⟨rfl, _, SqL.of a4⟩, ea_cons he ea_nil (by exact hs) H0 S H σ o z.i _ fun ws' S1 H1 x1 d1 => ?_⟩
  cases d1 with
  | cons d1 d2 =>
    cases d2
    rename_i v1
    have h4 : H1 q = some (.lst vs) := x1.h _ _ a4
    have h3 : S1 q = none := x1.n q a3 (by rw [a4]; exact fun z => nomatch z)
    refine ⟨q, vs, _, rfl, rfl, h4, by rw [DpAll.len a5]; exact hl, ?_⟩
    have z1 := z.trans x1
    refine m.nx σ S1 _ _ (z1.own a2 h3) ?_ k
    have o1 := o.ext x1
    have lt : i < G.length := (List.getElem?_eq_some_iff.mp hG).1
    have e1 : σ.set i (some (.ref q)) = σ := by
      refine List.ext_getElem? fun j => ?_
      by_cases c : i = j
      · subst c
        rw [List.getElem?_set_self (by rw [o.len]; exact lt), a1]
      · rw [List.getElem?_set_ne c]
    have ne : ∀ (j : Nat) (es : List D), j ≠ i → G[j]? = some (.own es) → σ[j]? ≠ some (some (.ref q)) := fun j es hj hg => o.sep i j ds es q (Ne.symm hj) hG hg a1
    have o2 : Hol X.K H0 S1 (upd H1 q (.lst (vs ++ [v1]))) σ (G.set i .no) := by
      have w := (o1.drop (i := i))
      refine ⟨w.len, w.im, fun j es hj => ?_, w.sep⟩
      obtain ⟨r, us, b1, b2, b3, b4, b5⟩ := w.own j es hj
      refine ⟨r, us, b1, b2, b3, ?_, b5⟩
      have hji : j ≠ i := fun c => by
        subst c
        rw [List.getElem?_set_self lt] at hj
        cases hj
      have hg : G[j]? = some (.own es) := by
        rw [List.getElem?_set_ne (Ne.symm hji)] at hj
        exact hj
      rw [upd_ne fun c => ne j es hji hg (by rw [← c]; exact b1)]
      exact b4
    have o3 := o2.set_own (i := i) (p := q) (ds := ds ++ [d]) a2 h3 upd_same (DpAll.snoc d1 (x1.s.dpAll a5)) fun j es hj hg => by
      rw [List.getElem?_set_ne (Ne.symm hj)] at hg
      exact ne j es hj hg
    rw [List.set_set, e1] at o3
    exact o3
end

section
variable {X : Cx} {W : WX} {F : DL.Fin} {G : Gam} {c : Expr} {pos : Pos} {body els : List Stmt}
theorem gs_ifF (hc : EvT X c G false) (h : F.nx G) : GS X W (.If c body [] pos) F G := gs_if hc (fun z => Bool.noConfusion z) fun _ => gs_nil h
theorem gs_ifT (hc : EvT X c G true) (h : GSs X W body F G) : GS X W (.If c body els pos) F G := gs_if hc (fun _ => h) fun z => Bool.noConfusion z
end

/-! ### a def by its body -/
def outFin : Out → DL.Fin
  | .val d => { nx := fun _ => d = .none, rt := fun e => e = d }
  | .exc x => { nx := fun _ => False, rt := fun _ => False, ex := fun y _ => y = x }
def gam0 (N : List Str) (ds : List D) : Gam := ds.map .im ++ List.replicate (N.length - ds.length) .no
theorem hol_start {K : Fg} {S H : Hp} {N : List Str} {vs : List V} {ds : List D} (h : DpAll K S vs ds) : Hol K H S H (L2.start N vs) (gam0 N ds) := by
  have hl := DpAll.len h
  refine ⟨by unfold L2.start gam0; rw [List.length_append, List.length_append, List.length_map, List.length_map, List.length_replicate, List.length_replicate, hl], fun i d q => ?_, fun i es q => ?_, fun i j es fs p _ q => ?_⟩
  · unfold gam0 at q
    by_cases c : i < ds.length
    · rw [List.getElem?_append_left (by rw [List.length_map]; exact c), List.getElem?_map, List.getElem?_eq_getElem c] at q
      have e : ds[i] = d := Ent.im.inj (Option.some.inj q)
      obtain ⟨v, h1, h2⟩ := DpAll.get h (List.getElem?_eq_getElem c)
      rw [e] at h2
      refine ⟨v, ?_, h2⟩
      unfold L2.start
      rw [List.getElem?_append_left (by rw [List.length_map, hl]; exact c), List.getElem?_map, h1]
      rfl
    · rw [List.getElem?_append_right (by rw [List.length_map]; omega), List.getElem?_replicate] at q
      split at q <;> cases q
  · unfold gam0 at q
    by_cases c : i < ds.length
    · rw [List.getElem?_append_left (by rw [List.length_map]; exact c), List.getElem?_map, List.getElem?_eq_getElem c] at q
      cases q
    · rw [List.getElem?_append_right (by rw [List.length_map]; omega), List.getElem?_replicate] at q
      split at q <;> cases q
  · unfold gam0 at q
    by_cases c : i < ds.length
    · rw [List.getElem?_append_left (by rw [List.length_map]; exact c), List.getElem?_map, List.getElem?_eq_getElem c] at q
      cases q
    · rw [List.getElem?_append_right (by rw [List.length_map]; omega), List.getElem?_replicate] at q
      split at q <;> cases q
section
variable {P : Program} {w : World} {K : Fg} {mg : Str → Option Value} {base : Heap}
abbrev Xn (P : Program) (w : World) (K : Fg) (mg : Str → Option Value) (base : Heap) (N : List Str) (qual : Str) (st : Stmt) (f : Addr) (cdv : Value) (A : Around) (outer : List Env) (s : Shared) (H : Hp) (E : XK) : Cx :=
  (cxOf L2.CX0 P w K mg base N qual (defScope st) f cdv A outer s H E).nox
abbrev Xr (P : Program) (w : World) (K : Fg) (mg : Str → Option Value) (base : Heap) (N : List Str) (qual : Str) (st : Stmt) (f : Addr) (cdv : Value) (A : Around) (outer : List Env) (s : Shared) (H : Hp) (E : XK) : Cx :=
  cxOf (L2.CX P w) P w K mg base N qual (defScope st) f cdv A outer s H E
abbrev W0 : WX := fun _ _ _ _ => False
/-- a def that raises nothing -/
theorem fn_ok {x qual : Str} {st : Stmt} {f : Addr} {fd : FuncData} {N ps : List Str} {k : Nat} {R : List D → Out → Prop} (F : Fun K x qual st f fd) (Sc : FnScope N ps (defScope st)) (len : ∀ ds o, R ds o → ds.length = ps.length)
    (body : ∀ (cdv : Value) (A : Around) (outer : List Env) (s : Shared) (H : Hp) (E : XK), Room k (Xn P w K mg base N qual st f cdv A outer s H E).A → ∀ ds d, R ds (.val d) →
      GSs (Xn P w K mg base N qual st f cdv A outer s H E) W0 (defBody st) (outFin (.val d)) (gam0 N ds)) (val : ∀ ds y, ¬ R ds (.exc y)) : FnOk P w K mg base L2.CX0 (k + 1) f fd ps (spD K R) := by
  refine F.ok Sc (fun vs H Q E h => ?_) (fun cdv A outer s H vs Q E hr h => ?_)
  · obtain ⟨S, ds, o, _, d1, r, _⟩ := h
    rw [DpAll.len d1]
    exact len ds o r
  · obtain ⟨S, ds, o, i, d1, r, q⟩ := h
    cases o with
    | exc y => exact absurd r (val ds y)
    | val d =>
      refine ⟨_, pss_w, body cdv A outer s H E hr ds d r S H S H _ _ (Ext.refl i) (hol_start d1) ⟨?_, ?_, fun _ _ _ _ _ _ z => z.elim, fun _ _ _ _ _ _ z => z.elim, fun _ _ _ _ _ _ _ _ _ z => z.elim⟩⟩
      · intro σ S' H' G' x' o' z
        exact q .non S' H' x' (by rw [show d = .none from z]; exact .non)
      · intro v S' H' d' x' q' z
        exact q v S' H' x' (by rw [← show d' = d from z]; exact q')
theorem def_ok {x qual : Str} {st : Stmt} {f : Addr} {fd : FuncData} {N ps : List Str} {k : Nat} {R : List D → Out → Prop} (F : Fun K x qual st f fd) (Sc : FnScope N ps (defScope st)) (hm : mg x = some (.ref f)) (hb : Binds K fd ps []) (len : ∀ ds o, R ds o → ds.length = ps.length)
    (body : ∀ (cdv : Value) (A : Around) (outer : List Env) (s : Shared) (H : Hp) (E : XK), Room k (Xn P w K mg base N qual st f cdv A outer s H E).A → ∀ ds d, R ds (.val d) →
      GSs (Xn P w K mg base N qual st f cdv A outer s H E) W0 (defBody st) (outFin (.val d)) (gam0 N ds)) (val : ∀ ds y, ¬ R ds (.exc y)) : DefOk P w K mg base L2.CX0 (k + 1) x R := ⟨f, fd, ps, fn_ok F Sc len body val, hm, F.kp, hb⟩
/-- a def that may raise -/
theorem def_okX {x qual : Str} {st : Stmt} {f : Addr} {fd : FuncData} {N ps : List Str} {k : Nat} {R : List D → Out → Prop} (F : Fun K x qual st f fd) (Sc : FnScope N ps (defScope st)) (hm : mg x = some (.ref f)) (hb : Binds K fd ps []) (len : ∀ ds o, R ds o → ds.length = ps.length)
    (body : ∀ (cdv : Value) (A : Around) (outer : List Env) (s : Shared) (H : Hp) (E : XK), Room k (Xr P w K mg base N qual st f cdv A outer s H E).A → Takes (Xr P w K mg base N qual st f cdv A outer s H E) (fun cls d _ H => E cls d H) →
      PassesOwn (model P w) (Xr P w K mg base N qual st f cdv A outer s H E).A (Xr P w K mg base N qual st f cdv A outer s H E).env (Xr P w K mg base N qual st f cdv A outer s H E).xe → ∀ ds o, R ds o →
      GSs (Xr P w K mg base N qual st f cdv A outer s H E) (fun cls d _ H => E cls d H) (defBody st) (outFin o) (gam0 N ds)) : DefOk P w K mg base (L2.CX P w) (k + 1) x R := by
  refine ⟨f, fd, ps, F.okX Sc (fun vs H Q E h => ?_) (fun cdv A outer s H vs Q E hr h => ?_), hm, F.kp, hb⟩
  · obtain ⟨S, ds, o, _, d1, r, _⟩ := h
    rw [DpAll.len d1]
    exact len ds o r
  · obtain ⟨S, ds, o, i, d1, r, q⟩ := h
    refine ⟨_, pss_w, body cdv A outer s H E hr (takes_of rfl rfl rfl rfl) (passes_of (X := Xr P w K mg base N qual st f cdv A outer s H E) rfl) ds o r S H S H _ _ (Ext.refl i) (hol_start d1) ?_⟩
    cases o with
    | exc y =>
      refine ⟨fun _ _ _ _ _ _ z => z.elim, fun _ _ _ _ _ _ z => z.elim, fun _ _ _ _ _ _ z => z.elim, fun _ _ _ _ _ _ z => z.elim, ?_⟩
      intro y' σ S' H' G' a x' o' q' z
      rw [show y' = y from z] at q' ⊢
      exact q a S' H' x' q'
    | val d =>
      refine ⟨?_, ?_, fun _ _ _ _ _ _ z => z.elim, fun _ _ _ _ _ _ z => z.elim, fun _ _ _ _ _ _ _ _ _ z => z.elim⟩
      · intro σ S' H' G' x' o' z
        exact q .non S' H' x' (by rw [show d = .none from z]; exact .non)
      · intro v S' H' d' x' q' z
        exact q v S' H' x' (by rw [← show d' = d from z]; exact q')
end
end DL

namespace DL
open PySem PySem.Spec PyProof.Rows L2
section
variable {X : Cx} {W : WX} {F : DL.Fin} {G : Gam} {e a b c : Expr} {es : List Expr} {d da db : D} {ds : List D} {pos pos' p : Pos} {x : Str} {i j : Int}
/-! built-in functions -/
theorem ev_max2 (hm : X.mg "max" = none) (ha : EvD X a G (.int i)) (hb : EvD X b G (.int j)) (hc : X.calm = true := by rfl) (hg : Gl X "max" := by rfl)
    (he : starEach [a, b] X.env = (false, eval a X.env) :: starEach [b] X.env := by rfl) (he2 : starEach [b] X.env = (false, eval b X.env) :: starEach [] X.env := by rfl) (hpl : (backTo pos (starEach [b] X.env)).any (·.1) = false := by rfl) : EvD X (.Call (.Name "max" p) [a, b] [] pos) G (.int (if j > i then j else i)) :=
  ev_cb (pe_callB (call_max2 hc) hg hm (by decide +kernel) pa_w (by decide) (by decide) he hpl) (ea_cons ha (ea_cons hb ea_nil he2) he) fun S H vs e d1 Q q => by
    cases d1 with
    | cons d1 d2 =>
      cases d2 with
      | cons d2 d3 =>
        cases d3
        cases d1
        cases d2
        exact ⟨i, j, rfl, q _ S H (Ext.refl e) (.int _)⟩
theorem ev_min2 (hm : X.mg "min" = none) (ha : EvD X a G (.int i)) (hb : EvD X b G (.int j)) (hc : X.calm = true := by rfl) (hg : Gl X "min" := by rfl)
    (he : starEach [a, b] X.env = (false, eval a X.env) :: starEach [b] X.env := by rfl) (he2 : starEach [b] X.env = (false, eval b X.env) :: starEach [] X.env := by rfl) (hpl : (backTo pos (starEach [b] X.env)).any (·.1) = false := by rfl) : EvD X (.Call (.Name "min" p) [a, b] [] pos) G (.int (if j < i then j else i)) :=
  ev_cb (pe_callB (call_min2 hc) hg hm (by decide +kernel) pa_w (by decide) (by decide) he hpl) (ea_cons ha (ea_cons hb ea_nil he2) he) fun S H vs e d1 Q q => by
    cases d1 with
    | cons d1 d2 =>
      cases d2 with
      | cons d2 d3 =>
        cases d3
        cases d1
        cases d2
        exact ⟨i, j, rfl, q _ S H (Ext.refl e) (.int _)⟩
theorem ev_lenL (hm : X.mg "len" = none) (ha : EvD X a G (.list ds)) (hg : Gl X "len" := by rfl)
    (he : starEach [a] X.env = (false, eval a X.env) :: starEach [] X.env := by rfl) (hpl : (backTo pos (starEach [] X.env)).any (·.1) = false := by rfl) : EvD X (.Call (.Name "len" p) [a] [] pos) G (.int (ds.length : Nat)) :=
  ev_cb (pe_callB call_len_seq hg hm PySem.boot_len pa_w (by decide) (by decide) he hpl) (ea_cons ha ea_nil he) fun S H vs e d1 Q q => by
    cases d1 with
    | cons d1 d2 =>
      cases d2
      cases d1 with
      | lst hs hA =>
        refine ⟨_, _, rfl, .inl (e.sqL hs), ?_⟩
        rw [DpAll.len hA]
        exact q _ S H (Ext.refl e) (.int _)
theorem ev_lenT (hm : X.mg "len" = none) (ha : EvD X a G (.tuple ds)) (hg : Gl X "len" := by rfl)
    (he : starEach [a] X.env = (false, eval a X.env) :: starEach [] X.env := by rfl) (hpl : (backTo pos (starEach [] X.env)).any (·.1) = false := by rfl) : EvD X (.Call (.Name "len" p) [a] [] pos) G (.int (ds.length : Nat)) :=
  ev_cb (pe_callB call_len_seq hg hm PySem.boot_len pa_w (by decide) (by decide) he hpl) (ea_cons ha ea_nil he) fun S H vs e d1 Q q => by
    cases d1 with
    | cons d1 d2 =>
      cases d2
      cases d1 with
      | tup hs hA =>
        refine ⟨_, _, rfl, .inr (e.sqT hs), ?_⟩
        rw [DpAll.len hA]
        exact q _ S H (Ext.refl e) (.int _)
theorem ev_gcd (hm : X.mg x = some (.builtin "math.gcd")) (ha : EvD X a G (.int i)) (hb : EvD X b G (.int j)) (hg : Gl X x := by rfl) (hdb : (x == ("__debug__" : Str)) = false := by decide)
    (he : starEach [a, b] X.env = (false, eval a X.env) :: starEach [b] X.env := by rfl) (he2 : starEach [b] X.env = (false, eval b X.env) :: starEach [] X.env := by rfl) (hpl : (backTo pos (starEach [b] X.env)).any (·.1) = false := by rfl) : EvD X (.Call (.Name x p) [a, b] [] pos) G (.int ((Nat.gcd i.natAbs j.natAbs : Nat) : Int)) :=
  ev_cb (pe_callBfun cr_gcd hg hm pa_w hdb he hpl) (ea_cons ha (ea_cons hb ea_nil he2) he) fun S H vs e d1 Q q => by
    cases d1 with
    | cons d1 d2 =>
      cases d2 with
      | cons d2 d3 =>
        cases d3
        cases d1
        cases d2
        exact ⟨i, j, rfl, q _ S H (Ext.refl e) (.int _)⟩
end
section
variable {X : Cx} {W : WX} {F : DL.Fin} {G : Gam} {e : Expr} {es : List Expr} {ds : List D} {pos pos' p : Pos} {x : Str} {k j : Nat} {R : List D → Out → Prop} {o : Out}
/-- return f(..), f may raise -/
theorem gs_retO (tk : Takes X W) (Fn : DefOk X.prog X.w X.K X.mg X.base (L2.CX X.prog X.w) j x R) (hr : Room k X.A) (ha : EvA X (e :: es) G ds) (h : R ds o) (kv : ∀ d, o = .val d → F.rt d) (kx : ∀ y, o = .exc y → F.ex y G) (hj : j ≤ k := by decide) (hg : Gl X x := by rfl)
    (hdb : (x == ("__debug__" : Str)) = false := by decide) (he : starEach (e :: es) X.env = (false, eval e X.env) :: starEach es X.env := by rfl) (hpl : (backTo pos (starEach es X.env)).any (·.1) = false := by rfl) :
    GS X W (.Return (some (.Call (.Name x p) (e :: es) [] pos)) pos') F G := by
  cases o with
  | val d => exact gs_ret (ev_call Fn hr ha h hj passL hg hdb he hpl) (kv d rfl)
  | exc y => exact gs_retX (ex_call tk Fn hr ha h hj hg hdb he hpl) (kx y rfl)
theorem outFin_rt {o : Out} : ∀ d, o = .val d → (outFin o).rt d := fun d e => by subst e; rfl
theorem outFin_ex {o : Out} {G : Gam} : ∀ y, o = .exc y → (outFin o).ex y G := fun d e => by subst e; rfl
end
/-- an error of the class at S is what «except S» names -/
theorem exm_self {K : Fg} {S : Addr} (h1 : PySem.W.subIn K (.ref S) (.type "BaseException") = some true) (h2 : PySem.W.isClsIn K S = true) (h3 : PySem.W.typeIn K (.ref S) = some (.type "type")) (h4 : PySem.W.subIn K (.ref S) (.ref S) = some true) :
    PySem.W.exmOne K (.ref S) (.ref S) = some true := by
  have e1 : (PySem.W.subIn K (.ref S) (.type "BaseException") == some true) = true := by rw [h1] <;> rfl
  have e2 : ((PySem.W.clsIn K S).isSome && PySem.W.typeIn K (.ref S) == some (.type "type")) = true := by
    have h2' : (PySem.W.clsIn K S).isSome = true := h2
    rw [h2', h3] <;> rfl
  show (if (PySem.W.subIn K (.ref S) (.type "BaseException") == some true) = true then (if ((PySem.W.clsIn K S).isSome && PySem.W.typeIn K (.ref S) == some (.type "type")) = true then PySem.W.subIn K (.ref S) (.ref S) else none) else none) = some true
  rw [if_pos e1, if_pos e2]
  exact h4
end DL

/-! Words for texts, lists, comprehensions. -/
namespace DL
open PySem PySem.Spec PyProof.Rows L2
section
variable {X : Cx} {W : WX} {F : DL.Fin} {G : Gam} {e a b c o : Expr} {es : List Expr} {d da db : D} {ds dt : List D} {pos pos' p apos : Pos} {x : Str} {i j : Int} {s t : Str}
/-! texts -/
theorem ev_addS (ha : EvD X a G (.str s)) (hb : EvD X b G (.str t)) (h : s.length + t.length ≤ sizeLine) : EvD X (.BinOp a .Add b pos) G (.str (s ++ t)) :=
  ev_op2 (pe_op op_add_str pe_w pe_w) ha hb fun S H x y e h1 h2 Q q => by
    cases h1
    cases h2
    exact ⟨s, t, rfl, rfl, h, q _ S H (Ext.refl e) (.str _)⟩
theorem scal_str : scal (.str s) (.str t) = true := rfl
theorem dec_str : decide (V.str s = V.str t) = decide (s = t) := by
  by_cases h : s = t
  · subst h
    rw [decide_eq_true rfl, decide_eq_true rfl]
  · rw [decide_eq_false h, decide_eq_false fun z => h (V.str.inj z)]
theorem rd_eqS {K : Fg} : RD K rEq (.str s) (.str t) (.bool (decide (s = t))) := fun S H x y e d1 d2 Q q => by
  cases d1
  cases d2
  refine ⟨rfl, ?_⟩
  rw [dec_str]
  exact q _ S H (Ext.refl e) (.bl _)
theorem rd_neS {K : Fg} : RD K rNe (.str s) (.str t) (.bool (!decide (s = t))) := fun S H x y e d1 d2 Q q => by
  cases d1
  cases d2
  refine ⟨rfl, ?_⟩
  rw [dec_str]
  exact q _ S H (Ext.refl e) (.bl _)
theorem et_eqS (ha : EvD X a G (.str s)) (hb : EvD X b G (.str t)) : EvT X (.Compare a [.Eq] [b] pos) G (decide (s = t)) := et_op2 (pt_cmpR op_eq pe_w pe_w (nomark _)) ha hb rd_eqS
theorem et_neS (ha : EvD X a G (.str s)) (hb : EvD X b G (.str t)) : EvT X (.Compare a [.NotEq] [b] pos) G (!decide (s = t)) := et_op2 (pt_cmpR op_ne pe_w pe_w (nomark _)) ha hb rd_neS
theorem ev_eqS (ha : EvD X a G (.str s)) (hb : EvD X b G (.str t)) : EvD X (.Compare a [.Eq] [b] pos) G (.bool (decide (s = t))) := ev_op2 (pe_cmpR op_eq pe_w pe_w (nomark _)) ha hb rd_eqS
/-- is None -/
def isNon : D → Bool
  | .none => true
  | _ => false
theorem dp_non {K : Fg} {S : Hp} {v : V} (h : Dp K S v d) : decide (v = .non) = isNon d := by
  cases h <;> rfl
theorem rd_isN {K : Fg} : RD K (fun x y H Q => y = .non ∧ Q (.bl (decide (x = .non))) H) d .none (.bool (isNon d)) := fun S H x y e d1 d2 Q q => by
  cases d2
  refine ⟨rfl, ?_⟩
  rw [dp_non d1]
  exact q _ S H (Ext.refl e) (.bl _)
theorem rd_notN {K : Fg} : RD K (fun x y H Q => y = .non ∧ Q (.bl (!decide (x = .non))) H) d .none (.bool (!isNon d)) := fun S H x y e d1 d2 Q q => by
  cases d2
  refine ⟨rfl, ?_⟩
  rw [dp_non d1]
  exact q _ S H (Ext.refl e) (.bl _)
theorem et_isN {k : Nat} {p2 : Pos} (ha : EvD X a G d) : EvT X (.Compare a [.Is] [.Constant .none k p2] pos) G (isNon d) := et_op2 (pt_cmpR op_isN pe_w pe_w (nomark _)) ha ev_non rd_isN
theorem et_notN {k : Nat} {p2 : Pos} (ha : EvD X a G d) : EvT X (.Compare a [.IsNot] [.Constant .none k p2] pos) G (!isNon d) := et_op2 (pt_cmpR op_notN pe_w pe_w (nomark _)) ha ev_non rd_notN
theorem ev_isN {k : Nat} {p2 : Pos} (ha : EvD X a G d) : EvD X (.Compare a [.Is] [.Constant .none k p2] pos) G (.bool (isNon d)) := ev_op2 (pe_cmpR op_isN pe_w pe_w (nomark _)) ha ev_non rd_isN
/-- bools as values -/
theorem ev_one {op : BoolOp} (h : EvD X a G d) : EvD X (.BoolOp op [a] pos) G d := fun H0 S H σ o i Q q => we (pe_one pe_w) (h H0 S H σ o i Q q)
theorem ev_andV {p q : Bool} (h : EvD X a G (.bool p)) (k : p = true → EvD X (.BoolOp .And (b :: es) pos) G (.bool q)) : EvD X (.BoolOp .And (a :: b :: es) pos) G (.bool (p && q)) := fun H0 S H σ o i Q w =>
  we (pe_and pe_w pe_w) (h H0 S H σ o i _ fun v S1 H1 x1 d1 => by
    cases d1
    refine ⟨p, rfl, ?_⟩
    cases p with
    | true =>
      rw [if_pos rfl]
      exact k rfl H0 S1 H1 σ (o.ext x1) x1.i Q fun v S2 H2 x2 => w v S2 H2 (x1.trans x2)
    | false =>
      rw [if_neg Bool.false_ne_true]
      exact w _ S1 H1 x1 (.bl _))
theorem ev_orV {p q : Bool} (h : EvD X a G (.bool p)) (k : p = false → EvD X (.BoolOp .Or (b :: es) pos) G (.bool q)) : EvD X (.BoolOp .Or (a :: b :: es) pos) G (.bool (p || q)) := fun H0 S H σ o i Q w =>
  we (pe_or pe_w pe_w) (h H0 S H σ o i _ fun v S1 H1 x1 d1 => by
    cases d1
    refine ⟨p, rfl, ?_⟩
    cases p with
    | true =>
      rw [if_pos rfl]
      exact w _ S1 H1 x1 (.bl _)
    | false =>
      rw [if_neg Bool.false_ne_true]
      exact k rfl H0 S1 H1 σ (o.ext x1) x1.i Q fun v S2 H2 x2 => w v S2 H2 (x1.trans x2))
/-- a text's truth -/
theorem et_truS (h : EvD X a G (.str s)) (hl : s.length ≤ sizeLine) (he : ∀ whole, isTrue a X.env whole = (do let v ← whole; standAt a.pos; holding [v] (truthy v)) := by intro _; rfl) : EvT X a G (((s.length : Nat) : Int) != 0) := fun H0 S H σ o i Q q =>
  wt (pt_truth pe_w he) (h H0 S H σ o i _ fun v S1 H1 x1 d1 => by
    cases d1
    exact ⟨((s.length : Nat) : Int) != 0, ⟨hl, rfl⟩, q S1 H1 x1⟩)
/-- a name of the module -/
theorem ev_glob {u : Value} (hm : X.mg x = some u) (v : V) (r : RelV v u) (hd : ∀ S, Dp X.K S v d) (hg : Gl X x := by rfl) (hdb : (x == ("__debug__" : Str)) = false := by decide) : EvD X (.Name x pos) G d := fun H0 S H σ o i Q q =>
  we (pe_glob hg hm r hdb) (q v S H (Ext.refl i) (hd S))
/-- x in a text, one sign -/
theorem rd_notInS {n : Nat} {K : Fg} : RD K (fun x y H Q => ∃ (c : Nat) (z : Str), x = .str ⟨#[c]⟩ ∧ y = .str z ∧ Q (.bl (!decide (c ∈ z.cps.toList))) H) (.str ⟨#[n]⟩) (.str t) (.bool (!decide (n ∈ t.cps.toList))) := fun S H x y e d1 d2 Q q => by
  cases d1
  cases d2
  exact ⟨n, t, rfl, rfl, q _ S H (Ext.refl e) (.bl _)⟩
theorem et_notInS {n : Nat} (ha : EvD X a G (.str ⟨#[n]⟩)) (hb : EvD X b G (.str t)) (hm : behindInMarks .NotIn b = false := by rfl) : EvT X (.Compare a [.NotIn] [b] pos) G (!decide (n ∈ t.cps.toList)) := et_op2 (pt_cmpR op_notIn_sign pe_w pe_w hm) ha hb rd_notInS
theorem ev_ixS {k : Int} {n : Nat} (ha : EvD X a G (.str s)) (hb : EvD X b G (.int k)) (h : atI s.cps.toList k = some n) (hl : s.length ≤ sizeLine) (hs : PlainIx b := by exact fun _ _ => rfl) : EvD X (.Subscript a b pos) G (.str ⟨#[n]⟩) :=
  ev_op2 (pe_ix ix_str pe_w pe_w hs) ha hb fun S H x y e d1 d2 Q q => by
    cases d1
    cases d2
    exact ⟨s, k, n, rfl, rfl, hl, h, q _ S H (Ext.refl e) (.str _)⟩
/-! calls by values -/
theorem ev_lenS (hm : X.mg "len" = none) (ha : EvD X a G (.str s)) (hl : s.length ≤ sizeLine) (hg : Gl X "len" := by rfl)
    (he : starEach [a] X.env = (false, eval a X.env) :: starEach [] X.env := by rfl) (hpl : (backTo pos (starEach [] X.env)).any (·.1) = false := by rfl) : EvD X (.Call (.Name "len" p) [a] [] pos) G (.int (s.length : Nat)) :=
  ev_cb (pe_callB call_len_str hg hm PySem.boot_len pa_w (by decide) (by decide) he hpl) (ea_cons ha ea_nil he) fun S H vs e d1 Q q => by
    cases d1 with
    | cons d1 d2 =>
      cases d2
      cases d1
      exact ⟨s, rfl, hl, q _ S H (Ext.refl e) (.int _)⟩
theorem ev_abs (hm : X.mg "abs" = none) (ha : EvD X a G (.int i)) (hg : Gl X "abs" := by rfl)
    (he : starEach [a] X.env = (false, eval a X.env) :: starEach [] X.env := by rfl) (hpl : (backTo pos (starEach [] X.env)).any (·.1) = false := by rfl) : EvD X (.Call (.Name "abs" p) [a] [] pos) G (.int (if i < 0 then -i else i)) :=
  ev_cb (pe_callB call_abs hg hm (by decide +kernel) pa_w (by decide) (by decide) he hpl) (ea_cons ha ea_nil he) fun S H vs e d1 Q q => by
    cases d1 with
    | cons d1 d2 =>
      cases d2
      cases d1
      exact ⟨i, rfl, q _ S H (Ext.refl e) (.int _)⟩
theorem ev_strI (hm : X.mg "str" = none) (ha : EvD X a G (.int i)) (hl : i.natAbs.log2 < 1920) (hg : Gl X "str" := by rfl)
    (he : starEach [a] X.env = (false, eval a X.env) :: starEach [] X.env := by rfl) (hpl : (backTo pos (starEach [] X.env)).any (·.1) = false := by rfl) : EvD X (.Call (.Name "str" p) [a] [] pos) G (.str (Str.ofString (toString i))) :=
  ev_cb (pe_callTy call_str_int hg hm (by decide +kernel) pa_w (by decide) (by decide) he hpl) (ea_cons ha ea_nil he) fun S H vs e d1 Q q => by
    cases d1 with
    | cons d1 d2 =>
      cases d2
      cases d1
      exact ⟨i, rfl, hl, q _ S H (Ext.refl e) (.str _)⟩
theorem ev_intS (hm : X.mg "int" = none) (ha : EvD X a G (.str s)) (hi : PySem.intText? s = some i) (hl : s.length ≤ 640) (hg : Gl X "int" := by rfl)
    (he : starEach [a] X.env = (false, eval a X.env) :: starEach [] X.env := by rfl) (hpl : (backTo pos (starEach [] X.env)).any (·.1) = false := by rfl) : EvD X (.Call (.Name "int" p) [a] [] pos) G (.int i) :=
  ev_cb (pe_callTy call_int_str hg hm (by decide +kernel) pa_w (by decide) (by decide) he hpl) (ea_cons ha ea_nil he) fun S H vs e d1 Q q => by
    cases d1 with
    | cons d1 d2 =>
      cases d2
      cases d1
      exact ⟨s, i, rfl, hi, hl, q _ S H (Ext.refl e) (.int _)⟩
/-! methods of texts -/
theorem ev_m0 {id : String} {name : Str} {r : V → List V → Hp → VK → Prop} (slot : Slot "str" name id) (ty : typeOf (.builtin id) = pure (.type "method_descriptor")) (rule : MtR X id r) (ho : EvD X o G (.str s))
    (hr : ∀ (S H : Hp), Ex S H → ∀ Q : VK, (∀ v S' H', Ext S H S' H' → Dp X.K S' v d → Q v H') → r (.str s) [] H Q)
    (hbase : attributeBase o name X.env (eval o X.env) = eval o X.env := by rfl) (hline : (apos.endLine == pos.line) = true := by rfl) : EvD X (.Call (.Attribute o name apos) [] [] pos) G d := fun H0 S H σ oo i Q q =>
  we (pe_m0 slot ty rule pe_w hbase hline) (ho H0 S H σ oo i _ fun v S1 H1 x1 d1 => by
    cases d1
    exact ⟨⟨s, rfl⟩, hr S1 H1 x1.i Q fun v S2 H2 x2 => q v S2 H2 (x1.trans x2)⟩)
theorem ev_m1 {id : String} {name : Str} {r : V → List V → Hp → VK → Prop} (slot : Slot "str" name id) (ty : typeOf (.builtin id) = pure (.type "method_descriptor")) (rule : MtR X id r) (ho : EvD X o G (.str s)) (he : EvD X e G da)
    (hr : ∀ (S H : Hp) (v : V), Ex S H → Dp X.K S v da → ∀ Q : VK, (∀ v S' H', Ext S H S' H' → Dp X.K S' v d → Q v H') → r (.str s) [v] H Q)
    (hs : starEach [e] X.env = [(false, eval e X.env)] := by rfl) (hbase : attributeBase o name X.env (eval o X.env) = eval o X.env := by rfl) (hline : (apos.endLine == pos.line) = true := by rfl) : EvD X (.Call (.Attribute o name apos) [e] [] pos) G d := fun H0 S H σ oo i Q q =>
  we (pe_m1 slot ty rule pe_w pe_w hs hbase hline) (ho H0 S H σ oo i _ fun v S1 H1 x1 d1 => by
    cases d1
    exact ⟨⟨s, rfl⟩, he H0 S1 H1 σ (oo.ext x1) x1.i _ fun v S2 H2 x2 d2 => hr S2 H2 v x2.i d2 Q fun v S3 H3 x3 => q v S3 H3 ((x1.trans x2).trans x3)⟩)
theorem ev_removeprefix (ho : EvD X o G (.str s)) (he : EvD X e G (.str t)) (hl : s.length ≤ sizeLine) (hs : starEach [e] X.env = [(false, eval e X.env)] := by rfl) (hbase : attributeBase o "removeprefix" X.env (eval o X.env) = eval o X.env := by rfl)
    (hline : (apos.endLine == pos.line) = true := by rfl) : EvD X (.Call (.Attribute o "removeprefix" apos) [e] [] pos) G (.str (Txt.removeprefix s t)) :=
  ev_m1 PySem.F.slot_str_removeprefix PySem.F.type_str_removeprefix mt_removeprefix ho he (fun S H v e d1 Q q => by
    cases d1
    exact ⟨s, t, rfl, rfl, hl, q _ S H (Ext.refl e) (.str _)⟩) hs hbase hline
theorem ev_startswith (ho : EvD X o G (.str s)) (he : EvD X e G (.str t)) (hs : starEach [e] X.env = [(false, eval e X.env)] := by rfl) (hbase : attributeBase o "startswith" X.env (eval o X.env) = eval o X.env := by rfl)
    (hline : (apos.endLine == pos.line) = true := by rfl) : EvD X (.Call (.Attribute o "startswith" apos) [e] [] pos) G (.bool (Txt.startswith s t)) :=
  ev_m1 PySem.F.slot_str_startswith PySem.F.type_str_startswith mt_startswith ho he (fun S H v e d1 Q q => by
    cases d1
    exact ⟨s, t, rfl, rfl, q _ S H (Ext.refl e) (.bl _)⟩) hs hbase hline
theorem ev_isdecimal (ho : EvD X o G (.str s)) (hbase : attributeBase o "isdecimal" X.env (eval o X.env) = eval o X.env := by rfl)
    (hline : (apos.endLine == pos.line) = true := by rfl) : EvD X (.Call (.Attribute o "isdecimal" apos) [] [] pos) G (.bool (Txt.isdecimal s)) :=
  ev_m0 PySem.F.slot_str_isdecimal PySem.F.type_str_isdecimal mt_isdecimal ho (fun S H e Q q => ⟨s, rfl, rfl, trivial, q _ S H (Ext.refl e) (.bl _)⟩) hbase hline
theorem ev_partition (ho : EvD X o G (.str s)) (he : EvD X e G (.str t)) (ht : (t.length == 0) = false) (hl : s.length ≤ sizeLine) (hs : starEach [e] X.env = [(false, eval e X.env)] := by rfl) (hbase : attributeBase o "partition" X.env (eval o X.env) = eval o X.env := by rfl)
    (hline : (apos.endLine == pos.line) = true := by rfl) : EvD X (.Call (.Attribute o "partition" apos) [e] [] pos) G (.tuple [.str (Txt.partition s t).1, .str (Txt.partition s t).2.1, .str (Txt.partition s t).2.2]) :=
  ev_m1 PySem.F.slot_str_partition PySem.F.type_str_partition mt_partition ho he (fun S H v e d1 Q q => by
    cases d1
    exact ⟨s, t, rfl, rfl, ht, hl, fun p hp => q _ _ _ ((Ext.refl e).add hp) (.tup (SqT.of upd_same) (.cons (.str _) (.cons (.str _) (.cons (.str _) .nil))))⟩) hs hbase hline
theorem dpAll_strs {K : Fg} {H : Hp} : ∀ ns : List Str, DpAll K H (ns.map V.str) (ns.map PyData.str)
  | [] => .nil
  | n :: ns => .cons (.str n) (dpAll_strs ns)
theorem dpAll_strs' {K : Fg} {H : Hp} : ∀ {ns : List Str} {vs : List V}, DpAll K H vs (ns.map PyData.str) → vs = ns.map V.str
  | [], _, h => by cases h; rfl
  | n :: ns, _, h => by
    cases h with
    | cons h1 h2 =>
      cases h1
      rw [dpAll_strs' h2]
      rfl
/-- s.split(t): a new list -/
theorem en_split (ho : EvD X o G (.str s)) (he : EvD X e G (.str t)) (ht : (t.length == 0) = false) (hl : s.length + 2 ≤ sizeLine) (hs : starEach [e] X.env = [(false, eval e X.env)] := by rfl) (hbase : attributeBase o "split" X.env (eval o X.env) = eval o X.env := by rfl)
    (hline : (apos.endLine == pos.line) = true := by rfl) : EvN X (.Call (.Attribute o "split" apos) [e] [] pos) G ((Txt.split s t).map .str) := fun H0 S H σ oo i Q q =>
  we (pe_split pe_w pe_w hs hbase hline) (ho H0 S H σ oo i _ fun v S1 H1 x1 d1 => by
    cases d1
    exact ⟨⟨s, rfl⟩, he H0 S1 H1 σ (oo.ext x1) x1.i _ fun v S2 H2 x2 d2 => by
      cases d2
      have x3 := x1.trans x2
      exact ⟨s, t, rfl, rfl, ht, hl, fun p hp => q p _ _ _ (x3.own (x3.h.none hp) (x3.i.none hp)) (x3.h.none hp) (x3.i.none hp) upd_same (dpAll_strs _)⟩⟩)
/-- s.join(a list of texts) -/
theorem ev_join {ys : List Str} (ho : EvD X o G (.str s)) (he : EvD X e G (.list (ys.map .str))) (hz : (ys.map (·.length)).sum + ys.length * s.length ≤ 16777216) (hs : starEach [e] X.env = [(false, eval e X.env)] := by rfl)
    (hbase : attributeBase o "join" X.env (eval o X.env) = eval o X.env := by rfl) (hline : (apos.endLine == pos.line) = true := by rfl) : EvD X (.Call (.Attribute o "join" apos) [e] [] pos) G (.str (Txt.join s ys)) := fun H0 S H σ oo i Q q =>
  we (pe_join pe_w pe_w hs hbase hline) (ho H0 S H σ oo i _ fun v S1 H1 x1 d1 => by
    cases d1
    exact ⟨⟨s, rfl⟩, he H0 S1 H1 σ (oo.ext x1) x1.i _ fun v S2 H2 x2 d2 => by
      cases d2 with
      | lst hq ha =>
        rename_i ad vs
        have ev := dpAll_strs' ha
        subst ev
        exact ⟨s, ad, ys, rfl, rfl, .inl (x2.i.sqL hq), hz, q _ S2 H2 (x1.trans x2) (.str _)⟩⟩)
end

/-! ### slices -/
section
variable {X : Cx} {W : WX} {F : DL.Fin} {G : Gam} {e a b c o : Expr} {lo hi : Option Expr} {d da db : D} {ds dt : List D} {pos pos' p p2 apos : Pos} {x : Str} {i j : Int} {s t : Str} {l u : Option Int}
def WO (X : Cx) (e : Option Expr) : TO := match e with | none => tNoPart | some e => tPart (DL.WE X e)
theorem po_w {e : Option Expr} : PO X e (WO X e) := by
  cases e with
  | none => exact po_none
  | some e => exact po_some pe_w
/-- a bound of a slice -/
def EvO (X : Cx) (e : Option Expr) (G : Gam) (l : Option Int) : Prop := ∀ (H0 S H : Hp) (σ : L2.St), Hol X.K H0 S H σ G → Ex S H → ∀ Q : Option Int → Hp → Prop, (∀ S' H', Ext S H S' H' → Q l H') → WO X e σ H Q
theorem eo_none : EvO X none G none := fun H0 S H σ o i Q q => q S H (Ext.refl i)
theorem eo_some (h : EvD X e G (.int i)) : EvO X (some e) G (some i) := fun H0 S H σ o ii Q q => h H0 S H σ o ii _ fun v S1 H1 x1 d1 => by
  cases d1
  exact ⟨i, rfl, q S1 H1 x1⟩
theorem ev_slS (ha : EvD X a G (.str s)) (h1 : EvO X lo G l) (h2 : EvO X hi G u) (hl : s.length ≤ sizeLine) : EvD X (.Subscript a (.Slice lo hi none p2) pos) G (.str (cutS s l u)) := fun H0 S H σ o i Q q =>
  we (pe_slice sl_str pe_w po_w po_w) (ha H0 S H σ o i _ fun v S1 H1 x1 d1 => h1 H0 S1 H1 σ (o.ext x1) x1.i _ fun S2 H2 x2 => h2 H0 S2 H2 σ ((o.ext x1).ext x2) x2.i _ fun S3 H3 x3 => by
    cases d1
    exact ⟨s, rfl, hl, q _ S3 H3 ((x1.trans x2).trans x3) (.str _)⟩)
def cutD (xs : List D) (lo hi : Option Int) : List D := (xs.drop (HT.sIx xs.length 0 lo)).take (HT.sIx xs.length xs.length hi - HT.sIx xs.length 0 lo)
theorem DpAll.dropD {K : Fg} {S : Hp} : ∀ {vs : List V} {ds : List D} (n : Nat), DpAll K S vs ds → DpAll K S (vs.drop n) (ds.drop n)
  | _, _, 0, h => h
  | _, [], n + 1, h => by cases h; exact .nil
  | _, d :: ds, n + 1, h => by
    cases h with
    | cons h1 h2 => exact DpAll.dropD n h2
theorem DpAll.takeD {K : Fg} {S : Hp} : ∀ {vs : List V} {ds : List D} (n : Nat), DpAll K S vs ds → DpAll K S (vs.take n) (ds.take n)
  | _, _, 0, h => .nil
  | _, [], n + 1, h => by cases h; exact .nil
  | _, d :: ds, n + 1, h => by
    cases h with
    | cons h1 h2 => exact .cons h1 (DpAll.takeD n h2)
/-- a list's slice: a new list -/
theorem en_slL (ha : EvD X a G (.list ds)) (h1 : EvO X lo G l) (h2 : EvO X hi G u) : EvN X (.Subscript a (.Slice lo hi none p2) pos) G (cutD ds l u) := fun H0 S H σ o i Q q =>
  we (pe_slice sl_list pe_w po_w po_w) (ha H0 S H σ o i _ fun v S1 H1 x1 d1 => h1 H0 S1 H1 σ (o.ext x1) x1.i _ fun S2 H2 x2 => h2 H0 S2 H2 σ ((o.ext x1).ext x2) x2.i _ fun S3 H3 x3 => by
    cases d1 with
    | lst hq hA =>
      rename_i ad vs
      have x4 := (x1.trans x2).trans x3
      have hl := DpAll.len hA
      refine ⟨ad, vs, rfl, x3.i.sqL (x3.s.sqL (x2.s.sqL hq)), fun p hp => q p _ _ _ (x4.own (x4.h.none hp) (x4.i.none hp)) (x4.h.none hp) (x4.i.none hp) upd_same ?_⟩
      unfold cutV cutD
      rw [hl]
      exact DpAll.takeD _ (DpAll.dropD _ (x3.s.dpAll (x2.s.dpAll hA))))
/-! ### lists put together -/
theorem en_cat (ha : EvN X a G ds) (hb : EvN X b G dt) (hl : ds.length + dt.length ≤ sizeLine) : EvN X (.BinOp a .Add b pos) G (ds ++ dt) := fun H0 S H σ o i Q q =>
  we (pe_op op_cat pe_w pe_w) (ha H0 S H σ o i _ fun p1 vs S1 H1 x1 n1 s1 h1 d1 => hb H0 S1 H1 σ (o.ext x1) x1.i _ fun p2 ws S2 H2 x2 n2 s2 h2 d2 => by
    have x3 := x1.trans x2
    refine ⟨p1, p2, vs, ws, rfl, rfl, x2.h _ _ h1, h2, by rw [DpAll.len d1, DpAll.len d2]; exact hl, fun p hp => q p _ _ _ (x3.own (x3.h.none hp) (x3.i.none hp)) (x3.h.none hp) (x3.i.none hp) upd_same (DpAll.app d2 (x2.s.dpAll d1))⟩)
theorem DpAll.rep {K : Fg} {S : Hp} {vs : List V} {ds : List D} (h : DpAll K S vs ds) : ∀ n : Nat, DpAll K S (List.replicate n vs).flatten (List.replicate n ds).flatten
  | 0 => .nil
  | n + 1 => by
    rw [List.replicate_succ, List.replicate_succ, List.flatten_cons, List.flatten_cons]
    exact DpAll.app (DpAll.rep h n) h
end
end DL

namespace DL
open PySem PySem.Spec PyProof.Rows L2
section
variable {X : Cx} {W : WX} {F : DL.Fin} {G : Gam} {e a b c o : Expr} {es : List Expr} {d da db dc : D} {ds dt : List D} {pos pos' p p2 px py pz apos : Pos} {x y z : Str} {i j : Int} {body : List Stmt}
theorem en_rep {k : Int} (ha : EvN X a G ds) (hb : EvD X b G (.int k)) (hk : 0 ≤ k ∧ k < 2 ^ 63) (hl : ds.length * k.toNat ≤ sizeLine) : EvN X (.BinOp a .Mult b pos) G (List.replicate k.toNat ds).flatten := fun H0 S H σ o i Q q =>
  we (pe_op op_rep pe_w pe_w) (ha H0 S H σ o i _ fun p1 vs S1 H1 x1 n1 s1 h1 d1 => hb H0 S1 H1 σ (o.ext x1) x1.i _ fun v S2 H2 x2 d2 => by
    cases d2
    have x3 := x1.trans x2
    refine ⟨p1, k, vs, rfl, rfl, x2.h _ _ h1, by omega, hk.2, by rw [DpAll.len d1]; exact hl, fun p hp => q p _ _ _ (x3.own (x3.h.none hp) (x3.i.none hp)) (x3.h.none hp) (x3.i.none hp) upd_same (DpAll.rep (x2.s.dpAll d1) _)⟩)
/-- x, y = a tuple of two -/
theorem gs_unpack2 {kt : Nat} (i j : Nat) (he : EvD X e G (.tuple [da, db])) (k : F.nx ((G.set i (.im da)).set j (.im db))) (hi : X.N[i]? = some x := by rfl) (hj : X.N[j]? = some y := by rfl) (hN : X.N.Nodup := by assumption) (hc : X.calm = true := by rfl)
    (hx : Loc X.env.scope x := by first | exact Or.inl rfl | exact Or.inr rfl) (hy : Loc X.env.scope y := by first | exact Or.inl rfl | exact Or.inr rfl)
    (hf : X.fn x = true ∨ X.env.scope.names.lookup x = some .local := by first | exact .inl rfl | exact .inr rfl | assumption) (hf2 : X.fn y = true ∨ X.env.scope.names.lookup y = some .local := by first | exact .inl rfl | exact .inr rfl | assumption)
    (hn : (assignEach [.Name x px, .Name y py] X.env).length = 2 := by rfl) (hst : (assignEach [.Name x px, .Name y py] X.env).findIdx? (·.1) = none := by rfl)
    (hg1 : (assignEach [.Name x px, .Name y py] X.env).map (·.2) = assign (.Name x px) X.env :: (assignEach [.Name y py] X.env).map (·.2) := by rfl) (hg2 : (assignEach [.Name y py] X.env).map (·.2) = assign (.Name y py) X.env :: (assignEach [] X.env).map (·.2) := by rfl)
    (hs : swapsWithSole [.Tuple [.Name x px, .Name y py] kt p2] e pos.line X.env = pure false := by rfl) (hw : swappedStores [.Tuple [.Name x px, .Name y py] kt p2] e X.env = pure none := by rfl)
    (h1 : (assignEach [.Tuple [.Name x px, .Name y py] kt p2] X.env).map (·.2) = [assign (.Tuple [.Name x px, .Name y py] kt p2) X.env] := by rfl) :
    GS X W (.Assign [.Tuple [.Name x px, .Name y py] kt p2] e pos) F G := fun S0 H0 S H σ E xx o m =>
  ws (ps_asg pe_w (pg_tup hc (pgs_cons (pg_name hN hi hx hf) (pgs_cons (pg_name hN hj hy hf2) pgs_nil hg2) hg1) hn hst) hs hw h1) (he H0 S H σ o xx.i _ fun v S1 H1 x1 d1 => by
    cases d1 with
    | tup hq hA =>
      cases hA with
      | cons d1 d2 =>
        cases d2 with
        | cons d2 d3 =>
          cases d3
          exact ⟨_, _, rfl, x1.i.sqT hq, rfl, _, _, rfl, _, _, rfl, rfl, m.nx _ S1 H1 _ (xx.trans x1) (((o.ext x1).set_im d1).set_im d2) k⟩)
theorem gs_unpack3 {kt : Nat} (i j l : Nat) (he : EvD X e G (.tuple [da, db, dc])) (k : F.nx (((G.set i (.im da)).set j (.im db)).set l (.im dc))) (hi : X.N[i]? = some x := by rfl) (hj : X.N[j]? = some y := by rfl) (hl : X.N[l]? = some z := by rfl) (hN : X.N.Nodup := by assumption) (hc : X.calm = true := by rfl)
    (hx : Loc X.env.scope x := by first | exact Or.inl rfl | exact Or.inr rfl) (hy : Loc X.env.scope y := by first | exact Or.inl rfl | exact Or.inr rfl) (hz : Loc X.env.scope z := by first | exact Or.inl rfl | exact Or.inr rfl)
    (hf : X.fn x = true ∨ X.env.scope.names.lookup x = some .local := by first | exact .inl rfl | exact .inr rfl | assumption) (hf2 : X.fn y = true ∨ X.env.scope.names.lookup y = some .local := by first | exact .inl rfl | exact .inr rfl | assumption) (hf3 : X.fn z = true ∨ X.env.scope.names.lookup z = some .local := by first | exact .inl rfl | exact .inr rfl | assumption)
    (hn : (assignEach [.Name x px, .Name y py, .Name z pz] X.env).length = 3 := by rfl) (hst : (assignEach [.Name x px, .Name y py, .Name z pz] X.env).findIdx? (·.1) = none := by rfl)
    (hg1 : (assignEach [.Name x px, .Name y py, .Name z pz] X.env).map (·.2) = assign (.Name x px) X.env :: (assignEach [.Name y py, .Name z pz] X.env).map (·.2) := by rfl) (hg2 : (assignEach [.Name y py, .Name z pz] X.env).map (·.2) = assign (.Name y py) X.env :: (assignEach [.Name z pz] X.env).map (·.2) := by rfl)
    (hg3 : (assignEach [.Name z pz] X.env).map (·.2) = assign (.Name z pz) X.env :: (assignEach [] X.env).map (·.2) := by rfl)
    (hs : swapsWithSole [.Tuple [.Name x px, .Name y py, .Name z pz] kt p2] e pos.line X.env = pure false := by rfl) (hw : swappedStores [.Tuple [.Name x px, .Name y py, .Name z pz] kt p2] e X.env = pure none := by rfl)
    (h1 : (assignEach [.Tuple [.Name x px, .Name y py, .Name z pz] kt p2] X.env).map (·.2) = [assign (.Tuple [.Name x px, .Name y py, .Name z pz] kt p2) X.env] := by rfl) :
    GS X W (.Assign [.Tuple [.Name x px, .Name y py, .Name z pz] kt p2] e pos) F G := fun S0 H0 S H σ E xx o m =>
  ws (ps_asg pe_w (pg_tup hc (pgs_cons (pg_name hN hi hx hf) (pgs_cons (pg_name hN hj hy hf2) (pgs_cons (pg_name hN hl hz hf3) pgs_nil hg3) hg2) hg1) hn hst) hs hw h1) (he H0 S H σ o xx.i _ fun v S1 H1 x1 d1 => by
    cases d1 with
    | tup hq hA =>
      cases hA with
      | cons d1 d2 =>
        cases d2 with
        | cons d2 d3 =>
          cases d3 with
          | cons d3 d4 =>
            cases d4
            exact ⟨_, _, rfl, x1.i.sqT hq, rfl, _, _, rfl, _, _, rfl, _, _, rfl, rfl, m.nx _ S1 H1 _ (xx.trans x1) ((((o.ext x1).set_im d1).set_im d2).set_im d3) k⟩)
/-- for x in a text, sign by sign -/
theorem gs_forS {s : Str} {np : Pos} (j : Nat) (I : Nat → Gam → Prop) (he : EvD X e G (.str s)) (h0 : I 0 G)
    (hs : ∀ (i : Nat) (c : Nat) (G' : Gam), s.cps.toList[i]? = some c → I i G' → GSs X W body (F.turn (I (i + 1))) (G'.set j (.im (.str ⟨#[c]⟩))))
    (hd : ∀ G', I s.cps.toList.length G' → F.nx G') (hp : PassesOwn (model X.prog X.w) X.A X.env X.xe) (hj : X.N[j]? = some x := by rfl) (hN : X.N.Nodup := by assumption) (hc : X.calm = true := by rfl)
    (hx : Loc X.env.scope x := by first | exact Or.inl rfl | exact Or.inr rfl) (hf : X.fn x = true ∨ X.env.scope.names.lookup x = some .local := by first | exact .inl rfl | exact .inr rfl | assumption)
    (hst : ∀ x, foldedSetIterable e X.env x = pure x := by intro _; rfl) : GS X W (.For (.Name x np) e body [] pos) F G := fun S0 H0 S H σ E zz o m => by
  refine ws (ps_for hp hc (pi_str pe_w) (pg_name hN hj hx hf) pss_w hst) (he H0 S H σ o zz.i _ fun v S1 H1 x1 d1 => ?_)
  cases d1
  have z1 := zz.trans x1
  have mb := m.bed z1
  refine ⟨s, rfl, fun i n σ' H' => n = s.cps.size - i ∧ i ≤ s.cps.size ∧ Lp X.K S1 (bed S1 H0) (I i) σ' H', ⟨s.cps.size, by simp, Nat.zero_le _, S1, G, z1.bed, (o.ext x1).bed, h0⟩, ?_⟩
  rintro i n σ' H' ⟨rfl, hi, S', G', y, o', k⟩
  by_cases hlt : i < s.cps.size
  · refine .inr ⟨hlt, Lp X.K S1 (bed S1 H0) (I (i + 1)), fun σ2 H2 p' => ⟨s.cps.size - (i + 1), by omega, rfl, hlt, p'⟩, fun v H' yy => ?_⟩
    obtain ⟨rfl, c, hcc, rfl⟩ := yy
    exact hs i c G' (by simpa using hcc) k S1 (bed S1 H0) S' H' _ _ y (o'.set_im (.str _)) (mb.turn fun _ _ q => q)
  · have e0 : i = s.cps.toList.length := by simp; omega
    subst e0
    exact .inl ⟨by show s.cps.size ≤ _; simp, mb.nx σ' S' H' G' y o' (hd G' k)⟩
end

/-! ### comprehensions -/
section
variable {X : Cx} {G : Gam} {it elt : Expr} {x : Str} {np pos : Pos} {scope : Scope} {ds rs : List D}
/-- a turn's heap: what is made so far stands at L -/
def Lcw (K : Fg) (S1 H1 : Hp) (L : Addr) (rs : List D) (H : Hp) : Prop := ∃ S acc, Ext S1 H1 S H ∧ S L = none ∧ H L = some (.lst acc) ∧ DpAll K S acc rs
theorem en_lc (j : Nat) (he : EvD X it G (.list ds)) (hlen : rs.length = ds.length) (hel : ∀ (s : Shared) (H : Hp) (C : Addr) (cl : List (Str × Addr)) (fp : List Addr) (i : Nat) (d r : D), ds[i]? = some d → rs[i]? = some r →
      EvD (X.blk s H scope (compEnvC scope cl C X.env) fp) elt ((G.set j .no).set j (.im d)) r) (hz : ds.length < sizeLine) (hN : X.N.Nodup := by assumption) (hc : X.calm = true := by rfl)
    (ok : BlkOk X.N X.env.scope scope [(x, j)] := by exact blkOk_by (by decide +kernel))
    (hg : ∀ (s : Shared) (H : Hp) (C : Addr) (cl : List (Str × Addr)) (fp : List Addr), PG (X.blk s H scope (compEnvC scope cl C X.env) fp) (.Name x np) (gName j) := by exact fun _ _ _ _ _ => pg_name (by assumption) rfl (Or.inl rfl))
    (hs : ∀ x, foldedSetIterable it X.env x = pure x := by intro _; rfl) : EvN X (.ListComp elt [⟨.Name x np, it, [], 0⟩] scope pos) G rs := fun H0 S H σ o i Q q => by
  refine we (pe_lc (own := [(x, j)]) (g := gName j) (tt := tYes) (te := fun σ H Q => ∀ (s : Shared) (H0 : Hp) (C : Addr) (cl : List (Str × Addr)) (fp : List Addr), DL.WE (X.blk s H0 scope (compEnvC scope cl C X.env) fp) elt σ H Q) hc hN (pi_list pe_w) ok hg (fun _ _ _ _ _ => pts_nil)
    (fun s H0 C cl fp => ⟨fun pins s1 σ H Q I h => h s H0 C cl fp pins s1 I⟩) hs) (he H0 S H σ o i _ fun v S1 H1 x1 d1 => ?_)
  cases d1 with
  | lst hq ha =>
    rename_i ad vs
    have hvl := DpAll.len ha
    refine ⟨ad, rfl, ⟨vs, x1.i.sqL hq⟩, fun L hL => lc_list (K := X.K) (a := ad) (xs := vs) (g := gName j) (tt := tYes) (te := fun σ H Q => ∀ (s : Shared) (H0 : Hp) (C : Addr) (cl : List (Str × Addr)) (fp : List Addr), DL.WE (X.blk s H0 scope (compEnvC scope cl C X.env) fp) elt σ H Q) (vs := [j]) (σ := σ) (H1 := H1) (D := L) (Qd := fun H => Q (.ref L) H) (fun i H' => Lcw X.K S1 H1 L (rs.take i) H') ⟨S1, [], (Ext.refl x1.i).own hL (x1.i.none hL), x1.i.none hL, upd_same, .nil⟩ ?_ ?_ ?_⟩
    · rintro i H' _ ⟨S', acc, y, _, _, _⟩
      exact y.i.sqL (y.s.sqL hq)
    · rintro i v H' hv ⟨S', acc, y, n1, h1, d1⟩
      obtain ⟨dd, g1, g2⟩ := DpAll.getV ha hv
      have il : i < rs.length := by
        have := (List.getElem?_eq_some_iff.mp hv).1
        omega
      have g3 : rs[i]? = some rs[i] := List.getElem?_eq_getElem il
      have ho : Hol X.K H0 S' H' ((wipe σ [j]).set j (some v)) ((G.set j .no).set j (.im dd)) := (((o.ext x1).ext y).set_no (x := none)).set_im (y.s.dp g2)
      refine ⟨by show (List.set (List.set (List.set σ j none) j (some v)) j none) = List.set σ j none; rw [List.set_set, List.set_set], ?_⟩
      show (if true = true then (∀ (s : Shared) (H0 : Hp) (C : Addr) (cl : List (Str × Addr)) (fp : List Addr), DL.WE (X.blk s H0 scope (compEnvC scope cl C X.env) fp) elt (List.set (wipe σ [j]) j (some v)) H' fun y H4 => ∃ acc, H4 L = some (.lst acc) ∧ acc.length < sizeLine ∧ Lcw X.K S1 H1 L (rs.take (i + 1)) (upd H4 L (.lst (acc ++ [y])))) else Lcw X.K S1 H1 L (rs.take (i + 1)) H')
      rw [if_pos rfl]
      intro s2 H02 C cl fp
      refine hel s2 H02 C cl fp i dd rs[i] g1 g3 H0 S' H' _ ho y.i _ fun v2 S2 H2 x2 d2 => ?_
      have n2 : S2 L = none := x2.n L n1 (by rw [h1]; exact fun z => nomatch z)
      refine ⟨acc, x2.h _ _ h1, ?_, S2, acc ++ [v2], (y.trans x2).own hL n2, n2, upd_same, ?_⟩
      · rw [DpAll.len d1, List.length_take]
        omega
      · rw [List.take_add_one, g3]
        exact DpAll.snoc d2 (x2.s.dpAll d1)
    · rintro H' ⟨S', acc, y, n1, h1, d1⟩
      rw [hvl, ← hlen, List.take_length] at d1
      exact q L acc S' H' (x1.trans y) (x1.h.none hL) n1 h1 d1
end

/-! ### s.join(reversed(a list of texts)) -/
section
open RT
variable {prog : Program} {w : World} {A : Around} {E : Value → Shared → Prop} {s : Shared}
theorem join_rev {x : Str} {t : Tok} {it l : Addr} {items : Array Value} {ys : List Str} {Q : Value → Shared → Prop} (hh : A.handled = none) (hit : s.heap.IsRevIter it l ((items.size : Int) - 1)) (hl : s.heap.IsList l items) (hne : l ≠ it) (hn : items.size ≤ sizeLine)
    (hP : ∀ acc : Array Value, ItemsOf (fun i v => items[items.size - 1 - i]? = some v) acc items.size → StrsAre acc.toList ys) (hok : (ys.map (·.length)).sum + ys.length * x.length ≤ 16777216)
    (hq : ∀ (h' : Heap) (tk : Nat) (t' : Tok) (k : Nat), (∀ b o, b ≠ it → s.heap.get? b = some o → h'.get? b = some o) → Q (.str (Txt.join x ys) t') { s with heap := h', toks := k }) :
    wpAny (model prog w) A (call (.builtin "str.join") [.str x t, .ref it]) Q E s := by
  refine wpAny_call (codeAny_call_builtin PySem.F.slot_str_join.plain PySem.F.entry_str_join (PySem.F.slot_str_join.check _ _ _ _ _ _ _ _ (typeIs_str _ _ _) (PySem.F.args_str_join_2 _ _) ?_))
  rw [join_tree_other]
  refine wpAny_bind (wpAny_typeOf hit.typeIs ?_)
  show wpAny _ A.in1 ((pyIter (.ref it)).tryCatch _ >>= fun it => collect it >>= fun items => joinTail x items) _ _ s
  refine wpAny_bind (wpAny_tryCatch (wpAny_pyIter_revIter hit ?_))
  have hh1 : A.in1.handled = none := hh
  refine wpAny_bind (collect_rev (A := A.in1) hh1 hit hl hne hn fun h' tk acc hk hacc => ?_)
  obtain ⟨l', hl', ht⟩ := strsAre_values (hP acc hacc)
  subst ht
  rw [hl']
  have hok' := joinOk_of hok
  unfold JoinOk at hok'
  rw [Bool.not_eq_true'] at hok'
  have g : Gives (joinTail x (strValues l')) (joinMade x l') := by
    have g0 := gives_joinTail x l' hok'
    cases l' with
    | nil => exact g0
    | cons p r => cases r with
      | nil => exact g0
      | cons q r' => exact g0
  exact g prog w A (wants Q E) _ (post_join l' ⟨joinFit_length hok', fun t' k => hq h' tk t' k hk⟩)
end
section
variable {X : Cx} {G : Gam} {o e : Expr} {s : Str} {ys : List Str} {p pos pos2 apos : Pos}
def tJoinRev (K : Fg) (to te : TE) : TE := fun σ H Q => to σ H fun x H1 => (∃ a, x = .str a) ∧ te σ H1 fun v H2 => ∃ (a : Str) (q : Addr) (ys : List Str), x = .str a ∧ v = .ref q ∧ SqL K H2 q (ys.map V.str) ∧ (ys.map (·.length)).sum + ys.length * a.length ≤ 16777216 ∧ Q (.str (Txt.join a ys.reverse)) H2
theorem pe_joinRev {to te : TE} (hc : X.calm = true) (ho : PE X o to) (hg : Gl X "reversed") (hm : X.mg "reversed" = none) (he : PE X e te) (hs1 : starEach [.Call (.Name "reversed" p) [e] [] pos2] X.env = [(false, eval (.Call (.Name "reversed" p) [e] [] pos2) X.env)] := by rfl)
    (hs : starEach [e] X.env = (false, eval e X.env) :: starEach [] X.env := by rfl) (hbase : attributeBase o "join" X.env (eval o X.env) = eval o X.env := by rfl) (hline : (apos.endLine == pos.line) = true := by rfl) :
    PE X (.Call (.Attribute o "join" apos) [.Call (.Name "reversed" p) [e] [] pos2] [] pos) (tJoinRev X.K to te) := by
  refine ⟨fun pins s σ H Q I h => ?_⟩
  refine PySem.Call_method1 hbase hs1 hline (thn (ho.run pins s σ H _ I h) fun v s1 ⟨x, H1, I1, r1, q1⟩ => ?_)
  obtain ⟨⟨a, rfl⟩, q1⟩ := q1
  obtain ⟨t, rfl⟩ := _root_.id r1
  refine ⟨"str", _, PySem.F.plainAttrs_str, PySem.F.slot_str_join, PySem.F.type_str_join, typeIs_str _ _ _, (fun _ e => nomatch e), Calls.callWith_builtin rfl (Calls.evalArgs_plain (Calls.spliced_cons ?_))⟩
  refine Call_ (ld_blt I1 hg hm PyProof.Rows.boot_reversed (PyProof.Rows.callWith_type1 (args_cons (thn (he.run pins s1 σ H1 _ I1 q1) fun u s2 ⟨v, H2, I2, r2, q2⟩ => args_nil ?_) hs) hs rfl))
  obtain ⟨a', q, ys, ea, ev, hq, hz, q2⟩ := q2
  cases ea
  subst ev
  obtain rfl : u = Value.ref q := r2
  obtain ⟨its, rv, p', hsz⟩ := I2.list hq
  refine call_reversed_list p'.isList (Calls.spliced_nil ?_)
  have k0 : ∀ b o, s2.heap.get? b = some o → (s2.heap.push (revObj q ((its.toArray.size : Int) - 1))).get? b = some o := fun b o e => Heap.get?_push_of_some _ e
  have I3 : Inv X pins σ H2 { s2 with heap := s2.heap.push (revObj q ((its.toArray.size : Int) - 1)) } := I2.kept (t' := s2.toks) k0
  obtain ⟨f0, f1, f2, f3, f4, f5⟩ := I2.fpOk (H' := H2) (b := s2.heap.objs.size) (Nat.le_refl _) (I2.hok.fresh (Nat.le_refl _))
  have hl := p'.isList
  obtain ⟨ol, hol, _⟩ := id hl
  have hne : q ≠ s2.heap.objs.size := Nat.ne_of_lt (Heap.lt_size hol)
  have hn : its.toArray.size ≤ sizeLine := by rw [List.size_toArray, ← rv.length]; exact hsz
  refine join_rev (s := { s2 with heap := s2.heap.push (revObj q ((its.toArray.size : Int) - 1)) }) (ys := ys.reverse) (I2.ok.hd hc) ⟨_, Heap.get?_push_size _ rfl, rfl, rfl⟩ (hl.push _) hne hn (fun acc hacc => ?_) ?_ fun h' tk t' k hk => ?_
  · have rr := RT.vals_rev rv hacc
    rw [← List.map_reverse] at rr
    exact strs_of_vals rr
  · rw [List.length_reverse, List.map_reverse, List.sum_reverse]
    exact hz
  · exact ⟨.str _, H2, I3.turned (t' := k) (fun b o hb e => hk b o hb e) f0 f1 f3 f4 f5, ⟨t', rfl⟩, q2⟩
theorem ev_joinRev (hm : X.mg "reversed" = none) (ho : EvD X o G (.str s)) (he : EvD X e G (.list (ys.map .str))) (hz : (ys.map (·.length)).sum + ys.length * s.length ≤ 16777216) (hc : X.calm = true := by rfl) (hg : Gl X "reversed" := by rfl)
    (hs1 : starEach [.Call (.Name "reversed" p) [e] [] pos2] X.env = [(false, eval (.Call (.Name "reversed" p) [e] [] pos2) X.env)] := by rfl)
    (hs : starEach [e] X.env = (false, eval e X.env) :: starEach [] X.env := by rfl) (hbase : attributeBase o "join" X.env (eval o X.env) = eval o X.env := by rfl) (hline : (apos.endLine == pos.line) = true := by rfl) :
    EvD X (.Call (.Attribute o "join" apos) [.Call (.Name "reversed" p) [e] [] pos2] [] pos) G (.str (Txt.join s ys.reverse)) := fun H0 S H σ oo i Q q =>
  we (pe_joinRev hc pe_w hg hm pe_w hs1 hs hbase hline) (ho H0 S H σ oo i _ fun v S1 H1 x1 d1 => by
    cases d1
    exact ⟨⟨s, rfl⟩, he H0 S1 H1 σ (oo.ext x1) x1.i _ fun v S2 H2 x2 d2 => by
      cases d2 with
      | lst hq ha =>
        have ev := dpAll_strs' ha
        subst ev
        exact ⟨s, _, ys, rfl, rfl, x2.i.sqL hq, hz, q _ S2 H2 (x1.trans x2) (.str _)⟩⟩)
end
end DL

/-! Fractions, and the laws' own draws, as plain functions. -/
namespace MT
open PySem L2 DL
/-- a fraction in lowest terms -/
def nrm (t b : Int) : Int × Int := if b < 0 then (-t / (Nat.gcd t.natAbs b.natAbs : Nat), -b / (Nat.gcd t.natAbs b.natAbs : Nat)) else (t / (Nat.gcd t.natAbs b.natAbs : Nat), b / (Nat.gcd t.natAbs b.natAbs : Nat))
def dn (q : Int × Int) : D := .tuple [.int q.1, .int q.2]
def Bd (n : Nat) (q : Int × Int) : Prop := q.1.natAbs < 2 ^ n ∧ q.2.natAbs < 2 ^ n
theorem gcd_pos {t b : Int} (h : b ≠ 0) : 0 < Nat.gcd t.natAbs b.natAbs := Nat.gcd_pos_of_pos_right _ (by omega)
theorem gcd_ok {t b i : Int} (h : b ≠ 0) (hb : b.natAbs < 2 ^ 8999) : CDivW i (Nat.gcd t.natAbs b.natAbs : Nat) := by
  have p := gcd_pos (t := t) h
  have l : Nat.gcd t.natAbs b.natAbs ≤ b.natAbs := Nat.gcd_le_right _ (by omega)
  refine wide_div (b := 8999) (by omega) ?_ (by decide) (by decide)
  show Nat.gcd t.natAbs b.natAbs < 2 ^ 8999
  exact Nat.lt_of_le_of_lt l hb
theorem nrm_neg {t b : Int} (h : b ≠ 0) : nrm (-t) (-b) = nrm t b := by
  unfold nrm
  rw [Int.natAbs_neg, Int.natAbs_neg, Int.neg_neg, Int.neg_neg]
  by_cases c : b < 0
  · rw [if_neg (by omega), if_pos c]
  · rw [if_pos (by omega), if_neg c]
theorem mul_ok {i j : Int} {a b : Nat} (h1 : i.natAbs < 2 ^ a) (h2 : j.natAbs < 2 ^ b) (ha : 0 < a := by decide) (hb : 0 < b := by decide) (h : a + b ≤ 1000000 := by decide) : MulOk i j := .inr (wide_mul h1 h2 ha hb h)
theorem nrm_bot {t b : Int} (h : b ≠ 0) : 1 ≤ (nrm t b).2 ∧ (nrm t b).2 ≤ b.natAbs := by
  have p := gcd_pos (t := t) h
  have l : Nat.gcd t.natAbs b.natAbs ≤ b.natAbs := Nat.gcd_le_right _ (by omega)
  have dv : ((Nat.gcd t.natAbs b.natAbs : Nat) : Int) ∣ b := Int.ofNat_dvd_left.mpr (Nat.gcd_dvd_right _ _)
  obtain ⟨q, hq⟩ := dv
  have gp : (0 : Int) < (Nat.gcd t.natAbs b.natAbs : Nat) := by omega
  unfold nrm
  generalize ((Nat.gcd t.natAbs b.natAbs : Nat) : Int) = g at *
  have h1 : b / g = q := by rw [hq]; exact Int.mul_ediv_cancel_left _ (by omega)
  have h2 : -b / g = -q := by rw [hq, ← Int.mul_neg]; exact Int.mul_ediv_cancel_left _ (by omega)
  have hle : ∀ x : Int, 0 < x → x ≤ g * x := fun x hx => by
    have := Int.mul_le_mul_of_nonneg_right (show (1 : Int) ≤ g by omega) (show 0 ≤ x by omega)
    omega
  by_cases c : b < 0
  · rw [if_pos c]
    show 1 ≤ -b / g ∧ -b / g ≤ b.natAbs
    rw [h2]
    have qn : q < 0 := by
      apply Int.lt_of_not_ge
      intro z
      have := Int.mul_nonneg (show 0 ≤ g by omega) z
      omega
    have := hle (-q) (by omega)
    have e : g * -q = -b := by rw [hq, Int.mul_neg]
    omega
  · rw [if_neg c]
    show 1 ≤ b / g ∧ b / g ≤ b.natAbs
    rw [h1]
    have qn : 0 < q := by
      apply Int.lt_of_not_ge
      intro z
      have := Int.mul_nonneg (show 0 ≤ g by omega) (show 0 ≤ -q by omega)
      have e : g * -q = -b := by rw [hq, Int.mul_neg]
      omega
    have := hle q qn
    omega
theorem nrm_top {t b : Int} (h : b ≠ 0) : (nrm t b).1.natAbs ≤ t.natAbs := by
  have p := gcd_pos (t := t) h
  have dv : ((Nat.gcd t.natAbs b.natAbs : Nat) : Int) ∣ t := Int.ofNat_dvd_left.mpr (Nat.gcd_dvd_left _ _)
  obtain ⟨q, hq⟩ := dv
  have gp : (0 : Int) < (Nat.gcd t.natAbs b.natAbs : Nat) := by omega
  unfold nrm
  generalize ((Nat.gcd t.natAbs b.natAbs : Nat) : Int) = g at *
  have h1 : t / g = q := by rw [hq]; exact Int.mul_ediv_cancel_left _ (by omega)
  have h2 : -t / g = -q := by rw [hq, ← Int.mul_neg]; exact Int.mul_ediv_cancel_left _ (by omega)
  have key : q.natAbs ≤ t.natAbs := by
    rw [hq, Int.natAbs_mul]
    exact Nat.le_mul_of_pos_left _ (by omega)
  by_cases c : b < 0
  · rw [if_pos c]
    show (-t / g).natAbs ≤ _
    rw [h2, Int.natAbs_neg]
    exact key
  · rw [if_neg c]
    show (t / g).natAbs ≤ _
    rw [h1]
    exact key

/-! ### draws -/
def bigs (c : Int) : List Int → List Int
  | [] => []
  | s :: ss => c % s :: bigs (c / s) ss
def st1 (st : Int) (j : Nat) : Int := (st * 48271 + 11 + j) % 2147483647
def st2 (st : Int) (j : Nat) : Int := (st1 st j * 69621 + 3) % 2147483647
def smalls (st : Int) (j : Nat) : List Int → List Int
  | [] => []
  | s :: ss => (st2 st j / 7 % s) :: smalls (st2 st j) (j + 1) ss
def cellAbs (ns : List Int) (k : Nat) : Int := if ns.getD k 0 < 0 then -(ns.getD k 0) else ns.getD k 0
def drawL (ns : List Int) (k : Nat) (sizes : List Int) : List Int :=
  if 10 ^ (18 : Int).toNat ≤ cellAbs ns k then bigs (cellAbs ns k - 10 ^ (18 : Int).toNat) sizes else smalls ((cellAbs ns k + 1 + 31 * (k : Int)) % 2147483647) 0 sizes
inductive InR : List Int → List Int → Prop where
  | nil : InR [] []
  | cons {d s : Int} {ds ss : List Int} (h0 : 0 ≤ d) (h1 : d < s) (t : InR ds ss) : InR (d :: ds) (s :: ss)
theorem bigs_in : ∀ (sizes : List Int) (c : Int), (∀ s ∈ sizes, 0 < s) → InR (bigs c sizes) sizes
  | [], _, _ => .nil
  | s :: ss, c, h => .cons (Int.emod_nonneg _ (by have := h s List.mem_cons_self; omega)) (Int.emod_lt_of_pos _ (h s List.mem_cons_self)) (bigs_in ss _ fun x hx => h x (List.mem_cons_of_mem _ hx))
theorem smalls_in : ∀ (sizes : List Int) (c : Int) (j : Nat), (∀ s ∈ sizes, 0 < s) → InR (smalls c j sizes) sizes
  | [], _, _, _ => .nil
  | s :: ss, c, j, h => .cons (Int.emod_nonneg _ (by have := h s List.mem_cons_self; omega)) (Int.emod_lt_of_pos _ (h s List.mem_cons_self)) (smalls_in ss _ _ fun x hx => h x (List.mem_cons_of_mem _ hx))
theorem drawL_in {ns : List Int} {k : Nat} {sizes : List Int} (h : ∀ s ∈ sizes, 0 < s) : InR (drawL ns k sizes) sizes := by
  unfold drawL
  split
  · exact bigs_in _ _ h
  · exact smalls_in _ _ _ h
theorem cellAbs_nn {ns : List Int} {k : Nat} : 0 ≤ cellAbs ns k := by
  unfold cellAbs
  split <;> omega
theorem drop_get {α : Type} {xs : List α} {i : Nat} {x : α} (h : xs[i]? = some x) : xs.drop i = x :: xs.drop (i + 1) := by
  obtain ⟨l, e⟩ := List.getElem?_eq_some_iff.mp h
  rw [← e]
  exact List.drop_eq_getElem_cons l
theorem map_get {xs : List Int} {i : Nat} {d : D} (h : (xs.map PyData.int)[i]? = some d) : ∃ x, xs[i]? = some x ∧ d = .int x := by
  rw [List.getElem?_map] at h
  cases e : xs[i]? with
  | none => rw [e] at h; cases h
  | some x => rw [e] at h; exact ⟨x, rfl, (Option.some.inj h).symm⟩
theorem get_map {xs : List Int} {i : Nat} {x : Int} (h : xs[i]? = some x) : (xs.map PyData.int)[i]? = some (.int x) := by
  rw [List.getElem?_map, h]
  rfl
theorem eqv_dn (q : Int × Int) : PyData.eqv (dn q) (dn q) = true := SeqAt.eqv_refl (dn q) rfl
end MT

/-! Numbers as Lean's rationals. -/
namespace MT
open PySem L2 DL
def dq (q : Rat) : D := .tuple [.int q.num, .int q.den]
theorem nrm_rat {t b : Int} (h : b ≠ 0) : nrm t b = ((Rat.divInt t b).num, ((Rat.divInt t b).den : Int)) := by
  have pos : ∀ (t : Int) (n : Nat), n ≠ 0 → nrm t n = ((Rat.divInt t n).num, ((Rat.divInt t n).den : Int)) := fun t n hn => by
    rw [Rat.divInt_ofNat, Rat.num_mkRat, Rat.den_mkRat, if_neg hn, if_neg hn]
    unfold nrm
    rw [if_neg (by omega), Nat.gcd_comm t.natAbs, Int.natAbs_natCast, Int.natCast_ediv]
  by_cases c : b < 0
  · obtain ⟨n, rfl⟩ : ∃ n : Nat, b = -(n : Int) := ⟨b.natAbs, by omega⟩
    rw [← nrm_neg h, Int.neg_neg, pos (-t) n (by omega), Rat.divInt_neg']
  · obtain ⟨n, rfl⟩ : ∃ n : Nat, b = (n : Int) := ⟨b.natAbs, by omega⟩
    exact pos t n (by omega)
theorem dq_nrm {t b : Int} (h : b ≠ 0) : dn (nrm t b) = dq (Rat.divInt t b) := by
  rw [nrm_rat h]
  rfl
theorem dq_dn (q : Rat) : dq q = dn (q.num, (q.den : Int)) := rfl
theorem eqv_dq (q : Rat) : PyData.eqv (dq q) (dq q) = true := SeqAt.eqv_refl (dq q) rfl
theorem ne_dq {q r : Rat} (h : q = r) : (!PyData.eqv (dq q) (dq r)) = false := by
  rw [h, eqv_dq]
  rfl
theorem eqv_dq_iff (q r : Rat) : PyData.eqv (dq q) (dq r) = decide (q = r) := by
  by_cases h : q = r
  · rw [h, eqv_dq, decide_eq_true rfl]
  · rw [decide_eq_false h]
    have e : PyData.eqv (dq q) (dq r) = ((q.num == r.num) && (((q.den : Int) == (r.den : Int)) && true)) := by
      unfold dq
      simp only [PyData.eqv, PyData.eqvAll]
    rw [e]
    by_cases h1 : q.num = r.num
    · have h2 : q.den ≠ r.den := fun z => h (Rat.ext h1 z)
      have h3 : ((q.den : Int) == (r.den : Int)) = false := beq_eq_false_iff_ne.mpr (by omega)
      rw [h3, Bool.false_and, Bool.and_false]
    · rw [beq_eq_false_iff_ne.mpr h1, Bool.false_and]

/-! ### sizes -/
def Bq (n : Nat) (q : Rat) : Prop := q.num.natAbs < 2 ^ n ∧ q.den < 2 ^ n
theorem frac_le {t b : Int} (h : b ≠ 0) : (Rat.divInt t b).num.natAbs ≤ t.natAbs ∧ (Rat.divInt t b).den ≤ b.natAbs := by
  have h1 := nrm_top (t := t) h
  have h2 := nrm_bot (t := t) h
  rw [nrm_rat h] at h1 h2
  exact ⟨h1, by have := h2.2; omega⟩
theorem Bq.mono {n m : Nat} {q : Rat} (h : Bq n q) (l : n ≤ m) : Bq m q := ⟨Nat.lt_of_lt_of_le h.1 (Nat.pow_le_pow_right Nat.two_pos l), Nat.lt_of_lt_of_le h.2 (Nat.pow_le_pow_right Nat.two_pos l)⟩
theorem Bq.frac {n : Nat} {t b : Int} (h : b ≠ 0) (ht : t.natAbs < 2 ^ n) (hb : b.natAbs < 2 ^ n) : Bq n (Rat.divInt t b) := ⟨Nat.lt_of_le_of_lt (frac_le h).1 ht, Nat.lt_of_le_of_lt (frac_le h).2 hb⟩
theorem rat_add (a b : Rat) : a + b = Rat.divInt (a.num * b.den + b.num * a.den) (a.den * b.den) := by
  have h := Rat.divInt_add_divInt a.num b.num (d₁ := a.den) (d₂ := b.den) (by have := a.den_nz; omega) (by have := b.den_nz; omega)
  rw [Rat.num_divInt_den, Rat.num_divInt_den] at h
  exact h
theorem rat_sub (a b : Rat) : a - b = Rat.divInt (a.num * b.den - b.num * a.den) (a.den * b.den) := by
  have h := Rat.divInt_sub_divInt a.num b.num (d₁ := a.den) (d₂ := b.den) (by have := a.den_nz; omega) (by have := b.den_nz; omega)
  rw [Rat.num_divInt_den, Rat.num_divInt_den] at h
  exact h
theorem rat_mul (a b : Rat) : a * b = Rat.divInt (a.num * b.num) (a.den * b.den) := by
  have h := Rat.divInt_mul_divInt a.num b.num (d₁ := a.den) (d₂ := b.den)
  rw [Rat.num_divInt_den, Rat.num_divInt_den] at h
  exact h
theorem rat_div (a b : Rat) : a / b = Rat.divInt (a.num * b.den) (a.den * b.num) := by
  rw [Rat.div_def, Rat.inv_def]
  have h := Rat.divInt_mul_divInt a.num b.den (d₁ := a.den) (d₂ := b.num)
  rw [Rat.num_divInt_den] at h
  exact h
theorem den_ne (a : Rat) : (a.den : Int) ≠ 0 := by have := a.den_nz; omega
theorem dens_ne (a b : Rat) : (a.den : Int) * (b.den : Int) ≠ 0 := fun z => by
  rw [Int.mul_eq_zero] at z
  rcases z with z | z
  · exact den_ne a z
  · exact den_ne b z
theorem num_ne {b : Rat} (h : b ≠ 0) : b.num ≠ 0 := fun z => h (Rat.num_eq_zero.mp z)
theorem pow_lt {x y a b : Nat} (h1 : x < 2 ^ a) (h2 : y < 2 ^ b) : x * y < 2 ^ (a + b) := by
  rw [Nat.pow_add]
  exact Nat.mul_lt_mul'' h1 h2
theorem Bq.add {n m : Nat} {a b : Rat} (ha : Bq n a) (hb : Bq m b) : Bq (n + m + 1) (a + b) := by
  rw [rat_add]
  have h1 : (a.num * b.den).natAbs < 2 ^ (n + m) := by
    rw [Int.natAbs_mul]
    exact pow_lt ha.1 hb.2
  have h2 : (b.num * a.den).natAbs < 2 ^ (n + m) := by
    rw [Int.natAbs_mul, Nat.add_comm n m]
    exact pow_lt hb.1 ha.2
  refine .frac (dens_ne a b) ?_ ?_
  · rw [Nat.pow_succ]
    omega
  · rw [Int.natAbs_mul, Nat.pow_succ]
    have := pow_lt ha.2 hb.2
    show a.den * b.den < _
    omega
theorem Bq.sub {n m : Nat} {a b : Rat} (ha : Bq n a) (hb : Bq m b) : Bq (n + m + 1) (a - b) := by
  rw [rat_sub]
  have h1 : (a.num * b.den).natAbs < 2 ^ (n + m) := by
    rw [Int.natAbs_mul]
    exact pow_lt ha.1 hb.2
  have h2 : (b.num * a.den).natAbs < 2 ^ (n + m) := by
    rw [Int.natAbs_mul, Nat.add_comm n m]
    exact pow_lt hb.1 ha.2
  refine .frac (dens_ne a b) ?_ ?_
  · rw [Nat.pow_succ]
    omega
  · rw [Int.natAbs_mul, Nat.pow_succ]
    have := pow_lt ha.2 hb.2
    show a.den * b.den < _
    omega
theorem Bq.mul {n m : Nat} {a b : Rat} (ha : Bq n a) (hb : Bq m b) : Bq (n + m) (a * b) := by
  rw [rat_mul]
  refine .frac (dens_ne a b) ?_ ?_
  · rw [Int.natAbs_mul]
    exact pow_lt ha.1 hb.1
  · rw [Int.natAbs_mul]
    exact pow_lt ha.2 hb.2
theorem Bq.div {n m : Nat} {a b : Rat} (ha : Bq n a) (hb : Bq m b) (h : b ≠ 0) : Bq (n + m) (a / b) := by
  rw [rat_div]
  refine .frac (fun z => ?_) ?_ ?_
  · rw [Int.mul_eq_zero] at z
    rcases z with z | z
    · exact den_ne a z
    · exact num_ne h z
  · rw [Int.natAbs_mul]
    exact pow_lt ha.1 hb.2
  · rw [Int.natAbs_mul]
    exact pow_lt ha.2 hb.1
theorem Bq.mulOk1 {n m : Nat} {a b : Rat} (ha : Bq n a) (hb : Bq m b) (h : n + m ≤ 900000 := by omega) : MulOk a.num b.den := mul_ok (a := n + 1) (b := m + 1) (Nat.lt_of_lt_of_le ha.1 (Nat.pow_le_pow_right Nat.two_pos (by omega))) (Nat.lt_of_lt_of_le hb.2 (Nat.pow_le_pow_right Nat.two_pos (by omega))) (by omega) (by omega) (by omega)
theorem Bq.mulOkN {n m : Nat} {a b : Rat} (ha : Bq n a) (hb : Bq m b) (h : n + m ≤ 900000 := by omega) : MulOk a.num b.num := mul_ok (a := n + 1) (b := m + 1) (Nat.lt_of_lt_of_le ha.1 (Nat.pow_le_pow_right Nat.two_pos (by omega))) (Nat.lt_of_lt_of_le hb.1 (Nat.pow_le_pow_right Nat.two_pos (by omega))) (by omega) (by omega) (by omega)
theorem Bq.mulOkD {n m : Nat} {a b : Rat} (ha : Bq n a) (hb : Bq m b) (h : n + m ≤ 900000 := by omega) : MulOk a.den b.den := mul_ok (a := n + 1) (b := m + 1) (Nat.lt_of_lt_of_le ha.2 (Nat.pow_le_pow_right Nat.two_pos (by omega))) (Nat.lt_of_lt_of_le hb.2 (Nat.pow_le_pow_right Nat.two_pos (by omega))) (by omega) (by omega) (by omega)
theorem Bq.mulOk2 {n m : Nat} {a b : Rat} (ha : Bq n a) (hb : Bq m b) (h : n + m ≤ 900000 := by omega) : MulOk a.den b.num := mul_ok (a := n + 1) (b := m + 1) (Nat.lt_of_lt_of_le ha.2 (Nat.pow_le_pow_right Nat.two_pos (by omega))) (Nat.lt_of_lt_of_le hb.1 (Nat.pow_le_pow_right Nat.two_pos (by omega))) (by omega) (by omega) (by omega)
end MT

/-! Written numbers, as lists of signs. -/
namespace MT
open PySem L2 DL TL
open PySem.NumText (AllDigits digitsVal)
/-- a text by its signs -/
def S (l : List Nat) : Str := ⟨l.toArray⟩
theorem tl_S (l : List Nat) : tl (S l) = l := rfl
theorem S_tl (x : Str) : S (tl x) = x := mk_tl x
theorem S_inj {l m : List Nat} (h : S l = S m) : l = m := congrArg tl h
theorem S_eq_iff {l m : List Nat} : S l = S m ↔ l = m := ⟨S_inj, fun h => by rw [h]⟩
theorem S_len (l : List Nat) : (S l).length = l.length := len_tl (S l)
theorem S_app (l m : List Nat) : S l ++ S m = S (l ++ m) := ext_tl (tl_append _ _)
theorem S_cps (l : List Nat) : (S l).cps.toList = l := rfl
theorem s_minus : ("-" : Str) = S [45] := by decide +kernel
theorem s_slash : ("/" : Str) = S [47] := by decide +kernel
theorem s_empty : ("" : Str) = S [] := by decide +kernel
theorem s_one : ("1" : Str) = S [49] := by decide +kernel
theorem str_nat (n : Nat) : Str.ofString (toString ((n : Nat) : Int)) = S (numL n) := ext_tl (tl_num n)
theorem str_neg (n : Nat) (h : 0 < n) : Str.ofString (toString (-((n : Nat) : Int))) = S (45 :: numL n) := by
  refine ext_tl ?_
  rw [PyProof.Rows.toString_neg (show -((n : Nat) : Int) < 0 by omega), show (0 : Int) - -((n : Nat) : Int) = ((n : Nat) : Int) by omega]
  have h1 := tl_ofString ("-" ++ toString ((n : Nat) : Int))
  have h2 := tl_ofString (toString ((n : Nat) : Int))
  rw [tl_num] at h2
  rw [h1, String.toList_append, List.map_append, ← h2]
  rfl
/-- 0 .. 9, / and - -/
def Sign (c : Nat) : Prop := c = 45 ∨ c = 47 ∨ (48 ≤ c ∧ c ≤ 57)
def Alpha (l : List Nat) : Prop := ∀ c ∈ l, Sign c
theorem Alpha.of_app {l m : List Nat} (h : Alpha (l ++ m)) : Alpha l ∧ Alpha m := ⟨fun c hc => h c (List.mem_append_left _ hc), fun c hc => h c (List.mem_append_right _ hc)⟩
theorem Alpha.tail {c : Nat} {l : List Nat} (h : Alpha (c :: l)) : Alpha l := fun d hd => h d (List.mem_cons_of_mem _ hd)
theorem digits_alpha {l : List Nat} (h : AllDigits l) : Alpha l := fun c hc => .inr (.inr (h c hc))
instance decAll (l : List Nat) : Decidable (AllDigits l) := inferInstanceAs (Decidable (∀ c ∈ l, 48 ≤ c ∧ c ≤ 57))
theorem dec_digit : ∀ c : Nat, c < 58 → PySem.Unicode.isDecimal c = decide (48 ≤ c ∧ c ≤ 57) := by decide +kernel
theorem isDecimal_sign {c : Nat} (h : Sign c) : PySem.Unicode.isDecimal c = decide (48 ≤ c ∧ c ≤ 57) := dec_digit c (by rcases h with h | h | h <;> omega)
theorem isdecimal_S {l : List Nat} (h : Alpha l) : Txt.isdecimal (S l) = decide (l ≠ [] ∧ AllDigits l) := by
  have e : Txt.isdecimal (S l) = (decide (l.length > 0) && l.all PySem.Unicode.isDecimal) := by
    unfold Txt.isdecimal
    rw [S_len]
    congr 1
    show (l.toArray).all _ = _
    simp
  rw [e]
  have e2 : l.all PySem.Unicode.isDecimal = decide (AllDigits l) := by
    rw [Bool.eq_iff_iff, List.all_eq_true, decide_eq_true_iff]
    exact ⟨fun z c hc => by
      have := z c hc
      rw [isDecimal_sign (h c hc)] at this
      exact of_decide_eq_true this, fun z c hc => by
      rw [isDecimal_sign (h c hc)]
      exact decide_eq_true (z c hc)⟩
  rw [e2]
  cases l with
  | nil => rfl
  | cons c r =>
    rw [decide_eq_true (show (c :: r).length > 0 by simp), Bool.true_and]
    exact decide_eq_decide.mpr ⟨fun z => ⟨(fun q => by cases q), z⟩, fun z => z.2⟩
/-! ### the sign in front, the parts -/
def isNeg (l : List Nat) : Bool := l.head? == some 45
def body (l : List Nat) : List Nat := if isNeg l then l.tail else l
theorem subAt_minus (l : List Nat) : Builtin.Str.subAt (S l) (S [45]) 0 = isNeg l := by
  unfold Builtin.Str.subAt isNeg
  cases l with
  | nil => rfl
  | cons c r =>
    have e : (S (c :: r)).cps.extract 0 (0 + (S [45]).length) = #[c] := by
      apply Array.toList_inj.mp
      rw [Array.toList_extract]
      rfl
    rw [e]
    show (#[c] == #[45]) = (some c == some 45)
    by_cases h : c = 45
    · subst h
      rfl
    · rw [beq_eq_false_iff_ne.mpr fun z => h (by simpa using z), beq_eq_false_iff_ne.mpr fun z => h (Option.some.inj z)]
theorem startswith_S (l : List Nat) : Txt.startswith (S l) (S [45]) = isNeg l := by
  unfold Txt.startswith
  rw [subAt_minus]
  cases l with
  | nil => rfl
  | cons c r =>
    rw [decide_eq_true (show 0 + (S [45]).length ≤ (S (c :: r)).length by rw [S_len, S_len]; simp), Bool.true_and]
theorem removeprefix_S (l : List Nat) : Txt.removeprefix (S l) (S [45]) = S (body l) := by
  unfold Txt.removeprefix body
  rw [subAt_minus]
  cases h : isNeg l with
  | false => rfl
  | true =>
    cases l with
    | nil => cases h
    | cons c r =>
      show Txt.affix (S (c :: r)) (some ((S [45]).length, (S (c :: r)).length)) = S r
      unfold Txt.affix
      dsimp only
      rw [S_len, S_len]
      show (if ((r.length + 1 - 1 : Nat) == r.length + 1) = true then S (c :: r) else Builtin.Str.strSub (S (c :: r)) 1 (r.length + 1)) = S r
      rw [if_neg (by simp)]
      exact ext_tl (by rw [tl_strSub, tl_S, tl_S]; show (r.take (r.length + 1 - 1)) = r; simp)
theorem cut_head (l : List Nat) : cutS (S l) none (some 1) = S (l.take 1) := by
  unfold cutS
  rw [S_len, HT.sIx_none, show HT.sIx l.length l.length (some 1) = min 1 l.length from HT.sIx_nat l.length l.length 1]
  show S ((l.drop 0).take (min 1 l.length - 0)) = _
  rw [List.drop_zero, Nat.sub_zero]
  cases l with
  | nil => rfl
  | cons c r => rw [Nat.min_eq_left (by simp)]
theorem cut_tail (l : List Nat) : cutS (S l) (some 1) none = S (l.drop 1) := by
  unfold cutS
  rw [S_len, HT.sIx_none, show HT.sIx l.length 0 (some 1) = min 1 l.length from HT.sIx_nat l.length 0 1]
  show S ((l.drop (min 1 l.length)).take (l.length - min 1 l.length)) = _
  cases l with
  | nil => rfl
  | cons c r =>
    rw [Nat.min_eq_left (by simp)]
    show S (r.take (r.length + 1 - 1)) = S r
    simp
theorem head_eq (l : List Nat) : decide (S (l.take 1) = S [45]) = isNeg l := by
  unfold isNeg
  cases l with
  | nil => rfl
  | cons c r =>
    show decide (S [c] = S [45]) = (some c == some 45)
    by_cases h : c = 45
    · subst h
      rfl
    · rw [decide_eq_false fun z => h (List.cons.inj (S_inj z)).1, beq_eq_false_iff_ne.mpr fun z => h (Option.some.inj z)]
theorem body_drop (l : List Nat) (h : isNeg l = true) : body l = l.drop 1 := by
  unfold body
  rw [if_pos h]
  cases l <;> rfl
theorem body_same (l : List Nat) (h : isNeg l = false) : body l = l := by
  unfold body
  rw [if_neg (by rw [h]; exact Bool.false_ne_true)]
theorem neg_split (l : List Nat) : l = (if isNeg l then [45] else []) ++ body l := by
  cases h : isNeg l with
  | false => rw [body_same l h]; rfl
  | true =>
    rw [body_drop l h]
    cases l with
    | nil => cases h
    | cons c r =>
      have e : c = 45 := by
        unfold isNeg at h
        exact Option.some.inj (beq_iff_eq.mp h)
      subst e
      rfl
theorem body_alpha {l : List Nat} (h : Alpha l) : Alpha (body l) := by
  unfold body
  split
  · cases l with
    | nil => exact h
    | cons c r => exact h.tail
  · exact h
theorem body_len (l : List Nat) : (body l).length ≤ l.length := by
  unfold body
  split
  · rw [List.length_tail]
    omega
  · exact Nat.le_refl _
/-- cut at each / -/
def sp : List Nat → List (List Nat)
  | [] => [[]]
  | c :: r => if c = 47 then [] :: sp r else match sp r with
    | [] => [[c]]
    | p :: ps => (c :: p) :: ps
theorem sp_ne : ∀ l : List Nat, sp l ≠ []
  | [] => fun h => nomatch h
  | c :: r => by
    unfold sp
    split
    · exact fun h => nomatch h
    · split <;> exact fun h => nomatch h
theorem joinL_cons (c : Nat) (p : List Nat) (ps : List (List Nat)) : joinL [47] ((c :: p) :: ps) = c :: joinL [47] (p :: ps) := by
  cases ps <;> rfl
theorem sp_join : ∀ l : List Nat, joinL [47] (sp l) = l
  | [] => rfl
  | c :: r => by
    have ih := sp_join r
    unfold sp
    split
    · rename_i h
      subst h
      cases e : sp r with
      | nil => exact absurd e (sp_ne r)
      | cons p ps =>
        rw [e] at ih
        show [] ++ ([47] ++ joinL [47] (p :: ps)) = 47 :: r
        rw [ih]
        rfl
    · cases e : sp r with
      | nil => exact absurd e (sp_ne r)
      | cons p ps =>
        rw [e] at ih
        show joinL [47] ((c :: p) :: ps) = c :: r
        rw [joinL_cons, ih]
theorem sp_free : ∀ (l : List Nat) (p : List Nat), p ∈ sp l → 47 ∉ p
  | [], p, h => by
    have e : p = [] := List.mem_singleton.mp h
    subst e
    exact List.not_mem_nil
  | c :: r, p, h => by
    have ih := sp_free r
    unfold sp at h
    split at h
    · rcases List.mem_cons.mp h with h | h
      · subst h
        exact List.not_mem_nil
      · exact ih p h
    · rename_i hc
      cases e : sp r with
      | nil => exact absurd e (sp_ne r)
      | cons q ps =>
        rw [e] at h ih
        dsimp only at h
        rcases List.mem_cons.mp h with h | h
        · subst h
          intro z
          rcases List.mem_cons.mp z with z | z
          · exact hc z.symm
          · exact ih q List.mem_cons_self z
        · exact ih p (List.mem_cons_of_mem _ h)
theorem sp_sub : ∀ (l : List Nat) (p : List Nat), p ∈ sp l → ∀ c ∈ p, c ∈ l
  | [], p, h, c, hc => by
    have e : p = [] := List.mem_singleton.mp h
    subst e
    exact hc
  | d :: r, p, h, c, hc => by
    have ih := sp_sub r
    unfold sp at h
    split at h
    · rcases List.mem_cons.mp h with h | h
      · subst h
        cases hc
      · exact List.mem_cons_of_mem _ (ih p h c hc)
    · cases e : sp r with
      | nil => exact absurd e (sp_ne r)
      | cons q ps =>
        rw [e] at h ih
        dsimp only at h
        rcases List.mem_cons.mp h with h | h
        · subst h
          rcases List.mem_cons.mp hc with z | z
          · rw [z]
            exact List.mem_cons_self
          · exact List.mem_cons_of_mem _ (ih q List.mem_cons_self c z)
        · exact List.mem_cons_of_mem _ (ih p (List.mem_cons_of_mem _ h) c hc)
theorem split_S (l : List Nat) : Txt.split (S l) (S [47]) = (sp l).map S := by
  refine map_tl_inj ?_
  rw [split_spl _ _ (by rw [tl_S]; exact fun h => nomatch h) (kind_ok (by decide +kernel)), tl_S, tl_S, List.map_map]
  have h := spl_join (s := 47) (S := []) (sp_ne l) (sp_free l)
  rw [sp_join] at h
  rw [h]
  show sp l = (sp l).map id
  rw [List.map_id]
theorem sp_no {l : List Nat} (h : 47 ∉ l) : sp l = [l] := by
  have e := spl_join (s := 47) (S := []) (sp_ne l) (sp_free l)
  rw [sp_join, spl_last1 h] at e
  exact e.symm
theorem sp_two {p q : List Nat} (hp : 47 ∉ p) (hq : 47 ∉ q) : sp (p ++ 47 :: q) = [p, q] := by
  have e := spl_join (s := 47) (S := []) (sp_ne (p ++ 47 :: q)) (sp_free _)
  rw [sp_join] at e
  rw [← e]
  show spl [47] 0 [] (p ++ ([47] ++ q)) = [p, q]
  rw [spl_part1 hp, spl_last1 hq]
  rfl
/-- cut at the first / -/
theorem par_two {p q : List Nat} (hp : 47 ∉ p) : Txt.partition (S (p ++ 47 :: q)) (S [47]) = (S p, S [47], S q) := by
  have h := partition_app (y := S [47]) (s := 47) (S := []) rfl (a := S p) (b := S q) hp
  rw [S_app, S_app] at h
  rw [← h, List.append_assoc]
  rfl
theorem par_no {l : List Nat} (h : 47 ∉ l) : Txt.partition (S l) (S [47]) = (S l, S [], S []) := partition_none (y := S [47]) (s := 47) (S := []) rfl h
theorem first_slash (l : List Nat) : 47 ∉ l ∨ ∃ p q, l = p ++ 47 :: q ∧ 47 ∉ p := by
  induction l with
  | nil => exact .inl List.not_mem_nil
  | cons c r ih =>
    by_cases h : c = 47
    · subst h
      exact .inr ⟨[], r, rfl, List.not_mem_nil⟩
    · rcases ih with ih | ⟨p, q, e, hp⟩
      · exact .inl fun z => (List.mem_cons.mp z).elim (fun z => h z.symm) ih
      · exact .inr ⟨c :: p, q, by rw [e]; rfl, fun z => (List.mem_cons.mp z).elim (fun z => h z.symm) hp⟩
/-! ### digits -/
theorem int_S {l : List Nat} (h : AllDigits l) (h1 : l ≠ []) (h2 : l.length ≤ 4300) : PySem.intText? (S l) = some ((digitsVal l : Nat) : Int) := PySem.intText_digits (x := S l) h h1 (by rw [S_len]; exact h2)
theorem numL_47 (n : Nat) : 47 ∉ numL n := numL_free (.inl (by decide))
theorem map_back : ∀ {l : List Nat}, AllDigits l → (l.map Char.ofNat).map Char.toNat = l
  | [], _ => rfl
  | c :: r, h => by
    have hc := h.head
    have e : ∀ c : Nat, c < 58 → (Char.ofNat c).toNat = c := by decide
    rw [List.map_cons, List.map_cons, map_back h.tail, e c (by omega)]
/-- digits without zeros in front -/
def Canon (l : List Nat) : Prop := l ≠ [] ∧ AllDigits l ∧ (l.head? = some 48 → l = [48])
theorem canon_val {l : List Nat} (h : Canon l) : numL (digitsVal l) = l := by
  obtain ⟨h1, h2, h3⟩ := h
  cases l with
  | nil => exact absurd rfl h1
  | cons c r =>
    have hc := h2.head
    have e := PySem.NumText.toDigits_digitsVal r.length (c :: r) rfl h2 (by
      by_cases z : c = 48
      · subst z
        have := h3 rfl
        exact .inl (by rw [(List.cons.inj this).2]; rfl)
      · exact .inr ⟨c, r, rfl, by omega⟩)
    unfold numL
    rw [e, map_back h2]
theorem numL_canon : ∀ n : Nat, Canon (numL n) := fun n => by
  refine ⟨numL_ne n, numL_digits n, fun h => ?_⟩
  by_cases c : n < 10
  · rw [numL_lt c] at h ⊢
    have e : 48 + n = 48 := Option.some.inj h
    rw [e]
  · exfalso
    have v := numL_val n
    have hd := numL_digits n
    cases e : numL n with
    | nil => exact numL_ne n e
    | cons d r =>
      rw [e] at h v hd
      have e1 : d = 48 := Option.some.inj h
      subst e1
      rw [PySem.NumText.digitsVal_zero] at v
      -- the same value with one digit less: too few digits
      have hl : ∀ (m : Nat) (k : List Nat), AllDigits k → digitsVal k < 10 ^ k.length := by
        intro m k hk
        have : ∀ (k : List Nat) (a : Nat), AllDigits k → k.foldl (fun acc c => acc * 10 + (c - 48)) a < (a + 1) * 10 ^ k.length := by
          intro k
          induction k with
          | nil => intro a _; simp
          | cons c r ih =>
            intro a hk
            have hc := hk.head
            have := ih (a * 10 + (c - 48)) hk.tail
            refine Nat.lt_of_lt_of_le this ?_
            rw [List.length_cons, Nat.pow_succ, Nat.mul_comm (10 ^ r.length) 10, ← Nat.mul_assoc]
            exact Nat.mul_le_mul_right _ (by omega)
        have h0 := this k 0 hk
        unfold digitsVal
        omega
      have lo : 10 ^ r.length ≤ n := by
        apply Classical.byContradiction
        intro z
        by_cases rz : r.length = 0
        · rw [rz] at z
          simp at z
          omega
        · have := numL_len (n := n) (k := r.length) (by omega) (by omega)
          rw [e, List.length_cons] at this
          omega
      have hi := hl 0 r hd.tail
      omega
theorem val_lt {l : List Nat} (h : AllDigits l) : digitsVal l < 10 ^ l.length := by
  have : ∀ (k : List Nat) (a : Nat), AllDigits k → k.foldl (fun acc c => acc * 10 + (c - 48)) a < (a + 1) * 10 ^ k.length := by
    intro k
    induction k with
    | nil => intro a _; simp
    | cons c r ih =>
      intro a hk
      have hc := hk.head
      have := ih (a * 10 + (c - 48)) hk.tail
      refine Nat.lt_of_lt_of_le this ?_
      rw [List.length_cons, Nat.pow_succ, Nat.mul_comm (10 ^ r.length) 10, ← Nat.mul_assoc]
      exact Nat.mul_le_mul_right _ (by omega)
  have h0 := this l 0 h
  unfold digitsVal
  omega
/-! ### a number, written -/
def fmt (x : Rat) : List Nat := (if x.num < 0 then [45] else []) ++ (numL x.num.natAbs ++ (if x.den = 1 then [] else 47 :: numL x.den))
def Nine (x : Rat) : Prop := x.num.natAbs < 10 ^ 9 ∧ x.den < 10 ^ 9
theorem numL_head {n : Nat} {m : List Nat} : isNeg (numL n ++ m) = false := by
  have h := numL_digits n
  have hn := numL_ne n
  unfold isNeg
  cases e : numL n with
  | nil => exact absurd e hn
  | cons c r =>
    rw [e] at h
    have := h.head
    show (some c == some 45) = false
    exact beq_eq_false_iff_ne.mpr fun z => by
      have := Option.some.inj z
      omega
theorem fmt_neg (x : Rat) : isNeg (fmt x) = decide (x.num < 0) := by
  unfold fmt
  by_cases h : x.num < 0
  · rw [if_pos h, decide_eq_true h]
    rfl
  · rw [if_neg h, decide_eq_false h, List.nil_append]
    exact numL_head
theorem fmt_body (x : Rat) : body (fmt x) = numL x.num.natAbs ++ (if x.den = 1 then [] else 47 :: numL x.den) := by
  unfold body
  rw [fmt_neg]
  unfold fmt
  by_cases h : x.num < 0
  · rw [if_pos h, decide_eq_true h, if_pos rfl]
    rfl
  · rw [if_neg h, decide_eq_false h, if_neg Bool.false_ne_true]
    rfl
theorem fmt_alpha (x : Rat) : Alpha (fmt x) := by
  unfold fmt
  intro c hc
  rcases List.mem_append.mp hc with hc | hc
  · split at hc
    · exact .inl (List.mem_singleton.mp hc)
    · cases hc
  · rcases List.mem_append.mp hc with hc | hc
    · exact digits_alpha (numL_digits _) c hc
    · split at hc
      · cases hc
      · rcases List.mem_cons.mp hc with hc | hc
        · exact .inr (.inl hc)
        · exact digits_alpha (numL_digits _) c hc
theorem nine_len {n : Nat} (h : n < 10 ^ 9) : (numL n).length ≤ 9 := numL_len (by decide) h
theorem fmt_len {x : Rat} (h : Nine x) : (fmt x).length ≤ 20 := by
  have h1 := nine_len h.1
  have h2 := nine_len h.2
  unfold fmt
  rw [List.length_append, List.length_append]
  have a1 : (if x.num < 0 then [45] else ([] : List Nat)).length ≤ 1 := by split <;> simp
  have a2 : (if x.den = 1 then [] else 47 :: numL x.den).length ≤ 10 := by
    split
    · simp
    · rw [List.length_cons]
      omega
  omega
theorem fmt_inj {x y : Rat} (h : fmt x = fmt y) : x = y := by
  have hs : decide (x.num < 0) = decide (y.num < 0) := by rw [← fmt_neg, ← fmt_neg, h]
  have hb : sp (body (fmt x)) = sp (body (fmt y)) := by rw [h]
  rw [fmt_body, fmt_body] at hb
  have spf : ∀ x : Rat, sp (numL x.num.natAbs ++ (if x.den = 1 then [] else 47 :: numL x.den)) = (if x.den = 1 then [numL x.num.natAbs] else [numL x.num.natAbs, numL x.den]) := fun x => by
    split
    · rw [List.append_nil, sp_no (numL_47 _)]
    · rw [sp_two (numL_47 _) (numL_47 _)]
  rw [spf, spf] at hb
  have key : numL x.num.natAbs = numL y.num.natAbs ∧ x.den = y.den := by
    by_cases h1 : x.den = 1
    · by_cases h2 : y.den = 1
      · rw [if_pos h1, if_pos h2] at hb
        exact ⟨(List.cons.inj hb).1, by omega⟩
      · rw [if_pos h1, if_neg h2] at hb
        cases (List.cons.inj hb).2
    · by_cases h2 : y.den = 1
      · rw [if_neg h1, if_pos h2] at hb
        cases (List.cons.inj hb).2
      · rw [if_neg h1, if_neg h2] at hb
        have hb' := List.cons.inj hb
        exact ⟨hb'.1, numL_inj (List.cons.inj hb'.2).1⟩
  have hn := numL_inj key.1
  refine Rat.ext ?_ key.2
  by_cases c : x.num < 0
  · rw [decide_eq_true c] at hs
    have := of_decide_eq_true hs.symm
    omega
  · rw [decide_eq_false c] at hs
    have := of_decide_eq_false hs.symm
    omega
/-- the number that a word writes, if it writes one -/
noncomputable def rd (l : List Nat) : Option Rat := open Classical in if h : ∃ x, Nine x ∧ l = fmt x then some (Classical.choose h) else none
theorem rd_fmt {x : Rat} (h : Nine x) : rd (fmt x) = some x := by
  have hx : ∃ y, Nine y ∧ fmt x = fmt y := ⟨x, h, rfl⟩
  unfold rd
  rw [dif_pos hx]
  exact congrArg some (fmt_inj (Classical.choose_spec hx).2).symm
theorem rd_none {l : List Nat} (h : ∀ x, Nine x → l ≠ fmt x) : rd l = none := by
  unfold rd
  rw [dif_neg]
  rintro ⟨x, h1, h2⟩
  exact h x h1 h2
theorem rd_cases (l : List Nat) : (∃ x, Nine x ∧ l = fmt x) ∨ (∀ x, Nine x → l ≠ fmt x) := by
  by_cases h : ∃ x, Nine x ∧ l = fmt x
  · exact .inl h
  · exact .inr fun x h1 h2 => h ⟨x, h1, h2⟩
def optD : Option Rat → D
  | some x => dq x
  | none => .none
end MT

namespace MT
open PySem L2 DL TL
open PySem.NumText (AllDigits digitsVal)
theorem app_slash {p q p' q' : List Nat} (h : p ++ 47 :: q = p' ++ 47 :: q') (hp : 47 ∉ p) (hp' : 47 ∉ p') : p = p' ∧ q = q' := by
  have h1 := par_two (q := q) hp
  have h2 := par_two (q := q') hp'
  rw [h] at h1
  have e := h1.symm.trans h2
  have e1 := Prod.mk.inj e
  have e2 := Prod.mk.inj e1.2
  exact ⟨S_inj e1.1, S_inj e2.2⟩
theorem numL_one : numL 1 = [49] := by decide +kernel
/-- above, below as they are cut out of a word -/
def Cut (l A B : List Nat) : Prop := (body l = A ∧ 47 ∉ A ∧ B = [49]) ∨ (body l = A ++ 47 :: B ∧ 47 ∉ A)
theorem cut_fmt {l A B : List Nat} {x : Rat} (h : Cut l A B) (e : l = fmt x) : A = numL x.num.natAbs ∧ B = numL x.den := by
  subst e
  unfold Cut at h
  rw [fmt_body] at h
  by_cases hd : x.den = 1
  · rw [if_pos hd, List.append_nil] at h
    rcases h with ⟨h1, _, h3⟩ | ⟨h1, _⟩
    · exact ⟨h1.symm, by rw [h3, hd, numL_one]⟩
    · exfalso
      refine numL_47 x.num.natAbs ?_
      rw [h1]
      exact List.mem_append_right _ List.mem_cons_self
  · rw [if_neg hd] at h
    rcases h with ⟨h1, h2, _⟩ | ⟨h1, h2⟩
    · exfalso
      refine h2 ?_
      rw [← h1]
      exact List.mem_append_right _ List.mem_cons_self
    · have := app_slash h1 (numL_47 _) h2
      exact ⟨this.1.symm, this.2.symm⟩
def Whole (l : List Nat) : Prop := l ≠ [] ∧ AllDigits l ∧ l.length ≤ 9
theorem whole_num {n : Nat} (h : n < 10 ^ 9) : Whole (numL n) := ⟨numL_ne n, numL_digits n, nine_len h⟩
/-- the number that is read off -/
def rdY (l A B : List Nat) : Rat := Rat.divInt (if isNeg l then -(digitsVal A : Int) else (digitsVal A : Int)) (digitsVal B : Int)
theorem rdY_fmt {l A B : List Nat} {x : Rat} (h : Cut l A B) (e : l = fmt x) : rdY l A B = x := by
  obtain ⟨h1, h2⟩ := cut_fmt h e
  unfold rdY
  rw [h1, h2, numL_val, numL_val, e, fmt_neg]
  have e1 : (if decide (x.num < 0) = true then -((x.num.natAbs : Nat) : Int) else ((x.num.natAbs : Nat) : Int)) = x.num := by
    by_cases c : x.num < 0
    · rw [if_pos (decide_eq_true c)]
      omega
    · rw [if_neg (by rw [decide_eq_false c]; exact Bool.false_ne_true)]
      omega
  rw [e1, Rat.num_divInt_den]
theorem whole_lt {l : List Nat} (h : Whole l) : digitsVal l < 10 ^ 9 := Nat.lt_of_lt_of_le (val_lt h.2.1) (Nat.pow_le_pow_right (by decide) h.2.2)
theorem rdY_nine {l A B : List Nat} (hA : Whole A) (hB : Whole B) (h0 : digitsVal B ≠ 0) : Nine (rdY l A B) := by
  have h1 := whole_lt hA
  have h2 := whole_lt hB
  have h3 := frac_le (t := if isNeg l then -(digitsVal A : Int) else (digitsVal A : Int)) (b := (digitsVal B : Int)) (by omega)
  unfold Nine rdY
  refine ⟨Nat.lt_of_le_of_lt h3.1 ?_, Nat.lt_of_le_of_lt h3.2 ?_⟩
  · split <;> omega
  · omega
theorem rd_bad {l A B : List Nat} (h : Cut l A B) (hb : ¬ (Whole A ∧ Whole B ∧ digitsVal B ≠ 0)) : rd l = none := rd_none fun x hx e => hb (by
  obtain ⟨h1, h2⟩ := cut_fmt h e
  refine ⟨by rw [h1]; exact whole_num hx.1, by rw [h2]; exact whole_num hx.2, ?_⟩
  rw [h2, numL_val]
  exact x.den_nz)
theorem rd_other {l A B : List Nat} (h : Cut l A B) (hn : fmt (rdY l A B) ≠ l) : rd l = none := rd_none fun x hx e => hn (by rw [rdY_fmt h e]; exact e.symm)
/-! ### by the parts -/
def GoodP (p : List Nat) : Prop := Canon p ∧ p.length ≤ 9
theorem sp_fmt (x : Rat) : sp (body (fmt x)) = (if x.den = 1 then [numL x.num.natAbs] else [numL x.num.natAbs, numL x.den]) := by
  rw [fmt_body]
  split
  · rw [List.append_nil, sp_no (numL_47 _)]
  · rw [sp_two (numL_47 _) (numL_47 _)]
theorem rd_long {l : List Nat} (h : 2 < (sp (body l)).length) : rd l = none := rd_none fun x hx e => by
  subst e
  rw [sp_fmt] at h
  split at h <;> simp at h
theorem rd_part {l p : List Nat} (hp : p ∈ sp (body l)) (h : ¬ GoodP p) : rd l = none := rd_none fun x hx e => by
  subst e
  rw [sp_fmt] at hp
  refine h ?_
  have g : ∀ n : Nat, n < 10 ^ 9 → GoodP (numL n) := fun n hn => ⟨numL_canon n, nine_len hn⟩
  split at hp
  · rw [List.mem_singleton.mp hp]
    exact g _ hx.1
  · rcases List.mem_cons.mp hp with hp | hp
    · rw [hp]
      exact g _ hx.1
    · rw [List.mem_singleton.mp hp]
      exact g _ hx.2
/-- top and bottom by the parts -/
def Par (l : List Nat) (n b : Nat) : Prop := (∃ p, sp (body l) = [p] ∧ GoodP p ∧ n = digitsVal p ∧ b = 1) ∨ (∃ p q, sp (body l) = [p, q] ∧ GoodP p ∧ GoodP q ∧ n = digitsVal p ∧ b = digitsVal q)
theorem par_fmt {l : List Nat} {n b : Nat} {x : Rat} (h : Par l n b) (e : l = fmt x) : n = x.num.natAbs ∧ b = x.den := by
  subst e
  unfold Par at h
  rw [sp_fmt] at h
  by_cases hd : x.den = 1
  · rw [if_pos hd] at h
    rcases h with ⟨p, h1, _, h3, h4⟩ | ⟨p, q, h1, _⟩
    · rw [h3, ← (List.cons.inj h1).1, numL_val]
      exact ⟨rfl, by rw [h4, hd]⟩
    · cases (List.cons.inj h1).2
  · rw [if_neg hd] at h
    rcases h with ⟨p, h1, _⟩ | ⟨p, q, h1, _, _, h3, h4⟩
    · cases (List.cons.inj h1).2
    · have h1' := List.cons.inj h1
      rw [h3, h4, ← h1'.1, ← (List.cons.inj h1'.2).1, numL_val, numL_val]
      exact ⟨rfl, rfl⟩
/-- in lowest terms as they stand -/
def Low (n b : Nat) : Prop := (Rat.divInt (n : Int) (b : Int)).num = n ∧ (Rat.divInt (n : Int) (b : Int)).den = b
theorem low_of (x : Rat) : Low x.num.natAbs x.den := by
  have h : ∀ m : Int, m.natAbs = x.num.natAbs → (Rat.divInt m (x.den : Int)).num.natAbs = x.num.natAbs ∧ (Rat.divInt m (x.den : Int)).den = x.den := fun m hm => by
    rcases (show m = x.num ∨ m = -x.num by omega) with e | e
    · rw [e, Rat.num_divInt_den]
      exact ⟨rfl, rfl⟩
    · have e2 : Rat.divInt (-x.num) (x.den : Int) = -x := by rw [← Rat.neg_divInt, Rat.num_divInt_den]
      rw [e, e2, Rat.neg_num, Rat.neg_den, Int.natAbs_neg]
      exact ⟨rfl, rfl⟩
  obtain ⟨h1, h2⟩ := h (x.num.natAbs : Int) (Int.natAbs_natCast _)
  refine ⟨?_, h2⟩
  have p : 0 ≤ (Rat.divInt (x.num.natAbs : Int) (x.den : Int)).num := Rat.num_nonneg.mpr (Rat.divInt_nonneg (by omega) (by omega))
  omega
theorem rd_small {l : List Nat} {n b : Nat} (h : Par l n b) (h2 : ∃ p q, sp (body l) = [p, q]) (hb : b < 2) : rd l = none := rd_none fun x hx e => by
  have h1 := (par_fmt h e).2
  subst e
  obtain ⟨p, q, h2⟩ := h2
  rw [sp_fmt] at h2
  split at h2
  · cases (List.cons.inj h2).2
  · rename_i hd
    have := x.den_nz
    omega
theorem rd_zero {l : List Nat} {n b : Nat} (h : Par l n b) (hm : isNeg l = true) (hn : n = 0) : rd l = none := rd_none fun x hx e => by
  have h1 := (par_fmt h e).1
  subst e
  rw [fmt_neg] at hm
  have := of_decide_eq_true hm
  omega
theorem rd_high {l : List Nat} {n b : Nat} (h : Par l n b) (hl : ¬ Low n b) : rd l = none := rd_none fun x hx e => by
  obtain ⟨h1, h2⟩ := par_fmt h e
  refine hl ?_
  rw [h1, h2]
  exact low_of x
theorem rd_good {l : List Nat} {n b : Nat} (h : Par l n b) (hb : (∃ p q, sp (body l) = [p, q]) → 2 ≤ b) (hm : isNeg l = true → n ≠ 0) (hl : Low n b) : ∃ y : Rat, rd l = some y ∧ y.num = (if isNeg l then -(n : Int) else (n : Int)) ∧ y.den = b := by
  have hsg : (Rat.divInt (if isNeg l then -(n : Int) else (n : Int)) (b : Int)).num = (if isNeg l then -(n : Int) else (n : Int)) ∧ (Rat.divInt (if isNeg l then -(n : Int) else (n : Int)) (b : Int)).den = b := by
    cases isNeg l with
    | true =>
      rw [if_pos rfl, ← Rat.neg_divInt, Rat.neg_num, Rat.neg_den, hl.1]
      exact ⟨rfl, hl.2⟩
    | false =>
      rw [if_neg Bool.false_ne_true]
      exact hl
  refine ⟨Rat.divInt (if isNeg l then -(n : Int) else (n : Int)) (b : Int), ?_, hsg.1, hsg.2⟩
  generalize Rat.divInt (if isNeg l then -(n : Int) else (n : Int)) (b : Int) = y at hsg
  have hnat : y.num.natAbs = n := by
    rw [hsg.1]
    split <;> omega
  have hneg : decide (y.num < 0) = isNeg l := by
    rw [hsg.1]
    cases e : isNeg l with
    | true =>
      have := hm e
      rw [if_pos rfl]
      exact decide_eq_true (by omega)
    | false =>
      rw [if_neg Bool.false_ne_true]
      exact decide_eq_false (by omega)
  have hbd : body l = numL n ++ (if b = 1 then [] else 47 :: numL b) := by
    have hj := sp_join (body l)
    rcases h with ⟨p, h1, h2, h3, h4⟩ | ⟨p, q, h1, h2, h3, h4, h5⟩
    · rw [h1] at hj
      rw [if_pos h4, h3, canon_val h2.1, List.append_nil]
      exact hj.symm
    · have b2 := hb ⟨p, q, h1⟩
      rw [h1] at hj
      rw [if_neg (by omega), h4, h5, canon_val h2.1, canon_val h3.1]
      exact hj.symm
  have e : l = fmt y := by
    have hs := neg_split l
    unfold fmt
    rw [hsg.2, hnat, ← hbd]
    have e2 : (if y.num < 0 then [45] else ([] : List Nat)) = (if isNeg l then [45] else []) := by
      rw [← hneg]
      by_cases c : y.num < 0
      · rw [if_pos c, if_pos (decide_eq_true c)]
      · rw [if_neg c, if_neg (by rw [decide_eq_false c]; exact Bool.false_ne_true)]
    rw [e2]
    exact hs
  have nine : Nine y := by
    have lt : ∀ p, GoodP p → digitsVal p < 10 ^ 9 := fun p hp => whole_lt ⟨hp.1.1, hp.1.2.1, hp.2⟩
    unfold Nine
    rw [hnat, hsg.2]
    rcases h with ⟨p, h1, h2, h3, h4⟩ | ⟨p, q, h1, h2, h3, h4, h5⟩
    · rw [h3, h4]
      exact ⟨lt p h2, by decide⟩
    · rw [h4, h5]
      exact ⟨lt p h2, lt q h3⟩
  rw [e]
  exact rd_fmt nine
end MT

namespace K3
open PySem PySem.Spec PyProof.Rows L2 DL MT
def topS (i : Nat) : Stmt := PySem.Challenge.pw_surecues_k03_how_numbers_are_written.main.body.getD i (.Pass ⟨0, 0, 0, 0⟩)
abbrev sNumber : Stmt := topS 6
abbrev sFormatNumber : Stmt := topS 7
abbrev sReadNumber : Stmt := topS 8
abbrev sIsWhole : Stmt := topS 9
abbrev sInDigits : Stmt := topS 10
abbrev sCell : Stmt := topS 12
abbrev sDraw : Stmt := topS 13
abbrev sF : Stmt := topS 14
abbrev sWord : Stmt := topS 15
abbrev sDue : Stmt := topS 16
abbrev sLaw : Stmt := topS 17
theorem scNumber : FnScope ["top", "bottom", "common"] ["top", "bottom"] (defScope sNumber) := ⟨rfl, rfl, rfl, by decide +kernel, rfl, by decide +kernel, by decide +kernel⟩
theorem scFormatNumber : FnScope ["value", "top", "bottom", "sign", "below"] ["value"] (defScope sFormatNumber) := ⟨rfl, rfl, rfl, by decide +kernel, rfl, by decide +kernel, by decide +kernel⟩
theorem scReadNumber : FnScope ["word", "above", "slash", "below", "top", "value"] ["word"] (defScope sReadNumber) := ⟨rfl, rfl, rfl, by decide +kernel, rfl, by decide +kernel, by decide +kernel⟩
theorem scIsWhole : FnScope ["digits"] ["digits"] (defScope sIsWhole) := ⟨rfl, rfl, rfl, by decide +kernel, rfl, by decide +kernel, by decide +kernel⟩
theorem scInDigits : FnScope ["whole", "block", "parts", "low"] ["whole"] (defScope sInDigits) := ⟨rfl, rfl, rfl, by decide +kernel, rfl, by decide +kernel, by decide +kernel⟩
theorem scCell : FnScope ["script", "k"] ["script", "k"] (defScope sCell) := ⟨rfl, rfl, rfl, by decide +kernel, rfl, by decide +kernel, by decide +kernel⟩
theorem scDraw : FnScope ["script", "k", "sizes", "cell", "drawn", "size", "stirred", "j"] ["script", "k", "sizes"] (defScope sDraw) := ⟨rfl, rfl, rfl, by decide +kernel, rfl, by decide +kernel, by decide +kernel⟩
theorem scF : FnScope ["top", "bottom", "first", "second"] ["top", "bottom"] (defScope sF) := ⟨rfl, rfl, rfl, by decide +kernel, rfl, by decide +kernel, by decide +kernel⟩
theorem scWord : FnScope ["a"] ["a"] (defScope sWord) := ⟨rfl, rfl, rfl, by decide +kernel, rfl, by decide +kernel, by decide +kernel⟩
theorem scDue : FnScope ["word", "minus", "rest", "parts", "part", "sign", "top", "bottom"] ["word"] (defScope sDue) := ⟨rfl, rfl, rfl, by decide +kernel, rfl, by decide +kernel, by decide +kernel⟩
theorem scLaw : FnScope ["script", "k", "digits", "a", "word"] ["script"] (defScope sLaw) := ⟨rfl, rfl, rfl, by decide +kernel, rfl, by decide +kernel, by decide +kernel⟩
/-! ### numbers -/
def Rnum (C : Addr) : List D → Out → Prop := fun ds o => ∃ t b : Int, ds = [.int t, .int b] ∧ b.natAbs < 2 ^ 8999 ∧ (b = 0 → o = .exc ⟨.ref C, []⟩) ∧ (b ≠ 0 → o = .val (dq (Rat.divInt t b)))
theorem b8 {i j : Int} (h1 : i.natAbs < 2 ^ 4000) (h2 : j.natAbs < 2 ^ 4000) : (i * j).natAbs < 2 ^ 8999 := Nat.lt_of_lt_of_le (wide_lt h1 h2) (Nat.pow_le_pow_right Nat.two_pos (show 4000 + 4000 ≤ 8999 by decide))
theorem lt_pow {x a b : Nat} (h : x < 2 ^ a) (hb : a ≤ b := by decide) : x < 2 ^ b := Nat.lt_of_lt_of_le h (Nat.pow_le_pow_right Nat.two_pos hb)
section
variable {P : Program} {w : World} {K : DL.Fg} {mg : Str → Option Value} {base : Heap} {C : Addr}
theorem ok_number {f : Addr} {fd : FuncData} (F : Fun K "number" "number" sNumber f fd) (hm : mg "number" = some (.ref f)) (hb : Binds K fd ["top", "bottom"] []) (mG : mg "gcd" = some (.builtin "math.gcd"))
    (T : ErrOk K mg "NumberError" C [.type "ValueError", .type "Exception", .type "BaseException", .type "object"] "ValueError.__new__") : DefOk P w K mg base (L2.CX P w) 1 "number" (Rnum C) :=
  def_okX F scNumber hm hb (fun ds o ⟨t, b, h, _⟩ => by rw [h]; rfl) fun cdv A outer s H E hr tk po ds o r => by
    obtain ⟨t, b, rfl, hbd, h0, h1⟩ := r
    have hN := scNumber.nd
    refine gs_cons (gs_if (et_eqI (ev_var 1) ev_int) (fun c => ?_) (fun c => ?_))
    · have ho := h0 (of_decide_eq_true c)
      subst ho
      exact gs_cons (gs_raise0 tk PySem.F.excBase_ValueError T rfl)
    · have nb : b ≠ 0 := of_decide_eq_false c
      have ho := h1 nb
      subst ho
      rw [← dq_nrm nb]
      refine gs_nil ?_
      refine gs_cons (gs_if (et_lt (ev_var 1) ev_int) (fun c => ?_) (fun c => ?_))
      · have nb' : b < 0 := of_decide_eq_true c
        refine gs_cons (gs_par 0 1 (ea_cons (ev_neg (ev_var 0)) (ea_cons (ev_neg (ev_var 1)) ea_nil)) ?_)
        refine gs_nil ?_
        refine gs_cons (gs_set 2 (ev_gcd mG (ev_var 0) (ev_var 1)) ?_)
        refine gs_cons (gs_ret (ev_tup (ea_cons (ev_fdiv (ev_var 0) (ev_var 2) (gcd_ok (by omega) (by omega))) (ea_cons (ev_fdiv (ev_var 1) (ev_var 2) (gcd_ok (by omega) (by omega))) ea_nil))) ?_)
        show (PyData.tuple [_, _] : D) = dn (nrm t b)
        rw [Int.natAbs_neg, Int.natAbs_neg]
        unfold dn nrm
        rw [if_pos nb']
      · have nb' : ¬ b < 0 := of_decide_eq_false c
        refine gs_nil ?_
        refine gs_cons (gs_set 2 (ev_gcd mG (ev_var 0) (ev_var 1)) ?_)
        refine gs_cons (gs_ret (ev_tup (ea_cons (ev_fdiv (ev_var 0) (ev_var 2) (gcd_ok (by omega) (by omega))) (ea_cons (ev_fdiv (ev_var 1) (ev_var 2) (gcd_ok (by omega) (by omega))) ea_nil))) ?_)
        show (PyData.tuple [_, _] : D) = dn (nrm t b)
        unfold dn nrm
        rw [if_neg nb']
end
/-! ### the law's draws -/
def Rcell : List D → Out → Prop := fun ds o => ∃ (ns : List Int) (k : Nat), ds = [.list (ns.map .int), .int (k : Int)] ∧ o = .val (.int (ns.getD k 0))
def Rdraw : List D → Out → Prop := fun ds o => ∃ (ns : List Int) (k : Nat) (sizes : List Int), ds = [.list (ns.map .int), .int (k : Int), .list (sizes.map .int)] ∧ (∀ s ∈ sizes, 0 < s ∧ s < 1000000) ∧ sizes.length ≤ 1000 ∧ k ≤ 1000 ∧
  o = .val (.list ((drawL ns k sizes).map .int))
def Rf : List D → Out → Prop := fun ds o => ∃ t b : Int, ds = [.int t, .int b] ∧ b ≠ 0 ∧ b.natAbs < 2 ^ 8999 ∧ o = .val (dq (Rat.divInt t b))
section
variable {P : Program} {w : World} {K : DL.Fg} {mg : Str → Option Value} {base : Heap} {C : Addr}
theorem ok_cell {f : Addr} {fd : FuncData} (F : Fun K "_law_cell" "_law_cell" sCell f fd) (hm : mg "_law_cell" = some (.ref f)) (hb : Binds K fd ["script", "k"] []) (mL : mg "len" = none) : DefOk P w K mg base L2.CX0 1 "_law_cell" Rcell :=
  def_ok F scCell hm hb (fun ds o ⟨a, b, h, _⟩ => by rw [h]; rfl) (fun cdv A outer s H E hr ds d r => by
    obtain ⟨ns, k, rfl, e⟩ := r
    have e' := Out.val.inj e
    subst e'
    refine gs_cons (gs_if (et_lt (ev_var 1) (ev_lenL mL (ev_var 0))) (fun c => ?_) (fun c => ?_))
    · have c' : (k : Int) < ((ns.map PyData.int).length : Nat) := of_decide_eq_true c
      rw [List.length_map] at c'
      have lt : k < ns.length := by omega
      refine gs_cons (gs_ret (ev_ixL (ev_var 0) (ev_var 1) (atI_nat (get_map (List.getElem?_eq_getElem lt)))) ?_)
      show (PyData.int _ : D) = PyData.int _
      rw [List.getD_eq_getElem?_getD, List.getElem?_eq_getElem lt]
      rfl
    · have c' : ¬ (k : Int) < ((ns.map PyData.int).length : Nat) := of_decide_eq_false c
      rw [List.length_map] at c'
      refine gs_nil (gs_cons (gs_ret ev_int ?_))
      show (PyData.int _ : D) = PyData.int _
      rw [List.getD_eq_getElem?_getD, List.getElem?_eq_none (by omega)]
      rfl) fun ds y ⟨_, _, _, e⟩ => Out.noConfusion e
theorem ok_draw {f : Addr} {fd : FuncData} (F : Fun K "_law_draw" "_law_draw" sDraw f fd) (hm : mg "_law_draw" = some (.ref f)) (hb : Binds K fd ["script", "k", "sizes"] []) (mL : mg "len" = none) (mR : mg "range" = none) (Ce : DefOk P w K mg base L2.CX0 1 "_law_cell" Rcell) :
    DefOk P w K mg base L2.CX0 2 "_law_draw" Rdraw :=
  def_ok F scDraw hm hb (fun ds o ⟨a, b, c, h, _⟩ => by rw [h]; rfl) (fun cdv A outer s H E hr ds d r => by
    obtain ⟨ns, k, sizes, rfl, hs, hl, hk, e⟩ := r
    have e' := Out.val.inj e
    subst e'
    have hN := scDraw.nd
    have npos : PassesOwn (model P w) (Xn P w K mg base ["script", "k", "sizes", "cell", "drawn", "size", "stirred", "j"] "_law_draw" sDraw f cdv A outer s H E).A (Xn P w K mg base ["script", "k", "sizes", "cell", "drawn", "size", "stirred", "j"] "_law_draw" sDraw f cdv A outer s H E).env (fun _ _ => False) := PassesOwn.never
    refine gs_cons (gs_set 3 (ev_call Ce hr (ea_cons (ev_var 0) (ea_cons (ev_var 1) ea_nil)) ⟨ns, k, rfl, rfl⟩) ?_)
    show GSs _ _ _ _ [.im (.list (ns.map .int)), .im (.int k), .im (.list (sizes.map .int)), .im (.int (ns.getD k 0)), .no, .no, .no, .no]
    refine gs_cut (fun G => G = [.im (.list (ns.map .int)), .im (.int k), .im (.list (sizes.map .int)), .im (.int (cellAbs ns k)), .no, .no, .no, .no]) (gs_if (et_lt (ev_var 3) ev_int) (fun c => ?_) (fun c => ?_)) ?_
    · refine gs_cons (gs_set 3 (ev_neg (ev_var 3)) (gs_nil ?_))
      show _ = _
      unfold cellAbs
      rw [if_pos (of_decide_eq_true c)]
      rfl
    · refine gs_nil ?_
      show _ = _
      unfold cellAbs
      rw [if_neg (of_decide_eq_false c)]
    rintro G rfl
    refine gs_cons (gs_setN 4 (en_lst ea_nil) ?_)
    have cn := cellAbs_nn (ns := ns) (k := k)
    unfold drawL
    generalize cellAbs ns k = c0 at *
    refine gs_cons (gs_if (et_ge (ev_var 3) (ev_pow ev_int ev_int ⟨by decide, by decide, by decide⟩)) (fun c => ?_) (fun c => ?_))
    · have c' : (10 : Int) ^ (18 : Int).toNat ≤ c0 := of_decide_eq_true c
      rw [if_pos c']
      refine gs_cons (gs_set 3 (ev_sub (ev_var 3) (ev_pow ev_int ev_int ⟨by decide, by decide, by decide⟩)) ?_)
      show GSs _ _ _ _ [.im (.list (ns.map .int)), .im (.int k), .im (.list (sizes.map .int)), .im (.int (c0 - 10 ^ (18 : Int).toNat)), .own [], .no, .no, .no]
      generalize c0 - (10 : Int) ^ (18 : Int).toNat = c1
      refine gs_cut (fun G => ∃ c e, G = [.im (.list (ns.map .int)), .im (.int k), .im (.list (sizes.map .int)), .im (.int c), .own ((bigs c1 sizes).map .int), e, .no, .no])
        (gs_forL 5 (fun i G => ∃ (c : Int) (dr : List Int) (e : Ent), G = [.im (.list (ns.map .int)), .im (.int k), .im (.list (sizes.map .int)), .im (.int c), .own (dr.map .int), e, .no, .no] ∧ dr.length = i ∧ dr ++ bigs c (sizes.drop i) = bigs c1 sizes)
          (ev_var 2) ⟨c1, [], .no, rfl, rfl, rfl⟩ (fun i d G hd ⟨c, dr, e, hG, hlen, hdr⟩ => ?_) (fun G hI => ?_) npos) ?_
      · subst hG
        obtain ⟨x, hx, rfl⟩ := map_get hd
        have mem : x ∈ sizes := List.mem_of_getElem? hx
        have il : i < sizes.length := (List.getElem?_eq_some_iff.mp hx).1
        refine gs_cons (gs_app 4 (ev_mod (ev_var 3) (ev_var 5) (hs x mem).1) ?_ (hl := ?_))
        · refine gs_cons (gs_set 3 (ev_fdiv (ev_var 3) (ev_var 5) (wide_div (b := 20) (hs x mem).1 (by have := hs x mem; omega) (by decide) (by decide))) (gs_nil ?_))
          refine ⟨c / x, dr ++ [c % x], .im (.int x), ?_, ?_, ?_⟩
          · rw [List.map_append]
            rfl
          · rw [List.length_append, hlen]
            rfl
          · rw [← hdr, drop_get hx, List.append_assoc]
            rfl
        · rw [List.length_map]
          exact small1000 (by omega)
      · obtain ⟨c, dr, e, hG, hlen, hdr⟩ := hI
        subst hG
        rw [List.length_map] at hlen hdr
        rw [List.drop_of_length_le (Nat.le_refl _)] at hdr
        refine ⟨c, e, ?_⟩
        rw [← hdr]
        show _ = [_, _, _, _, Ent.own ((dr ++ []).map .int), _, _, _]
        rw [List.append_nil]
      · rintro G ⟨c, e, rfl⟩
        refine gs_keep (i := 4) rfl (gs_cons (gs_ret (ev_var 4) rfl))
    · have c' : ¬ (10 : Int) ^ (18 : Int).toNat ≤ c0 := of_decide_eq_false c
      rw [if_neg c']
      refine gs_nil ?_
      refine gs_cons (gs_set 6 (ev_mod (ev_add (ev_add (ev_var 3) ev_int) (ev_mul ev_int (ev_var 1) (.inl (.inl (by decide))))) ev_int (by decide)) ?_)
      show GSs _ _ _ _ [.im (.list (ns.map .int)), .im (.int k), .im (.list (sizes.map .int)), .im (.int c0), .own [], .no, .im (.int ((c0 + 1 + 31 * k) % 2147483647)), .no]
      have p1 : 0 ≤ (c0 + 1 + 31 * (k : Int)) % 2147483647 := Int.emod_nonneg _ (by decide)
      have p2 : (c0 + 1 + 31 * (k : Int)) % 2147483647 < 2147483647 := Int.emod_lt_of_pos _ (by decide)
      generalize (c0 + 1 + 31 * (k : Int)) % 2147483647 = c1 at *
      refine gs_cut (fun G => ∃ c e, G = [.im (.list (ns.map .int)), .im (.int k), .im (.list (sizes.map .int)), .im (.int c0), .own ((smalls c1 0 sizes).map .int), .no, .im (.int c), e])
        (gs_forR 7 (fun i G => ∃ (c : Int) (dr : List Int) (e : Ent), G = [.im (.list (ns.map .int)), .im (.int k), .im (.list (sizes.map .int)), .im (.int c0), .own (dr.map .int), .no, .im (.int c), e] ∧ dr.length = i ∧ dr ++ smalls c i (sizes.drop i) = smalls c1 0 sizes ∧ 0 ≤ c ∧ c < 2147483647)
          mR (ev_lenL mL (ev_var 2)) (by rw [List.length_map]; omega) ⟨c1, [], .no, rfl, rfl, rfl, p1, p2⟩ (fun i G hi ⟨c, dr, e, hG, hlen, hdr, q1, q2⟩ => ?_) (fun G hI => ?_) npos) ?_
      · subst hG
        rw [List.length_map] at hi
        have il : i < sizes.length := by omega
        have hx : sizes[i]? = some sizes[i] := List.getElem?_eq_getElem il
        have mem : sizes[i] ∈ sizes := List.getElem_mem il
        refine gs_cons (gs_set 6 (ev_mod (ev_add (ev_add (ev_mul (ev_var 6) ev_int (.inl (.inr (by decide)))) ev_int) (ev_var 7)) ev_int (by decide)) ?_)
        refine gs_cons (gs_set 6 (ev_mod (ev_add (ev_mul (ev_var 6) ev_int (.inl (.inr (by decide)))) ev_int) ev_int (by decide)) ?_)
        show GSs _ _ _ _ [.im (.list (ns.map .int)), .im (.int k), .im (.list (sizes.map .int)), .im (.int c0), .own (dr.map .int), .no, .im (.int (st2 c i)), .im (.int i)]
        refine gs_cons (gs_app 4 (ev_mod (ev_fdiv (ev_var 6) ev_int ⟨by decide, by decide⟩) (ev_ixL (ev_var 2) (ev_var 7) (atI_nat (get_map hx))) (hs _ mem).1) ?_ (hl := ?_))
        · refine gs_nil ⟨st2 c i, dr ++ [st2 c i / 7 % sizes[i]], .im (.int i), ?_, ?_, ?_, ?_, ?_⟩
          · rw [List.map_append]
            rfl
          · rw [List.length_append, hlen]
            rfl
          · rw [← hdr, drop_get hx, List.append_assoc]
            rfl
          · exact Int.emod_nonneg _ (by decide)
          · exact Int.emod_lt_of_pos _ (by decide)
        · rw [List.length_map]
          exact small1000 (by omega)
      · obtain ⟨c, dr, e, hG, hlen, hdr, _, _⟩ := hI
        subst hG
        have e0 : ((sizes.map PyData.int).length : Int).toNat = sizes.length := by rw [List.length_map]; omega
        rw [e0] at hlen hdr
        rw [List.drop_of_length_le (Nat.le_refl _)] at hdr
        refine ⟨c, e, ?_⟩
        rw [← hdr]
        show _ = [_, _, _, _, Ent.own ((dr ++ []).map .int), _, _, _]
        rw [List.append_nil]
      · rintro G ⟨c, e, rfl⟩
        refine gs_keep (i := 4) rfl (gs_cons (gs_ret (ev_var 4) rfl))) fun ds y ⟨_, _, _, _, _, _, _, e⟩ => Out.noConfusion e
theorem ok_f {f : Addr} {fd : FuncData} (F : Fun K "_law_f" "_law_f" sF f fd) (hm : mg "_law_f" = some (.ref f)) (hb : Binds K fd ["top", "bottom"] []) (mM : mg "max" = none) : DefOk P w K mg base L2.CX0 1 "_law_f" Rf :=
  def_ok F scF hm hb (fun ds o ⟨a, b, h, _⟩ => by rw [h]; rfl) (fun cdv A outer s H E hr ds d r => by
    obtain ⟨t, b, rfl, hb0, hbb, e⟩ := r
    have e' := Out.val.inj e
    subst e'
    have hN := scF.nd
    have npos : PassesOwn (model P w) (Xn P w K mg base ["top", "bottom", "first", "second"] "_law_f" sF f cdv A outer s H E).A (Xn P w K mg base ["top", "bottom", "first", "second"] "_law_f" sF f cdv A outer s H E).env (fun _ _ => False) := PassesOwn.never
    refine gs_cut (fun G => ∃ t' b' : Int, G = [.im (.int t'), .im (.int b'), .no, .no] ∧ t'.natAbs = t.natAbs ∧ b' = b.natAbs ∧ nrm t b = (t' / (Nat.gcd t.natAbs b.natAbs : Nat), b' / (Nat.gcd t.natAbs b.natAbs : Nat))) (gs_if (et_lt (ev_var 1) ev_int) (fun c => ?_) (fun c => ?_)) ?_
    · have c' : b < 0 := of_decide_eq_true c
      refine gs_cons (gs_set 0 (ev_neg (ev_var 0)) (gs_cons (gs_set 1 (ev_neg (ev_var 1)) (gs_nil ?_))))
      refine ⟨-t, -b, rfl, Int.natAbs_neg t, by omega, ?_⟩
      unfold nrm
      rw [if_pos c']
    · have c' : ¬ b < 0 := of_decide_eq_false c
      refine gs_nil ⟨t, b, rfl, rfl, by omega, ?_⟩
      unfold nrm
      rw [if_neg c']
    rintro G ⟨t', b', rfl, h1, h2, h3⟩
    refine gs_cons (gs_set 2 (ev_max2 mM (ev_var 0) (ev_neg (ev_var 0))) ?_)
    refine gs_cons (gs_set 3 (ev_var 1) ?_)
    have em : (if -t' > t' then -t' else t') = (t.natAbs : Int) := by
      split <;> omega
    show GSs _ _ _ _ [.im (.int t'), .im (.int b'), .im (.int (if -t' > t' then -t' else t')), .im (.int b')]
    rw [em]
    refine gs_cut (fun G => G = [.im (.int t'), .im (.int b'), .im (.int (Nat.gcd t.natAbs b.natAbs : Nat)), .im (.int 0)])
      (gs_while (fun m G => ∃ x y : Nat, G = [.im (.int t'), .im (.int b'), .im (.int x), .im (.int y)] ∧ Nat.gcd x y = Nat.gcd t.natAbs b.natAbs ∧ m = y) b.natAbs ⟨t.natAbs, b.natAbs, by rw [h2], rfl, rfl⟩ (fun m G ⟨x, y, hG, hg, hm⟩ => ?_) npos) ?_
    · subst hG hm
      refine ⟨_, et_neI (ev_var 3) ev_int, fun c => ?_, fun c => ?_⟩
      · have c' : (m : Int) ≠ 0 := by
          intro z
          rw [z] at c
          cases c
        have yp : 0 < m := by omega
        refine gs_cons (gs_par 2 3 (ea_cons (ev_var 3) (ea_cons (ev_mod (ev_var 2) (ev_var 3) (by omega)) ea_nil)) (gs_nil ?_))
        refine ⟨x % m, Nat.mod_lt _ yp, m, x % m, ?_, ?_, rfl⟩
        · rfl
        · rw [← hg, Nat.gcd_comm x m, Nat.gcd_rec m x, Nat.gcd_comm]
      · have c' : (m : Int) = 0 := by
          by_cases z : (m : Int) = 0
          · exact z
          · rw [decide_eq_false z] at c
            cases c
        have y0 : m = 0 := by omega
        subst y0
        rw [Nat.gcd_zero_right] at hg
        rw [hg]
        rfl
    · rintro G rfl
      refine gs_cons (gs_ret (ev_tup (ea_cons (ev_fdiv (ev_var 0) (ev_var 2) (gcd_ok hb0 hbb)) (ea_cons (ev_fdiv (ev_var 1) (ev_var 2) (gcd_ok hb0 hbb)) ea_nil))) ?_)
      show (PyData.tuple [_, _] : D) = dq (Rat.divInt t b)
      rw [← dq_nrm hb0, h3]
      rfl) fun ds y ⟨_, _, _, _, _, e⟩ => Out.noConfusion e
end
end K3

namespace K3
open PySem PySem.Spec PyProof.Rows L2 DL MT
open TL (numL)
open PySem.NumText (AllDigits digitsVal)
section
variable {P : Program} {w : World} {K : DL.Fg} {mg : Str → Option Value} {base : Heap} {C : Addr}
theorem join_one (x : Str) : Txt.join (S []) ([x].reverse) = x := by
  rw [TL.join_eq]
  rfl
theorem log_ok {n : Nat} (h : n < 10 ^ 64) : ((n : Nat) : Int).natAbs.log2 < 1920 := by
  rw [Int.natAbs_natCast]
  exact Nat.lt_of_lt_of_le (PySem.Flt.log2_lt_of (k := 1900) (by decide) (Nat.lt_of_lt_of_le h (by decide +kernel))) (by decide)
theorem small_len {n : Nat} (h : n ≤ 1000) : n ≤ sizeLine := Nat.le_trans h (by decide)
def Rin : List D → Out → Prop := fun ds o => ∃ n : Nat, ds = [.int (n : Int)] ∧ n < 10 ^ 64 ∧ o = .val (.str (S (numL n)))
theorem numL64 {n : Nat} (h : n < 10 ^ 64) : (numL n).length ≤ 64 := TL.numL_len (by decide) h
theorem ok_in {f : Addr} {fd : FuncData} (F : Fun K "_in_digits" "_in_digits" sInDigits f fd) (hm : mg "_in_digits" = some (.ref f)) (hb : Binds K fd ["whole"] []) (mS : mg "str" = none) (mR : mg "reversed" = none) : DefOk P w K mg base L2.CX0 1 "_in_digits" Rin :=
  def_ok F scInDigits hm hb (fun ds o ⟨a, h, _⟩ => by rw [h]; rfl) (fun cdv A outer s H E hr ds d r => by
    obtain ⟨n, rfl, hn, e⟩ := r
    have e' := Out.val.inj e
    subst e'
    have hN := scInDigits.nd
    have npos : PassesOwn (model P w) (Xn P w K mg base ["whole", "block", "parts", "low"] "_in_digits" sInDigits f cdv A outer s H E).A (Xn P w K mg base ["whole", "block", "parts", "low"] "_in_digits" sInDigits f cdv A outer s H E).env (fun _ _ => False) := PassesOwn.never
    refine gs_cons (gs_set 1 (ev_pow ev_int ev_int ⟨by decide, by decide, by decide⟩) ?_)
    refine gs_cons (gs_setN 2 (en_lst ea_nil) ?_)
    show GSs _ _ _ _ [.im (.int n), .im (.int (10 ^ (64 : Int).toNat)), .own [], .no]
    refine gs_cut (fun G => G = [.im (.int n), .im (.int (10 ^ (64 : Int).toNat)), .own [], .no]) (gs_while (fun m G => G = [.im (.int n), .im (.int (10 ^ (64 : Int).toNat)), .own [], .no]) 0 rfl (fun m G hG => ?_) npos) ?_
    · subst hG
      refine ⟨_, et_ge (ev_var 0) (ev_var 1), fun c => ?_, fun _ => rfl⟩
      have c' : (10 : Int) ^ (64 : Int).toNat ≤ (n : Int) := of_decide_eq_true c
      have e1 : (10 : Int) ^ (64 : Int).toNat = ((10 ^ 64 : Nat) : Int) := by decide +kernel
      rw [e1] at c'
      exact absurd hn (by omega)
    rintro G rfl
    refine gs_cons (gs_app 2 (ev_strI mS (ev_var 0) (log_ok hn)) ?_ (hl := by decide))
    show GSs _ _ _ _ [.im (.int n), .im (.int (10 ^ (64 : Int).toNat)), .own [.str (Str.ofString (toString ((n : Nat) : Int)))], .no]
    rw [str_nat]
    have hl := numL64 hn
    refine gs_keep (i := 2) rfl (gs_cons (gs_ret (ev_joinRev (ys := [S (numL n)]) mR ev_str (ev_var 2) (by show ((S (numL n)).length + 0) + 1 * (("" : Str)).length ≤ _; rw [S_len, s_empty, S_len]; show (numL n).length + 0 + 1 * 0 ≤ _; omega)) ?_))
    show (PyData.str _ : D) = PyData.str _
    rw [s_empty, join_one]) fun ds y ⟨_, _, _, e⟩ => Out.noConfusion e
def Rfmt : List D → Out → Prop := fun ds o => ∃ x : Rat, ds = [dq x] ∧ x.num.natAbs < 10 ^ 64 ∧ x.den < 10 ^ 64 ∧ o = .val (.str (S (fmt x)))
theorem ok_format {f : Addr} {fd : FuncData} (F : Fun K "format_number" "format_number" sFormatNumber f fd) (hm : mg "format_number" = some (.ref f)) (hb : Binds K fd ["value"] []) (In : DefOk P w K mg base L2.CX0 1 "_in_digits" Rin) (mA : mg "abs" = none) : DefOk P w K mg base L2.CX0 2 "format_number" Rfmt :=
  def_ok F scFormatNumber hm hb (fun ds o ⟨a, h, _⟩ => by rw [h]; rfl) (fun cdv A outer s H E hr ds d r => by
    obtain ⟨x, rfl, h1, h2, e⟩ := r
    have e' := Out.val.inj e
    subst e'
    have hN := scFormatNumber.nd
    have l1 := numL64 h1
    have l2 := numL64 h2
    refine gs_cons (gs_unpack2 1 2 (ev_var 0) ?_)
    refine gs_cons (gs_set 3 (ev_if (d := .str (S (if x.num < 0 then [45] else []))) (et_lt (ev_var 1) ev_int) (fun c => ?_) (fun c => ?_)) ?_)
    · rw [if_pos (of_decide_eq_true c), ← s_minus]
      exact ev_str
    · rw [if_neg (of_decide_eq_false c), ← s_empty]
      exact ev_str
    refine gs_cons (gs_set 4 (ev_if (d := .str (S (if x.den = 1 then [] else 47 :: numL x.den))) (et_eqI (ev_var 2) ev_int) (fun c => ?_) (fun c => ?_)) ?_)
    · have c' : (x.den : Int) = 1 := of_decide_eq_true c
      rw [if_pos (show x.den = 1 by omega), ← s_empty]
      exact ev_str
    · have c' : ¬ (x.den : Int) = 1 := of_decide_eq_false c
      rw [if_neg (show ¬ x.den = 1 by omega)]
      refine EvD.is (ev_addS ev_str (ev_call In hr (ea_cons (ev_var 2) ea_nil) ⟨x.den, rfl, h2, rfl⟩) ?_) ?_
      · rw [s_slash, S_len, S_len]
        exact small_len (by simp; omega)
      · rw [s_slash, S_app]
        rfl
    refine gs_cons (gs_ret (ev_addS (ev_addS (ev_var 3) (ev_call In hr (ea_cons (EvD.is (ev_abs mA (ev_var 1)) ?_) ea_nil) ⟨x.num.natAbs, rfl, h1, rfl⟩) ?_) (ev_var 4) ?_) ?_)
    · show (PyData.int _ : D) = PyData.int _
      rw [show (if x.num < 0 then -x.num else x.num) = (x.num.natAbs : Int) by split <;> omega]
    · rw [S_len, S_len]
      refine small_len ?_
      split
      · simp; omega
      · simp; omega
    · rw [S_app, S_len, S_len, List.length_append]
      refine small_len ?_
      have a1 : (if x.num < 0 then [45] else ([] : List Nat)).length ≤ 1 := by split <;> simp
      have a2 : (if x.den = 1 then [] else 47 :: numL x.den).length ≤ 65 := by
        split
        · simp
        · rw [List.length_cons]
          omega
      omega
    · show (PyData.str _ : D) = PyData.str _
      rw [S_app, S_app, List.append_assoc]
      rfl) fun ds y ⟨_, _, _, _, e⟩ => Out.noConfusion e
instance decWhole (l : List Nat) : Decidable (Whole l) := inferInstanceAs (Decidable (l ≠ [] ∧ AllDigits l ∧ l.length ≤ 9))
def Rwhole : List D → Out → Prop := fun ds o => ∃ l : List Nat, ds = [.str (S l)] ∧ Alpha l ∧ l.length ≤ 1000 ∧ o = .val (.bool (decide (Whole l)))
theorem ok_whole {t : Tok} {f : Addr} {fd : FuncData} (F : Fun K "_is_whole" "_is_whole" sIsWhole f fd) (hm : mg "_is_whole" = some (.ref f)) (hb : Binds K fd ["digits"] []) (mL : mg "len" = none) (mD : mg "DIGITS" = some (.int 9 t)) : DefOk P w K mg base L2.CX0 1 "_is_whole" Rwhole :=
  def_ok F scIsWhole hm hb (fun ds o ⟨a, h, _⟩ => by rw [h]; rfl) (fun cdv A outer s H E hr ds d r => by
    obtain ⟨l, rfl, hA, hl, e⟩ := r
    have e' := Out.val.inj e
    subst e'
    refine gs_cons (gs_ret (ev_andV (ev_isdecimal (ev_var 0)) (fun _ => ev_one (ev_le (ev_lenS mL (ev_var 0) (by rw [S_len]; exact small_len hl)) (ev_glob (d := .int 9) mD (.int 9) ⟨t, rfl⟩ fun _ => .int 9)))) ?_)
    show (PyData.bool _ : D) = PyData.bool _
    rw [isdecimal_S hA, S_len, ← Bool.decide_and]
    refine congrArg _ (decide_eq_decide.mpr ⟨fun z => ⟨z.1.1, z.1.2, by have := z.2; omega⟩, fun z => ⟨⟨z.1, z.2.1⟩, by have := z.2.2; omega⟩⟩)) fun ds y ⟨_, _, _, _, e⟩ => Out.noConfusion e
end
end K3

namespace K3
open PySem PySem.Spec PyProof.Rows L2 DL MT
open TL (numL)
open PySem.NumText (AllDigits digitsVal)
section
variable {P : Program} {w : World} {K : DL.Fg} {mg : Str → Option Value} {base : Heap} {C : Addr}
def Rread : List D → Out → Prop := fun ds o => ∃ l : List Nat, ds = [.str (S l)] ∧ Alpha l ∧ l.length ≤ 600 ∧ o = .val (optD (rd l))
theorem cut_len {l A B : List Nat} (h : Cut l A B) (hA : Alpha l) (hl : l.length ≤ 600) : Alpha A ∧ Alpha B ∧ A.length ≤ 600 ∧ B.length ≤ 601 := by
  have h1 := body_alpha hA
  have h2 := body_len l
  rcases h with ⟨e, _, e2⟩ | ⟨e, _⟩
  · rw [e] at h1 h2
    refine ⟨h1, ?_, by omega, by rw [e2]; simp⟩
    rw [e2]
    exact fun c hc => .inr (.inr (by rw [List.mem_singleton.mp hc]; decide))
  · rw [e] at h1 h2
    rw [List.length_append, List.length_cons] at h2
    have h3 := h1.of_app
    exact ⟨h3.1, h3.2.tail, by omega, by omega⟩
theorem of_nf {b : Bool} (h : (!b) = false) : b = true := by
  cases b with
  | true => rfl
  | false => cases h
theorem ten9 : (10 : Nat) ^ 9 < 10 ^ 64 := by decide +kernel
theorem ok_read {f : Addr} {fd : FuncData} (F : Fun K "read_number" "read_number" sReadNumber f fd) (hm : mg "read_number" = some (.ref f)) (hb : Binds K fd ["word"] []) (Nm : DefOk P w K mg base (L2.CX P w) 1 "number" (Rnum C)) (Fo : DefOk P w K mg base L2.CX0 2 "format_number" Rfmt)
    (Wh : DefOk P w K mg base L2.CX0 1 "_is_whole" Rwhole) (mI : mg "int" = none) : DefOk P w K mg base L2.CX0 3 "read_number" Rread :=
  def_ok F scReadNumber hm hb (fun ds o ⟨a, h, _⟩ => by rw [h]; rfl) (fun cdv A outer s H E hr ds d r => by
    obtain ⟨l, rfl, hA, hl, e⟩ := r
    have e' := Out.val.inj e
    subst e'
    have hN := scReadNumber.nd
    refine gs_cut (fun G => ∃ A B s : List Nat, G = [.im (.str (S l)), .im (.str (S A)), .im (.str (S s)), .im (.str (S B)), .no, .no] ∧ ((body l = A ∧ 47 ∉ A ∧ s = []) ∨ (body l = A ++ 47 :: B ∧ 47 ∉ A ∧ s = [47])))
      (gs_unpack3 1 2 3 (ev_partition (ev_removeprefix (ev_var 0) ev_str (by rw [S_len]; exact small_len (by omega))) ev_str (by decide +kernel) (by rw [s_minus, removeprefix_S, S_len]; exact small_len (by have := body_len l; omega))) ?_) ?_
    · show ∃ A B s : List Nat, ([_, _, _, _, _, _] : Gam) = _ ∧ _
      rw [s_minus, s_slash, removeprefix_S]
      rcases first_slash (body l) with h | ⟨p, q, h, hp⟩
      · rw [par_no h]
        exact ⟨body l, [], [], rfl, .inl ⟨rfl, h, rfl⟩⟩
      · rw [h, par_two hp]
        exact ⟨p, q, [47], rfl, .inr ⟨rfl, hp, rfl⟩⟩
    rintro G ⟨A, B, sl, rfl, hcut⟩
    refine gs_cut (fun G => ∃ A B s : List Nat, G = [.im (.str (S l)), .im (.str (S A)), .im (.str (S s)), .im (.str (S B)), .no, .no] ∧ Cut l A B)
      (gs_if (et_not (et_truS (ev_var 2) (by rw [S_len]; rcases hcut with h | h <;> rw [h.2.2] <;> decide))) (fun c => ?_) (fun c => ?_)) ?_
    · rw [S_len] at c
      rcases hcut with ⟨h1, h2, h3⟩ | ⟨h1, h2, h3⟩
      · exact gs_cons (gs_set 3 ev_str (gs_nil ⟨A, [49], sl, by rw [← s_one]; rfl, .inl ⟨h1, h2, rfl⟩⟩))
      · rw [h3] at c
        cases c
    · rw [S_len] at c
      rcases hcut with ⟨h1, h2, h3⟩ | ⟨h1, h2, h3⟩
      · rw [h3] at c
        cases c
      · exact gs_nil ⟨A, B, sl, rfl, .inr ⟨h1, h2⟩⟩
    clear hcut
    rintro G ⟨A, B, sl, rfl, hcut⟩
    obtain ⟨aA, aB, lA, lB⟩ := cut_len hcut hA hl
    refine gs_cons (gs_if (et_w (ew_or (q := !decide (Whole B) || decide ((digitsVal B : Int) = 0)) (et_not (et_val (ev_call Wh hr (ea_cons (ev_var 1) ea_nil) ⟨A, rfl, aA, by omega, rfl⟩)))
      (fun _ => ew_or (q := decide ((digitsVal B : Int) = 0)) (et_not (et_val (ev_call Wh hr (ea_cons (ev_var 3) ea_nil) ⟨B, rfl, aB, by omega, rfl⟩)))
        (fun h2 => ew_or1 (et_eqI (ev_intS mI (ev_var 3) (int_S (of_decide_eq_true (of_nf h2)).2.1 (of_decide_eq_true (of_nf h2)).1 (by omega)) (by rw [S_len]; omega)) ev_int))))) (fun c => ?_) (fun c => ?_))
    · rw [rd_bad hcut]
      · exact gs_cons (gs_ret ev_non rfl)
      · rintro ⟨h1, h2, h3⟩
        rw [decide_eq_true h1, decide_eq_true h2, decide_eq_false (by omega)] at c
        cases c
    · refine gs_nil ?_
      obtain ⟨hWA, hWB, h0⟩ : Whole A ∧ Whole B ∧ digitsVal B ≠ 0 := by
        rw [Bool.or_eq_false_iff, Bool.or_eq_false_iff, Bool.not_eq_false', Bool.not_eq_false'] at c
        exact ⟨of_decide_eq_true c.1, of_decide_eq_true c.2.1, fun z => of_decide_eq_false c.2.2 (by omega)⟩
      have ia : PySem.intText? (S A) = some ((digitsVal A : Nat) : Int) := int_S hWA.2.1 hWA.1 (by omega)
      have ib : PySem.intText? (S B) = some ((digitsVal B : Nat) : Int) := int_S hWB.2.1 hWB.1 (by omega)
      refine gs_cons (gs_set 4 (ev_if (d := .int (if isNeg l then -(digitsVal A : Int) else (digitsVal A : Int))) (et_val (ev_startswith (ev_var 0) ev_str)) (fun c => ?_) (fun c => ?_)) ?_)
      · rw [s_minus, startswith_S] at c
        rw [if_pos c]
        exact ev_neg (ev_intS mI (ev_var 1) ia (by rw [S_len]; omega))
      · rw [s_minus, startswith_S] at c
        rw [c, if_neg Bool.false_ne_true]
        exact ev_intS mI (ev_var 1) ia (by rw [S_len]; omega)
      have lB9 := whole_lt hWB
      refine gs_cons (gs_set 5 (ev_call Nm hr (ea_cons (ev_var 4) (ea_cons (ev_intS mI (ev_var 3) ib (by rw [S_len]; omega)) ea_nil)) ⟨_, _, rfl, Nat.lt_of_lt_of_le (show (digitsVal B : Int).natAbs < 2 ^ 30 by omega) (Nat.pow_le_pow_right Nat.two_pos (by decide)), fun z => absurd z (by omega), fun _ => rfl⟩) ?_)
      show GSs _ _ _ _ [_, _, _, _, _, .im (dq (rdY l A B))]
      have hnine := rdY_nine (l := l) hWA hWB h0
      refine gs_cons (gs_ret (d := optD (rd l)) (ev_if (et_eqS (ev_call Fo hr (ea_cons (ev_var 5) ea_nil) ⟨rdY l A B, rfl, Nat.lt_trans hnine.1 ten9, Nat.lt_trans hnine.2 ten9, rfl⟩) (ev_var 0)) (fun c => ?_) (fun c => ?_)) rfl)
      · have c' := S_inj (of_decide_eq_true c)
        have e2 : rd l = some (rdY l A B) := by
          rw [← rd_fmt hnine, c']
        rw [e2]
        exact ev_var 5
      · rw [rd_other hcut fun z => of_decide_eq_false c (by rw [z])]
        exact ev_non) fun ds y ⟨_, _, _, _, e⟩ => Out.noConfusion e
/-- the law's own way of writing -/
def Rword : List D → Out → Prop := fun ds o => ∃ x : Rat, ds = [dq x] ∧ x.num.natAbs < 10 ^ 64 ∧ x.den < 10 ^ 64 ∧ o = .val (.str (S (fmt x)))
theorem str_num {x : Rat} : Str.ofString (toString x.num) = S ((if x.num < 0 then [45] else []) ++ numL x.num.natAbs) := by
  by_cases c : x.num < 0
  · rw [if_pos c]
    have h := str_neg x.num.natAbs (by omega)
    rw [show -((x.num.natAbs : Nat) : Int) = x.num by omega] at h
    exact h
  · rw [if_neg c]
    have h := str_nat x.num.natAbs
    rw [show ((x.num.natAbs : Nat) : Int) = x.num by omega] at h
    exact h
theorem log_num {x : Rat} (h : x.num.natAbs < 10 ^ 64) : x.num.natAbs.log2 < 1920 := by
  have := log_ok h
  rw [Int.natAbs_natCast] at this
  exact this
theorem ok_word {f : Addr} {fd : FuncData} (F : Fun K "_law_word" "_law_word" sWord f fd) (hm : mg "_law_word" = some (.ref f)) (hb : Binds K fd ["a"] []) (mS : mg "str" = none) : DefOk P w K mg base L2.CX0 1 "_law_word" Rword :=
  def_ok F scWord hm hb (fun ds o ⟨a, h, _⟩ => by rw [h]; rfl) (fun cdv A outer s H E hr ds d r => by
    obtain ⟨x, rfl, h1, h2, e⟩ := r
    have e' := Out.val.inj e
    subst e'
    have l1 := numL64 h1
    have l2 := numL64 h2
    have a1 : (if x.num < 0 then [45] else ([] : List Nat)).length ≤ 1 := by split <;> simp
    refine gs_cons (gs_if (et_eqI (ev_ixT (ev_var 0) ev_int rfl) ev_int) (fun c => ?_) (fun c => ?_))
    · have c' : (x.den : Int) = 1 := of_decide_eq_true c
      refine gs_cons (gs_ret (ev_strI mS (ev_ixT (ev_var 0) ev_int rfl) (log_num h1)) ?_)
      show (PyData.str _ : D) = PyData.str _
      rw [str_num]
      unfold fmt
      rw [if_pos (show x.den = 1 by omega), List.append_nil]
    · have c' : ¬ (x.den : Int) = 1 := of_decide_eq_false c
      refine gs_nil (gs_cons (gs_ret (ev_addS (ev_addS (ev_strI mS (ev_ixT (ev_var 0) ev_int rfl) (log_num h1)) ev_str ?_) (ev_strI mS (ev_ixT (ev_var 0) ev_int rfl) (log_ok h2)) ?_) ?_))
      · rw [str_num, s_slash, S_len, S_len, List.length_append]
        exact small_len (by simp; omega)
      · rw [str_num, s_slash, str_nat, S_app, S_len, S_len, List.length_append, List.length_append]
        exact small_len (by simp; omega)
      · show (PyData.str _ : D) = PyData.str _
        rw [str_num, s_slash, str_nat, S_app, S_app]
        unfold fmt
        rw [if_neg (show ¬ x.den = 1 by omega), List.append_assoc, List.append_assoc]
        rfl) fun ds y ⟨_, _, _, _, e⟩ => Out.noConfusion e
end
end K3

namespace K3
open PySem PySem.Spec PyProof.Rows L2 DL MT
open TL (numL)
open PySem.NumText (AllDigits digitsVal)
section
variable {P : Program} {w : World} {K : DL.Fg} {mg : Str → Option Value} {base : Heap} {C : Addr}
theorem map_getS {xs : List (List Nat)} {i : Nat} {d : D} (h : ((xs.map S).map PyData.str)[i]? = some d) : ∃ x, xs[i]? = some x ∧ d = .str (S x) := by
  rw [List.getElem?_map, List.getElem?_map] at h
  cases e : xs[i]? with
  | none => rw [e] at h; cases h
  | some x => rw [e] at h; exact ⟨x, rfl, (Option.some.inj h).symm⟩
theorem get_mapS {xs : List (List Nat)} {i : Nat} {x : List Nat} (h : xs[i]? = some x) : ((xs.map S).map PyData.str)[i]? = some (.str (S x)) := by
  rw [List.getElem?_map, List.getElem?_map, h]
  rfl
theorem s_digits : ("0123456789" : Str).cps.toList = [48, 49, 50, 51, 52, 53, 54, 55, 56, 57] := by decide +kernel
theorem s_nought : ("0" : Str) = S [48] := by decide +kernel
theorem mem_digits (c : Nat) : c ∈ ("0123456789" : Str).cps.toList ↔ 48 ≤ c ∧ c ≤ 57 := by
  rw [s_digits]
  constructor
  · intro h
    simp only [List.mem_cons, List.not_mem_nil, or_false] at h
    omega
  · intro h
    simp only [List.mem_cons, List.not_mem_nil, or_false]
    omega
theorem ok_due {f : Addr} {fd : FuncData} (F : Fun K "_law_due" "_law_due" sDue f fd) (hm : mg "_law_due" = some (.ref f)) (hb : Binds K fd ["word"] []) (Lf : DefOk P w K mg base L2.CX0 1 "_law_f" Rf) (mI : mg "int" = none) (mL : mg "len" = none) : DefOk P w K mg base L2.CX0 2 "_law_due" Rread :=
  def_ok F scDue hm hb (fun ds o ⟨a, h, _⟩ => by rw [h]; rfl) (fun cdv A outer s H E hr ds d r => by
    obtain ⟨l, rfl, hA, hl, e⟩ := r
    have e' := Out.val.inj e
    subst e'
    have hN := scDue.nd
    have hu : (Xn P w K mg base ["word", "minus", "rest", "parts", "part", "sign", "top", "bottom"] "_law_due" sDue f cdv A outer s H E).A.units + 64 < cLine := hr.units
    have npos : PassesOwn (model P w) (Xn P w K mg base ["word", "minus", "rest", "parts", "part", "sign", "top", "bottom"] "_law_due" sDue f cdv A outer s H E).A (Xn P w K mg base ["word", "minus", "rest", "parts", "part", "sign", "top", "bottom"] "_law_due" sDue f cdv A outer s H E).env (fun _ _ => False) := PassesOwn.never
    have hL : (S l).length ≤ sizeLine := by rw [S_len]; exact small_len (by omega)
    have bl := body_len l
    have none_ret : ∀ {G : Gam} {st : Stmt} {k : Nat} {pos : Pos}, rd l = none → (outFin (.val (optD (rd l)))).rt .none := fun h => by rw [h]; rfl
    refine gs_cons (gs_set 1 (EvD.is (d' := .bool (isNeg l)) (ev_eqS (ev_slS (ev_var 0) eo_none (eo_some ev_int) hL) ev_str) (by rw [cut_head, s_minus, head_eq])) ?_)
    refine gs_cons (gs_set 2 (ev_var 0) ?_)
    refine gs_cut (fun G => G = [.im (.str (S l)), .im (.bool (isNeg l)), .im (.str (S (body l))), .no, .no, .no, .no, .no]) (gs_if (et_val (ev_var 1)) (fun c => ?_) (fun c => ?_)) ?_
    · refine gs_cons (gs_set 2 (EvD.is (d' := .str (S (body l))) (ev_slS (ev_var 0) (eo_some ev_int) eo_none hL) (by rw [cut_tail, body_drop l c])) (gs_nil rfl))
    · refine gs_nil ?_
      rw [body_same l c]
      rfl
    rintro G rfl
    refine gs_cons (gs_setN 3 (en_split (ev_var 2) ev_str (by decide +kernel) (by rw [S_len]; exact Nat.le_trans (show (body l).length + 2 ≤ 1000 by omega) (by decide))) ?_)
    show GSs _ _ _ _ [.im (.str (S l)), .im (.bool (isNeg l)), .im (.str (S (body l))), .own ((Txt.split (S (body l)) ("/" : Str)).map .str), .no, .no, .no, .no]
    rw [s_slash, split_S]
    refine gs_keep (i := 3) rfl ?_
    show GSs _ _ _ _ [.im (.str (S l)), .im (.bool (isNeg l)), .im (.str (S (body l))), .im (.list (((sp (body l)).map S).map .str)), .no, .no, .no, .no]
    have hlen : (((sp (body l)).map S).map PyData.str).length = (sp (body l)).length := by rw [List.length_map, List.length_map]
    refine gs_cons (gs_if (et_gt (ev_lenL mL (ev_var 3)) ev_int) (fun c => ?_) (fun c => ?_))
    · have c' := of_decide_eq_true c
      rw [hlen] at c'
      exact gs_cons (gs_ret ev_non (by rw [rd_long (by omega)]; rfl))
    have hl2 : (sp (body l)).length ≤ 2 := by
      have c' := of_decide_eq_false c
      rw [hlen] at c'
      omega
    refine gs_nil ?_
    refine gs_cut (fun G => ∃ e4 e5 : Ent, G = [.im (.str (S l)), .im (.bool (isNeg l)), .im (.str (S (body l))), .im (.list (((sp (body l)).map S).map .str)), e4, e5, .no, .no] ∧ ∀ p ∈ sp (body l), GoodP p)
      (gs_forL 4 (fun i G => ∃ e4 e5 : Ent, G = [.im (.str (S l)), .im (.bool (isNeg l)), .im (.str (S (body l))), .im (.list (((sp (body l)).map S).map .str)), e4, e5, .no, .no] ∧ ∀ p ∈ (sp (body l)).take i, GoodP p)
        (ev_var 3) ⟨.no, .no, rfl, fun p h => by cases h⟩ (fun i d G hd ⟨e4, e5, hG, hgood⟩ => ?_) (fun G hI => ?_) npos) ?_
    · subst hG
      obtain ⟨p, hp, rfl⟩ := map_getS hd
      have mem : p ∈ sp (body l) := List.mem_of_getElem? hp
      have alp : Alpha p := fun c hc => body_alpha hA c (sp_sub _ p mem c hc)
      have plen : p.length ≤ 600 := by
        have hj := sp_join (body l)
        have : ∀ ps : List (List Nat), p ∈ ps → p.length ≤ (TL.joinL [47] ps).length := by
          intro ps
          induction ps with
          | nil => intro h; cases h
          | cons q r ih =>
            intro h
            cases r with
            | nil =>
              rw [List.mem_singleton.mp h]
              exact Nat.le_refl _
            | cons q2 r =>
              show _ ≤ (q ++ ([47] ++ TL.joinL [47] (q2 :: r))).length
              rw [List.length_append, List.length_append]
              rcases List.mem_cons.mp h with h | h
              · rw [h]
                omega
              · have := ih h
                omega
        have := this _ mem
        rw [hj] at this
        omega
      have hLp : (S p).length ≤ sizeLine := by rw [S_len]; exact small_len (by omega)
      have bad : ¬ GoodP p → rd l = none := fun h => rd_part mem h
      refine gs_cons (gs_if (et_w (ew_or (et_eqS (ev_var 4) ev_str) (fun _ => ew_or1 (et_gt (ev_lenS mL (ev_var 4) hLp) ev_int)))) (fun c => ?_) (fun c => ?_))
      · refine gs_cons (gs_ret ev_non ?_)
        rw [bad fun g => ?_]
        · rfl
        · rw [s_empty, decide_eq_false fun z => g.1.1 (S_inj z), S_len, decide_eq_false (by have := g.2; omega)] at c
          cases c
      refine gs_nil ?_
      obtain ⟨p0, p9⟩ : p ≠ [] ∧ p.length ≤ 9 := by
        rw [Bool.or_eq_false_iff, s_empty, S_len] at c
        exact ⟨fun z => of_decide_eq_false c.1 (by rw [z]), by have := of_decide_eq_false c.2; omega⟩
      refine gs_cut (fun G => ∃ e5 : Ent, G = [.im (.str (S l)), .im (.bool (isNeg l)), .im (.str (S (body l))), .im (.list (((sp (body l)).map S).map .str)), .im (.str (S p)), e5, .no, .no] ∧ AllDigits p)
        (gs_forS 5 (fun k G => ∃ e5 : Ent, G = [.im (.str (S l)), .im (.bool (isNeg l)), .im (.str (S (body l))), .im (.list (((sp (body l)).map S).map .str)), .im (.str (S p)), e5, .no, .no] ∧ AllDigits (p.take k))
          (ev_var 4) ⟨e5, rfl, fun c h => by cases h⟩ (fun k c G hc ⟨e5, hG, hdig⟩ => ?_) (fun G hI => ?_) npos) ?_
      · subst hG
        rw [S_cps] at hc
        refine gs_cons (gs_if (et_notInS (ev_var 5) ev_str) (fun z => ?_) (fun z => ?_))
        · refine gs_cons (gs_ret ev_non ?_)
          rw [bad fun g => ?_]
          · rfl
          · have hd := g.1.2.1 c (List.mem_of_getElem? hc)
            rw [decide_eq_true ((mem_digits c).mpr hd)] at z
            cases z
        · refine gs_nil (gs_nil ⟨_, rfl, ?_⟩)
          have hd : 48 ≤ c ∧ c ≤ 57 := (mem_digits c).mp (of_decide_eq_true (of_nf z))
          rw [List.take_add_one, hc]
          intro x hx
          rcases List.mem_append.mp hx with hx | hx
          · exact hdig x hx
          · rw [List.mem_singleton.mp hx]
            exact hd
      · obtain ⟨e5, hG, hdig⟩ := hI
        rw [S_cps, List.take_length] at hdig
        exact ⟨e5, hG, hdig⟩
      rintro G ⟨e5', rfl, hdig⟩
      obtain ⟨p1, pr, ep⟩ : ∃ p1 pr, p = p1 :: pr := by
        cases p with
        | nil => exact absurd rfl p0
        | cons a b => exact ⟨a, b, rfl⟩
      refine gs_cons (gs_if (et_w (ew_and (et_eqS (ev_ixS (n := p1) (ev_var 4) ev_int (by rw [S_cps, ep]; exact atI_nat (j := 0) rfl) hLp) ev_str) (fun _ => ew_and1 (et_neS (ev_var 4) ev_str)))) (fun c => ?_) (fun c => ?_))
      · refine gs_cons (gs_ret ev_non ?_)
        rw [bad fun g => ?_]
        · rfl
        · rw [Bool.and_eq_true, s_nought] at c
          have c1 : S [p1] = S [48] := of_decide_eq_true c.1
          have c2 := List.cons.inj (S_inj c1)
          have g3 := g.1.2.2 (by rw [ep, c2.1]; rfl)
          rw [g3] at c
          have c3 := c.2
          rw [decide_eq_true rfl] at c3
          cases c3
      · refine gs_nil (gs_nil ⟨_, _, rfl, ?_⟩)
        rw [List.take_add_one, hp]
        intro q hq
        rcases List.mem_append.mp hq with hq | hq
        · exact hgood q hq
        · rw [List.mem_singleton.mp hq]
          refine ⟨⟨p0, hdig, fun h => ?_⟩, p9⟩
          rw [ep] at h
          have h1 : p1 = 48 := Option.some.inj h
          rw [s_nought] at c
          rw [show decide ((⟨#[p1]⟩ : Str) = S [48]) = true from decide_eq_true (by rw [h1]; rfl), Bool.true_and] at c
          have := of_decide_eq_true (of_nf c)
          exact S_inj this
    · obtain ⟨e4, e5, hG, hgood⟩ := hI
      rw [hlen, List.take_length] at hgood
      exact ⟨e4, e5, hG, hgood⟩
    rintro G ⟨e4, e5, rfl, hgood⟩
    -- top, bottom
    refine gs_cut (fun G => ∃ (n b : Nat) (e4 e5 : Ent), G = [.im (.str (S l)), .im (.bool (isNeg l)), .im (.str (S (body l))), .im (.list (((sp (body l)).map S).map .str)), e4, e5, .im (.int n), .no] ∧ ((∃ p, sp (body l) = [p] ∧ GoodP p ∧ n = digitsVal p) ∨ (∃ p q, sp (body l) = [p, q] ∧ GoodP p ∧ GoodP q ∧ n = digitsVal p)))
      (gs_set 6 (d := .int ((digitsVal ((sp (body l)).headD []) : Nat) : Int)) ?_ ?_) ?_
    · cases es : sp (body l) with
      | nil => exact absurd es (sp_ne _)
      | cons p r =>
        rw [es] at hgood
        have g := hgood p List.mem_cons_self
        exact ev_intS (s := S p) mI (ev_ixL (d := .str (S p)) (ev_var 3) ev_int (atI_nat (j := 0) rfl)) (int_S (l := p) g.1.2.1 g.1.1 (by have := g.2; omega)) (by rw [S_len]; have := g.2; omega)
    · refine ⟨digitsVal ((sp (body l)).headD []), 1, e4, e5, rfl, ?_⟩
      cases es : sp (body l) with
      | nil => exact absurd es (sp_ne _)
      | cons p r =>
        rw [es] at hgood hl2
        cases r with
        | nil => exact .inl ⟨p, rfl, hgood p List.mem_cons_self, rfl⟩
        | cons q r =>
          cases r with
          | nil => exact .inr ⟨p, q, rfl, hgood p List.mem_cons_self, hgood q (List.mem_cons_of_mem _ List.mem_cons_self), rfl⟩
          | cons _ _ => simp at hl2
    rintro G ⟨n, _, e4', e5', rfl, hpar⟩
    refine gs_cons (gs_set 7 ev_int ?_)
    refine gs_cut (fun G => ∃ (b : Nat) (e4 e5 : Ent), G = [.im (.str (S l)), .im (.bool (isNeg l)), .im (.str (S (body l))), .im (.list (((sp (body l)).map S).map .str)), e4, e5, .im (.int n), .im (.int b)] ∧ Par l n b ∧ ((∃ p q, sp (body l) = [p, q]) → 2 ≤ b))
      (gs_if (et_eqI (ev_lenL mL (ev_var 3)) ev_int) (fun c => ?_) (fun c => ?_)) ?_
    · have c' := of_decide_eq_true c
      rw [hlen] at c'
      rcases hpar with ⟨p, es, _⟩ | ⟨p, q, es, gp, gq, hn⟩
      · rw [es] at c'
        simp at c'
      · have iq : PySem.intText? (S q) = some ((digitsVal q : Nat) : Int) := int_S gq.1.2.1 gq.1.1 (by have := gq.2; omega)
        refine gs_cons (gs_set 7 (d := .int ((digitsVal q : Nat) : Int)) ?_ ?_)
        · refine ev_intS mI (ev_ixL (d := .str (S q)) (ev_var 3) ev_int ?_) iq (by rw [S_len]; have := gq.2; omega)
          rw [es]
          rfl
        refine gs_cons (gs_if (et_lt (ev_var 7) ev_int) (fun c => ?_) (fun c => ?_))
        · refine gs_cons (gs_ret ev_non ?_)
          rw [rd_small (n := n) (b := digitsVal q) (.inr ⟨p, q, es, gp, gq, hn, rfl⟩) ⟨p, q, es⟩ (by have := of_decide_eq_true c; omega)]
          rfl
        · exact gs_nil (gs_nil ⟨digitsVal q, _, _, rfl, .inr ⟨p, q, es, gp, gq, hn, rfl⟩, fun _ => by have := of_decide_eq_false c; omega⟩)
    · have c' := of_decide_eq_false c
      rw [hlen] at c'
      rcases hpar with ⟨p, es, gp, hn⟩ | ⟨p, q, es, gp, gq, hn⟩
      · exact gs_nil ⟨1, _, _, rfl, .inl ⟨p, es, gp, hn, rfl⟩, fun ⟨p', q', h⟩ => by
          rw [es] at h
          cases (List.cons.inj h).2⟩
      · rw [es] at c'
        exact absurd rfl c'
    rintro G ⟨b, e4'', e5'', rfl, hPar, hb2⟩
    refine gs_cons (gs_if (et_w (ew_and (et_val (ev_var 1)) (fun _ => ew_and1 (et_eqI (ev_var 6) ev_int)))) (fun c => ?_) (fun c => ?_))
    · rw [Bool.and_eq_true] at c
      refine gs_cons (gs_ret ev_non ?_)
      rw [rd_zero hPar c.1 (by have := of_decide_eq_true c.2; omega)]
      rfl
    refine gs_nil ?_
    have hmn : isNeg l = true → n ≠ 0 := fun h z => by
      rw [h, Bool.true_and] at c
      exact of_decide_eq_false c (by omega)
    have hbz : (b : Int) ≠ 0 ∧ b < 10 ^ 9 := by
      rcases hPar with ⟨p, es, gp, _, h⟩ | ⟨p, q, es, gp, gq, _, h⟩
      · rw [h]
        exact ⟨by decide, by decide⟩
      · have := hb2 ⟨p, q, es⟩
        have h2 := whole_lt ⟨gq.1.1, gq.1.2.1, gq.2⟩
        exact ⟨by omega, by omega⟩
    refine gs_cons (gs_if (et_ne hu (ev_call Lf hr (ea_cons (ev_var 6) (ea_cons (ev_var 7) ea_nil)) ⟨_, _, rfl, hbz.1, Nat.lt_of_lt_of_le (show ((b : Nat) : Int).natAbs < 2 ^ 30 by omega) (Nat.pow_le_pow_right Nat.two_pos (by decide)), rfl⟩) (ev_tup (ea_cons (ev_var 6) (ea_cons (ev_var 7) ea_nil))) rfl rfl) (fun c => ?_) (fun c => ?_))
    · refine gs_cons (gs_ret ev_non ?_)
      rw [rd_high hPar fun h => ?_]
      · rfl
      · have e2 : dq (Rat.divInt (n : Int) (b : Int)) = .tuple [.int n, .int b] := by
          unfold dq
          rw [h.1, h.2]
        rw [e2, SeqAt.eqv_refl _ rfl] at c
        cases c
    refine gs_nil ?_
    have hlow : Low n b := by
      have e2 : PyData.eqv (dq (Rat.divInt (n : Int) (b : Int))) (.tuple [.int n, .int b]) = ((Rat.divInt (n : Int) (b : Int)).num == (n : Int) && ((((Rat.divInt (n : Int) (b : Int)).den : Nat) : Int) == (b : Int) && true)) := by
        unfold dq
        simp only [PyData.eqv, PyData.eqvAll]
      have c2 := of_nf c
      rw [e2, Bool.and_eq_true, Bool.and_true, beq_iff_eq, beq_iff_eq] at c2
      exact ⟨c2.1, by omega⟩
    obtain ⟨y, hy1, hy2, hy3⟩ := rd_good hPar hb2 hmn hlow
    refine gs_cut (fun G => ∃ (e4 e5 : Ent), G = [.im (.str (S l)), .im (.bool (isNeg l)), .im (.str (S (body l))), .im (.list (((sp (body l)).map S).map .str)), e4, e5, .im (.int (if isNeg l then -(n : Int) else (n : Int))), .im (.int b)])
      (gs_if (et_val (ev_var 1)) (fun c => ?_) (fun c => ?_)) ?_
    · refine gs_cons (gs_set 6 (ev_neg (ev_var 6)) (gs_nil ⟨e4'', e5'', ?_⟩))
      rw [if_pos c]
      rfl
    · refine gs_nil ⟨e4'', e5'', ?_⟩
      rw [if_neg (by rw [c]; exact Bool.false_ne_true)]
    rintro G ⟨e4, e5, rfl⟩
    refine gs_cons (gs_ret (ev_tup (ea_cons (ev_var 6) (ea_cons (ev_var 7) ea_nil))) ?_)
    show (PyData.tuple [_, _] : D) = optD (rd l)
    rw [hy1]
    show _ = dq y
    unfold dq
    rw [hy2, hy3]) fun ds y ⟨_, _, _, _, e⟩ => Out.noConfusion e
end
end K3

namespace K3
open PySem PySem.Spec PyProof.Rows L2 DL MT
open TL (numL)
open PySem.NumText (AllDigits digitsVal)
theorem scLawN : FnScope ["script", "k", "digits", "a", "word", "digit"] ["script"] (defScope sLaw) := ⟨rfl, rfl, rfl, by decide +kernel, rfl, by decide +kernel, by decide +kernel⟩
theorem star_const {c : Const} {k : Nat} {p : Pos} {es : List Expr} {env : Env} : starEach (.Constant c k p :: es) env = (false, eval (.Constant c k p) env) :: starEach es env := rfl
theorem ea_str {X : Cx} {G : Gam} {es : List Expr} {ds : List D} {x : Str} {k : Nat} {p : Pos} (h : EvA X es G ds) : EvA X (.Constant (.str x) k p :: es) G (.str x :: ds) := ea_cons ev_str h star_const
theorem tab_ev (X : Cx) (G : Gam) (k0 k1 k2 k3 k4 k5 k6 k7 k8 k9 k10 k11 k12 : Nat) (p0 p1 p2 p3 p4 p5 p6 p7 p8 p9 p10 p11 p12 pos : Pos) : EvD X (.List [.Constant (.str "0") k0 p0, .Constant (.str "1") k1 p1, .Constant (.str "2") k2 p2, .Constant (.str "3") k3 p3, .Constant (.str "4") k4 p4, .Constant (.str "6") k5 p5, .Constant (.str "9") k6 p6, .Constant (.str "/") k7 p7, .Constant (.str "-") k8 p8, .Constant (.str "/") k9 p9, .Constant (.str "12") k10 p10, .Constant (.str "10") k11 p11, .Constant (.str "5") k12 p12] pos) G (.list [.str "0", .str "1", .str "2", .str "3", .str "4", .str "6", .str "9", .str "/", .str "-", .str "/", .str "12", .str "10", .str "5"]) := by
  refine (en_lst ?_).im
  refine ea_str ?_
  refine ea_str ?_
  refine ea_str ?_
  refine ea_str ?_
  refine ea_str ?_
  refine ea_str ?_
  refine ea_str ?_
  refine ea_str ?_
  refine ea_str ?_
  refine ea_str ?_
  refine ea_str ?_
  refine ea_str ?_
  refine ea_str ?_
  exact ea_nil
section
variable {P : Program} {w : World} {K : DL.Fg} {mg : Str → Option Value} {base : Heap} {C : Addr}
def Rlaw : List D → Out → Prop := fun ds o => ∃ ns : List Int, ds = [.list (ns.map .int)] ∧ ns.length ≤ 63 ∧ o = .val (.bool true)
/-- the pieces that words are drawn of -/
def T : List (List Nat) := [[48], [49], [50], [51], [52], [54], [57], [47], [45], [47], [49, 50], [49, 48], [53]]
theorem tab_eq : (["0", "1", "2", "3", "4", "6", "9", "/", "-", "/", "12", "10", "5"] : List Str) = T.map S := by decide +kernel
theorem T_alpha : ∀ p ∈ T, Alpha p ∧ p.length ≤ 2 := by
  have h : ∀ p ∈ T, (∀ c ∈ p, c = 45 ∨ c = 47 ∨ (48 ≤ c ∧ c ≤ 57)) ∧ p.length ≤ 2 := by decide +kernel
  exact h
theorem joinL_nil : ∀ ps : List (List Nat), TL.joinL [] ps = ps.flatten
  | [] => rfl
  | [p] => by show p = p ++ []; rw [List.append_nil]
  | p :: q :: r => by
    show p ++ ([] ++ TL.joinL [] (q :: r)) = _
    rw [List.nil_append, joinL_nil (q :: r), List.flatten_cons (l := p)]
theorem join_S (ps : List (List Nat)) : Txt.join (S []) (ps.map S) = S ps.flatten := by
  refine TL.ext_tl ?_
  rw [TL.join_eq, TL.tl_join, tl_S, tl_S, List.map_map]
  show TL.joinL [] (ps.map id) = _
  rw [List.map_id, joinL_nil]
theorem sh_opt (o : Option Rat) : SeqAt.shaped (optD o) = true := by
  cases o <;> rfl
theorem ne_self {d : D} (h : SeqAt.shaped d = true) : (!PyData.eqv d d) = false := by
  rw [SeqAt.eqv_refl d (SeqAt.canLay_of_shaped h)]
  rfl
theorem rd10 : rd [49, 50, 51, 52, 53, 54, 55, 56, 57, 48] = none := rd_bad (A := [49, 50, 51, 52, 53, 54, 55, 56, 57, 48]) (B := [49]) (.inl ⟨rfl, by decide, rfl⟩) fun h => by
  have := h.1.2.2
  simp at this
theorem rd9 : rd [49, 50, 51, 52, 53, 54, 55, 56, 57] = some ((123456789 : Int) : Rat) := by
  have e : fmt ((123456789 : Int) : Rat) = [49, 50, 51, 52, 53, 54, 55, 56, 57] := by
    have h := canon_val (l := [49, 50, 51, 52, 53, 54, 55, 56, 57]) ⟨by decide, by decide, by decide⟩
    show [] ++ (numL 123456789 ++ []) = _
    rw [List.nil_append, List.append_nil]
    exact h
  rw [← e]
  exact rd_fmt ⟨by decide, by decide⟩
theorem fmt_len64 {x : Rat} (h1 : x.num.natAbs < 10 ^ 64) (h2 : x.den < 10 ^ 64) : (fmt x).length ≤ 600 := by
  have l1 := numL64 h1
  have l2 := numL64 h2
  unfold fmt
  rw [List.length_append, List.length_append]
  have a1 : (if x.num < 0 then [45] else ([] : List Nat)).length ≤ 1 := by split <;> simp
  have a2 : (if x.den = 1 then [] else 47 :: numL x.den).length ≤ 65 := by
    split
    · simp
    · rw [List.length_cons]
      omega
  omega
theorem inR_get {ds ss : List Int} (h : InR ds ss) : ds.length = ss.length ∧ ∀ (i : Nat) (d s : Int), ds[i]? = some d → ss[i]? = some s → 0 ≤ d ∧ d < s := by
  induction h with
  | nil => exact ⟨rfl, fun i d s h => by simp at h⟩
  | cons h0 h1 t ih =>
    refine ⟨by rw [List.length_cons, List.length_cons, ih.1], fun i d s h h' => ?_⟩
    cases i with
    | zero =>
      have e1 := Option.some.inj h
      have e2 := Option.some.inj h'
      subst e1 e2
      exact ⟨h0, h1⟩
    | succ i => exact ih.2 i d s h h'
set_option maxRecDepth 100000 in
theorem ok_law {f : Addr} {fd : FuncData} (F : Fun K "law" "law" sLaw f fd)
    (Fo : DefOk P w K mg base L2.CX0 2 "format_number" Rfmt) (Re : DefOk P w K mg base L2.CX0 3 "read_number" Rread) (Dr : DefOk P w K mg base L2.CX0 2 "_law_draw" Rdraw) (Lf : DefOk P w K mg base L2.CX0 1 "_law_f" Rf) (Wo : DefOk P w K mg base L2.CX0 1 "_law_word" Rword)
    (Du : DefOk P w K mg base L2.CX0 2 "_law_due" Rread) (mR : mg "range" = none) (mL : mg "len" = none) (mMi : mg "min" = none) (mMa : mg "max" = none) : FnOk P w K mg base L2.CX0 4 f fd ["script"] (spD K Rlaw) :=
  fn_ok F scLawN (fun ds o ⟨a, h, _⟩ => by rw [h]; rfl) (fun cdv A outer s H E hr ds d r => by
    obtain ⟨ns, rfl, hlen, e⟩ := r
    have e' := Out.val.inj e
    subst e'
    have hN := scLawN.nd
    have hu : (Xn P w K mg base ["script", "k", "digits", "a", "word", "digit"] "law" sLaw f cdv A outer s H E).A.units + 64 < cLine := hr.units
    have npos : PassesOwn (model P w) (Xn P w K mg base ["script", "k", "digits", "a", "word", "digit"] "law" sLaw f cdv A outer s H E).A (Xn P w K mg base ["script", "k", "digits", "a", "word", "digit"] "law" sLaw f cdv A outer s H E).env (fun _ _ => False) := PassesOwn.never
    refine gs_cut (fun G => ∃ e1 e2 e3 e4 : Ent, G = [.im (.list (ns.map .int)), e1, e2, e3, e4, .no])
      (gs_forR 1 (fun i G => ∃ e1 e2 e3 e4 : Ent, G = [.im (.list (ns.map .int)), e1, e2, e3, e4, .no]) mR (ev_min2 mMi ev_int (ev_max2 mMa ev_int (ev_lenL mL (ev_var 0)))) (by split <;> split <;> omega) ⟨_, _, _, _, rfl⟩
        (fun i G hi ⟨e1, e2, e3, e4, hG⟩ => ?_) (fun G hG => hG) npos) ?_
    · subst hG
      have hi' : i < 30 := by
        have h := hi
        split at h <;> omega
      refine gs_cons (gs_set 2 (ev_call Dr hr (ea_cons (ev_var 0) (ea_cons (ev_var 1) (ea_cons (EvD.is (d' := .list (([2000, 60, 7, 13, 13, 13, 13, 13, 13] : List Int).map .int)) (en_cat (en_lst (ea_cons ev_int (ea_cons ev_int (ea_cons ev_int ea_nil)))) (en_rep (en_lst (ea_cons ev_int ea_nil)) ev_int (by decide) (by decide)) (by decide)).im rfl) ea_nil)))
        ⟨ns, i, [2000, 60, 7, 13, 13, 13, 13, 13, 13], rfl, by decide, by decide, by omega, rfl⟩) ?_)
      have hin := drawL_in (ns := ns) (k := i) (sizes := [2000, 60, 7, 13, 13, 13, 13, 13, 13]) (by decide)
      generalize drawL ns i [2000, 60, 7, 13, 13, 13, 13, 13, 13] = dd at hin
      obtain ⟨x1, x2, x3, ys, rfl, h1, h2, h3, h4, h5⟩ : ∃ (x1 x2 x3 : Int) (ys : List Int), dd = x1 :: x2 :: x3 :: ys ∧ (0 ≤ x1 ∧ x1 < 2000) ∧ (0 ≤ x2 ∧ x2 < 60) ∧ (0 ≤ x3 ∧ x3 < 7) ∧ ys.length = 6 ∧ ∀ y ∈ ys, 0 ≤ y ∧ y < 13 := by
        cases hin with
        | cons a0 a1 t =>
        cases t with
        | cons b0 b1 t =>
        cases t with
        | cons c0 c1 t =>
        obtain ⟨l1, l2⟩ := inR_get t
        refine ⟨_, _, _, _, rfl, ⟨a0, a1⟩, ⟨b0, b1⟩, ⟨c0, c1⟩, l1, fun y hy => ?_⟩
        obtain ⟨j, hj⟩ := List.getElem?_of_mem hy
        have hj6 : j < 6 := by
          have := (List.getElem?_eq_some_iff.mp hj).1
          rw [l1] at this
          exact this
        have hs : ([13, 13, 13, 13, 13, 13] : List Int)[j]? = some 13 := by
          rcases (show j = 0 ∨ j = 1 ∨ j = 2 ∨ j = 3 ∨ j = 4 ∨ j = 5 by omega) with z | z | z | z | z | z <;> rw [z] <;> rfl
        exact l2 j y 13 hj hs
      have d0 : atI ((x1 :: x2 :: x3 :: ys).map PyData.int) 0 = some (.int x1) := atI_nat (j := 0) rfl
      have d1 : atI ((x1 :: x2 :: x3 :: ys).map PyData.int) 1 = some (.int x2) := atI_nat (j := 1) rfl
      have d2 : atI ((x1 :: x2 :: x3 :: ys).map PyData.int) 2 = some (.int x3) := atI_nat (j := 2) rfl
      have lf : ∀ {t b : Int}, b ≠ 0 → b.natAbs < 2 ^ 40 → Rf [.int t, .int b] (.val (dq (Rat.divInt t b))) := fun {t b} h1 h2 => ⟨t, b, rfl, h1, lt_pow h2, rfl⟩
      refine gs_cons (gs_set 3 (ev_call Lf hr (ea_cons (ev_sub (ev_ixL (ev_var 2) ev_int d0) ev_int) (ea_cons (ev_add ev_int (ev_ixL (ev_var 2) ev_int d1)) ea_nil)) (lf (by omega) (by omega))) ?_)
      refine gs_cut (fun G => ∃ (a : Rat), G = [.im (.list (ns.map .int)), .im (.int i), .im (.list ((x1 :: x2 :: x3 :: ys).map .int)), .im (dq a), e4, .no] ∧ a.num.natAbs < 10 ^ 64 ∧ a.den < 10 ^ 64 ∧ (0 < x3 → Nine a))
        (gs_if (et_eqI (ev_ixL (ev_var 2) ev_int d2) ev_int) (fun c => ?_) (fun c => ?_)) ?_
      · have c' : x3 = 0 := of_decide_eq_true c
        refine gs_cons (gs_set 3 (ev_call Lf hr (ea_cons (ev_mul (ev_sub (ev_ixL (ev_var 2) ev_int d0) ev_int) ev_int (.inl (.inr (by decide)))) (ea_cons (ev_sub ev_int (ev_ixL (ev_var 2) ev_int d1)) ea_nil)) (lf (by omega) (by omega))) (gs_nil ⟨_, rfl, ?_, ?_, fun z => absurd z (by omega)⟩))
        · refine Nat.lt_of_le_of_lt (frac_le (by omega)).1 ?_
          rw [Int.natAbs_mul]
          have : (x1 - 1000).natAbs * (999999 : Int).natAbs ≤ 1000 * 999999 := Nat.mul_le_mul (by omega) (by decide)
          exact Nat.lt_of_le_of_lt this (by decide +kernel)
        · refine Nat.lt_of_le_of_lt (frac_le (by omega)).2 ?_
          exact Nat.lt_of_le_of_lt (show (999999937 - x2).natAbs ≤ 999999937 by omega) (by decide +kernel)
      · have n1 := (frac_le (t := x1 - 1000) (b := 1 + x2) (by omega)).1
        have n2 := (frac_le (t := x1 - 1000) (b := 1 + x2) (by omega)).2
        have nine : Nine (Rat.divInt (x1 - 1000) (1 + x2)) := ⟨by omega, by omega⟩
        exact gs_nil ⟨_, rfl, Nat.lt_trans nine.1 ten9, Nat.lt_trans nine.2 ten9, fun _ => nine⟩
      rintro G ⟨a, rfl, ha1, ha2, ha3⟩
      refine gs_cons (gs_set 4 (ev_call Wo hr (ea_cons (ev_var 3) ea_nil) ⟨a, rfl, ha1, ha2, rfl⟩) ?_)
      have red : ∀ {l : List Nat}, Alpha l → l.length ≤ 600 → Rread [.str (S l)] (.val (optD (rd l))) := fun {l} h1 h2 => ⟨l, rfl, h1, h2, rfl⟩
      have rda := red (fmt_alpha a) (fmt_len64 ha1 ha2)
      refine gs_cons (gs_ifF (EvT.is (et_w (ew_or (et_neS (ev_call Fo hr (ea_cons (ev_var 3) ea_nil) ⟨a, rfl, ha1, ha2, rfl⟩) (ev_var 4))
        (fun _ => ew_or1 (et_ne hu (ev_call Re hr (ea_cons (ev_var 4) ea_nil) rda) (ev_call Du hr (ea_cons (ev_var 4) ea_nil) rda) (sh_opt _) (sh_opt _))))) ?_) ?_)
      · rw [decide_eq_true rfl, ne_self (sh_opt _)]
        rfl
      refine gs_cons (gs_ifF (EvT.is (et_w (ew_and (et_gt (ev_ixL (ev_var 2) ev_int d2) ev_int) (fun _ => ew_and1 (et_ne hu (ev_call Re hr (ea_cons (ev_var 4) ea_nil) rda) (ev_var 3) (sh_opt _) rfl)))) ?_) ?_)
      · by_cases z : 0 < x3
        · rw [rd_fmt (ha3 z)]
          show (_ && (!PyData.eqv (dq a) (dq a))) = false
          rw [ne_dq rfl, Bool.and_false]
        · rw [decide_eq_false z, Bool.false_and]
      -- a drawn word
      have ecut : DL.cutD ((x1 :: x2 :: x3 :: ys).map PyData.int) (some 3) (some (3 + x3)) = (ys.take x3.toNat).map PyData.int := by
        unfold DL.cutD
        have hl : ((x1 :: x2 :: x3 :: ys).map PyData.int).length = 9 := by rw [List.length_map, List.length_cons, List.length_cons, List.length_cons, h4]
        rw [hl]
        have s1 : HT.sIx 9 0 (some 3) = 3 := rfl
        have s2 : HT.sIx 9 9 (some (3 + x3)) = 3 + x3.toNat := by
          have h := HT.sIx_nat 9 9 (3 + x3.toNat)
          rw [show ((3 + x3.toNat : Nat) : Int) = 3 + x3 by omega] at h
          rw [h]
          omega
        rw [s1, s2, show 3 + x3.toNat - 3 = x3.toNat by omega]
        show ((ys.map PyData.int).take x3.toNat) = _
        rw [List.map_take]
      have hsub : ∀ y ∈ ys.take x3.toNat, 0 ≤ y ∧ y < 13 := fun y hy => h5 y (List.mem_of_mem_take hy)
      have hsl : (ys.take x3.toNat).length ≤ 6 := by rw [List.length_take]; omega
      generalize ys.take x3.toNat = zs at ecut hsub hsl
      have wl : ∀ zs : List Int, (∀ y ∈ zs, 0 ≤ y ∧ y < 13) → Alpha ((zs.map fun y => T.getD y.toNat []).flatten) ∧ ((zs.map fun y => T.getD y.toNat []).flatten).length ≤ 2 * zs.length ∧ (((zs.map fun y => T.getD y.toNat []).map S).map (·.length)).sum ≤ 2 * zs.length := by
        intro zs
        induction zs with
        | nil => intro _; exact ⟨fun c hc => by (cases hc), Nat.le_refl _, Nat.le_refl _⟩
        | cons y r ih =>
          intro hz
          obtain ⟨i1, i2, i3⟩ := ih fun q hq => hz q (List.mem_cons_of_mem _ hq)
          have hy := hz y List.mem_cons_self
          have hm : T.getD y.toNat [] ∈ T := by
            rw [List.getD_eq_getElem?_getD, List.getElem?_eq_getElem (show y.toNat < T.length by show y.toNat < 13; omega)]
            exact List.getElem_mem _
          obtain ⟨t1, t2⟩ := T_alpha _ hm
          refine ⟨fun c hc => ?_, ?_, ?_⟩
          · rw [List.map_cons, List.flatten_cons] at hc
            exact (List.mem_append.mp hc).elim (t1 c) (i1 c)
          · rw [List.map_cons, List.flatten_cons, List.length_append, List.length_cons]
            omega
          · rw [List.map_cons, List.map_cons, List.map_cons, List.sum_cons, List.length_cons, S_len]
            omega
      obtain ⟨w1, w2, w3⟩ := wl zs hsub
      refine gs_cons (gs_set 4 (EvD.is (d' := .str (S ((zs.map fun y => T.getD y.toNat []).flatten))) (ev_join (ys := (zs.map fun y => T.getD y.toNat []).map S) ev_str
        (en_lc (ds := zs.map PyData.int) (rs := ((zs.map fun y => T.getD y.toNat []).map S).map PyData.str) 5 (EvD.is (en_slL (ev_var 2) (eo_some ev_int) (eo_some (ev_add ev_int (ev_ixL (ev_var 2) ev_int d2)))).im (by rw [ecut]))
          (by rw [List.length_map, List.length_map, List.length_map, List.length_map]) (fun s H C cl fp i d r hd hr => ?_) (by rw [List.length_map]; exact small1000 (by omega)) (ok := blkOk_by (N := ["script", "k", "digits", "a", "word", "digit"]) (sc := defScope sLaw) (by decide +kernel))).im ?_) ?_) ?_)
      · obtain ⟨y, hy, rfl⟩ := map_get hd
        have hy' := hsub y (List.mem_of_getElem? hy)
        rw [List.getElem?_map, List.getElem?_map, List.getElem?_map, hy] at hr
        have er := Option.some.inj hr
        subst er
        have hT : T[y.toNat]? = some (T.getD y.toNat []) := by
          rw [List.getD_eq_getElem?_getD, List.getElem?_eq_getElem (show y.toNat < T.length by show y.toNat < 13; omega)]
          rfl
        have hat : atI ((T.map S).map PyData.str) y = some (.str (S (T.getD y.toNat []))) := by
          have h := atI_nat (get_mapS hT)
          rw [show ((y.toNat : Nat) : Int) = y by omega] at h
          exact h
        rw [← tab_eq] at hat
        have hat2 : atI [PyData.str "0", PyData.str "1", PyData.str "2", PyData.str "3", PyData.str "4", PyData.str "6", PyData.str "9", PyData.str "/", PyData.str "-", PyData.str "/", PyData.str "12", PyData.str "10", PyData.str "5"] y = some (.str (S (T.getD y.toNat []))) := hat
        have key : ∀ (X : Cx) (a b : Expr) (pos : Pos) (G : Gam) (d : D), EvD X a G (.list [PyData.str "0", PyData.str "1", PyData.str "2", PyData.str "3", PyData.str "4", PyData.str "6", PyData.str "9", PyData.str "/", PyData.str "-", PyData.str "/", PyData.str "12", PyData.str "10", PyData.str "5"]) → EvD X b G (.int y) → PlainIx b →
            atI [PyData.str "0", PyData.str "1", PyData.str "2", PyData.str "3", PyData.str "4", PyData.str "6", PyData.str "9", PyData.str "/", PyData.str "-", PyData.str "/", PyData.str "12", PyData.str "10", PyData.str "5"] y = some d → EvD X (.Subscript a b pos) G d := fun X a b pos G d h1 h2 h4 h3 => ev_ixL h1 h2 h3 h4
        refine key _ _ _ _ _ _ ?_ ?_ ?_ ?_
        · exact tab_ev _ _ _ _ _ _ _ _ _ _ _ _ _ _ _ _ _ _ _ _ _ _ _ _ _ _ _ _ _
        · exact ev_var 5
        · exact fun _ _ => rfl
        · exact hat2
      · rw [s_empty, S_len]
        show _ + _ * 0 ≤ _
        omega
      · rw [s_empty, join_S]
      have rdw := red w1 (by omega)
      refine gs_cons (gs_ifF (EvT.is (et_ne hu (ev_call Re hr (ea_cons (ev_var 4) ea_nil) rdw) (ev_call Du hr (ea_cons (ev_var 4) ea_nil) rdw) (sh_opt _) (sh_opt _)) (ne_self (sh_opt _))) (gs_nil ⟨_, _, _, _, rfl⟩))
    · rintro G ⟨e1, e2, e3, e4, rfl⟩
      have q1 : Rread [.str "1234567890"] (.val (optD (rd [49, 50, 51, 52, 53, 54, 55, 56, 57, 48]))) := ⟨[49, 50, 51, 52, 53, 54, 55, 56, 57, 48], by rw [show ("1234567890" : Str) = S [49, 50, 51, 52, 53, 54, 55, 56, 57, 48] by decide +kernel], digits_alpha (by decide), by decide, rfl⟩
      have q2 : Rread [.str "123456789"] (.val (optD (rd [49, 50, 51, 52, 53, 54, 55, 56, 57]))) := ⟨[49, 50, 51, 52, 53, 54, 55, 56, 57], by rw [show ("123456789" : Str) = S [49, 50, 51, 52, 53, 54, 55, 56, 57] by decide +kernel], digits_alpha (by decide), by decide, rfl⟩
      refine gs_cons (gs_ret (ev_andV (ev_isN (ev_call Re hr (ea_cons ev_str ea_nil) q1)) (fun _ => ev_one (ev_eq hu (ev_call Re hr (ea_cons ev_str ea_nil) q2) (ev_tup (ea_cons ev_int (ea_cons ev_int ea_nil))) (sh_opt _) rfl))) ?_)
      rw [rd10, rd9]
      rfl) fun ds y ⟨_, _, _, e⟩ => Out.noConfusion e
end
end K3

namespace K3
open PySem PySem.Spec PyProof.Rows L2 DL MT
theorem all_mk {l : PySem.W.OpenLaw} {w : World} {K : PySem.W.Frag} {h : Heap} {mg : Str → Option Value} {fa : Addr} (X : K.In h) (G : h.Ns mainGlobals mg) (hfa : mg "law" = some (.ref fa))
    {CN : Addr} (aCN : PySem.W.nsIn K mainGlobals "NumberError" = some (some (.ref CN))) (eCN : PySem.W.excIn K CN [.type "ValueError", .type "Exception", .type "BaseException", .type "object"] "ValueError.__new__" = true) (kCN : PySem.W.keepIn K (.ref CN) = true) (bCN : PySem.W.subIn K (.ref CN) (.type "BaseException") = some true) (tCN : PySem.W.typeIn K (.ref CN) = some (.type "type")) (iCN : PySem.W.isClsIn K CN = true) (sCN : PySem.W.subIn K (.ref CN) (.ref CN) = some true)
    {f0 : Addr} {od0 an0 : Option Addr} {sl0 : Array (Option Value)} {oc0 kV0 dc0 pm0 cd0 ct0 : Value} (a0 : PySem.W.nsIn K mainGlobals "number" = some (some (.ref f0))) (l0 : K.lookup f0 = some ⟨oc0, od0, .func (PySem.W.fnOf "number" "number" (defArgs sNumber) (defBody sNumber) (defScope sNumber) .none kV0 dc0 pm0 an0 cd0 ct0), sl0⟩) (c0 : PySem.W.codeIn K cd0 "number" = true) (k0 : PySem.W.keepIn K (.ref f0) = true)
    {f1 : Addr} {od1 an1 : Option Addr} {sl1 : Array (Option Value)} {oc1 kV1 dc1 pm1 cd1 ct1 : Value} (a1 : PySem.W.nsIn K mainGlobals "format_number" = some (some (.ref f1))) (l1 : K.lookup f1 = some ⟨oc1, od1, .func (PySem.W.fnOf "format_number" "format_number" (defArgs sFormatNumber) (defBody sFormatNumber) (defScope sFormatNumber) .none kV1 dc1 pm1 an1 cd1 ct1), sl1⟩) (c1 : PySem.W.codeIn K cd1 "format_number" = true) (k1 : PySem.W.keepIn K (.ref f1) = true)
    {f2 : Addr} {od2 an2 : Option Addr} {sl2 : Array (Option Value)} {oc2 kV2 dc2 pm2 cd2 ct2 : Value} (a2 : PySem.W.nsIn K mainGlobals "read_number" = some (some (.ref f2))) (l2 : K.lookup f2 = some ⟨oc2, od2, .func (PySem.W.fnOf "read_number" "read_number" (defArgs sReadNumber) (defBody sReadNumber) (defScope sReadNumber) .none kV2 dc2 pm2 an2 cd2 ct2), sl2⟩) (c2 : PySem.W.codeIn K cd2 "read_number" = true) (k2 : PySem.W.keepIn K (.ref f2) = true)
    {f3 : Addr} {od3 an3 : Option Addr} {sl3 : Array (Option Value)} {oc3 kV3 dc3 pm3 cd3 ct3 : Value} (a3 : PySem.W.nsIn K mainGlobals "_is_whole" = some (some (.ref f3))) (l3 : K.lookup f3 = some ⟨oc3, od3, .func (PySem.W.fnOf "_is_whole" "_is_whole" (defArgs sIsWhole) (defBody sIsWhole) (defScope sIsWhole) .none kV3 dc3 pm3 an3 cd3 ct3), sl3⟩) (c3 : PySem.W.codeIn K cd3 "_is_whole" = true) (k3 : PySem.W.keepIn K (.ref f3) = true)
    {f4 : Addr} {od4 an4 : Option Addr} {sl4 : Array (Option Value)} {oc4 kV4 dc4 pm4 cd4 ct4 : Value} (a4 : PySem.W.nsIn K mainGlobals "_in_digits" = some (some (.ref f4))) (l4 : K.lookup f4 = some ⟨oc4, od4, .func (PySem.W.fnOf "_in_digits" "_in_digits" (defArgs sInDigits) (defBody sInDigits) (defScope sInDigits) .none kV4 dc4 pm4 an4 cd4 ct4), sl4⟩) (c4 : PySem.W.codeIn K cd4 "_in_digits" = true) (k4 : PySem.W.keepIn K (.ref f4) = true)
    {f5 : Addr} {od5 an5 : Option Addr} {sl5 : Array (Option Value)} {oc5 kV5 dc5 pm5 cd5 ct5 : Value} (a5 : PySem.W.nsIn K mainGlobals "_law_cell" = some (some (.ref f5))) (l5 : K.lookup f5 = some ⟨oc5, od5, .func (PySem.W.fnOf "_law_cell" "_law_cell" (defArgs sCell) (defBody sCell) (defScope sCell) .none kV5 dc5 pm5 an5 cd5 ct5), sl5⟩) (c5 : PySem.W.codeIn K cd5 "_law_cell" = true) (k5 : PySem.W.keepIn K (.ref f5) = true)
    {f6 : Addr} {od6 an6 : Option Addr} {sl6 : Array (Option Value)} {oc6 kV6 dc6 pm6 cd6 ct6 : Value} (a6 : PySem.W.nsIn K mainGlobals "_law_draw" = some (some (.ref f6))) (l6 : K.lookup f6 = some ⟨oc6, od6, .func (PySem.W.fnOf "_law_draw" "_law_draw" (defArgs sDraw) (defBody sDraw) (defScope sDraw) .none kV6 dc6 pm6 an6 cd6 ct6), sl6⟩) (c6 : PySem.W.codeIn K cd6 "_law_draw" = true) (k6 : PySem.W.keepIn K (.ref f6) = true)
    {f7 : Addr} {od7 an7 : Option Addr} {sl7 : Array (Option Value)} {oc7 kV7 dc7 pm7 cd7 ct7 : Value} (a7 : PySem.W.nsIn K mainGlobals "_law_f" = some (some (.ref f7))) (l7 : K.lookup f7 = some ⟨oc7, od7, .func (PySem.W.fnOf "_law_f" "_law_f" (defArgs sF) (defBody sF) (defScope sF) .none kV7 dc7 pm7 an7 cd7 ct7), sl7⟩) (c7 : PySem.W.codeIn K cd7 "_law_f" = true) (k7 : PySem.W.keepIn K (.ref f7) = true)
    {f8 : Addr} {od8 an8 : Option Addr} {sl8 : Array (Option Value)} {oc8 kV8 dc8 pm8 cd8 ct8 : Value} (a8 : PySem.W.nsIn K mainGlobals "_law_word" = some (some (.ref f8))) (l8 : K.lookup f8 = some ⟨oc8, od8, .func (PySem.W.fnOf "_law_word" "_law_word" (defArgs sWord) (defBody sWord) (defScope sWord) .none kV8 dc8 pm8 an8 cd8 ct8), sl8⟩) (c8 : PySem.W.codeIn K cd8 "_law_word" = true) (k8 : PySem.W.keepIn K (.ref f8) = true)
    {f9 : Addr} {od9 an9 : Option Addr} {sl9 : Array (Option Value)} {oc9 kV9 dc9 pm9 cd9 ct9 : Value} (a9 : PySem.W.nsIn K mainGlobals "_law_due" = some (some (.ref f9))) (l9 : K.lookup f9 = some ⟨oc9, od9, .func (PySem.W.fnOf "_law_due" "_law_due" (defArgs sDue) (defBody sDue) (defScope sDue) .none kV9 dc9 pm9 an9 cd9 ct9), sl9⟩) (c9 : PySem.W.codeIn K cd9 "_law_due" = true) (k9 : PySem.W.keepIn K (.ref f9) = true)
    {f10 : Addr} {od10 an10 : Option Addr} {sl10 : Array (Option Value)} {oc10 kV10 dc10 pm10 cd10 ct10 : Value} (a10 : PySem.W.nsIn K mainGlobals "law" = some (some (.ref f10))) (l10 : K.lookup f10 = some ⟨oc10, od10, .func (PySem.W.fnOf "law" "law" (defArgs sLaw) (defBody sLaw) (defScope sLaw) .none kV10 dc10 pm10 an10 cd10 ct10), sl10⟩) (c10 : PySem.W.codeIn K cd10 "law" = true) (k10 : PySem.W.keepIn K (.ref f10) = true)
    (z1 : PySem.W.nsIn K mainGlobals "len" = some none)
    (z2 : PySem.W.nsIn K mainGlobals "range" = some none)
    (z3 : PySem.W.nsIn K mainGlobals "min" = some none)
    (z4 : PySem.W.nsIn K mainGlobals "max" = some none)
    (z6 : PySem.W.nsIn K mainGlobals "str" = some none)
    (z7 : PySem.W.nsIn K mainGlobals "int" = some none)
    (z8 : PySem.W.nsIn K mainGlobals "abs" = some none)
    (z9 : PySem.W.nsIn K mainGlobals "reversed" = some none)
    (z5 : PySem.W.nsIn K mainGlobals "gcd" = some (some (.builtin "math.gcd")))
    {t : Tok}
    (z0 : PySem.W.nsIn K mainGlobals "DIGITS" = some (some (.int 9 t))) :
    ∃ fd : FuncData, (∀ (s : Shared) (v : Value), BindsTo s fd ⟨[v], []⟩ [("script", v)]) ∧ ∀ base : Heap, K.In base → base.Ns mainGlobals mg → FnOk l.prog w K mg base L2.CX0 4 fa fd ["script"] (spD K Rlaw) := by
  have e := hfa.symm.trans (PySem.W.mg_of X G a10)
  cases e
  have F0 := fun_mk (st := sNumber) l0 c0 k0
  have b0 := F0.binds (ps := ["top", "bottom"]) fun _ _ _ _ _ _ us hl => match us, hl with | [_, _], _ => rfl
  have m0 := PySem.W.mg_of X G a0
  have F1 := fun_mk (st := sFormatNumber) l1 c1 k1
  have b1 := F1.binds (ps := ["value"]) fun _ _ _ _ _ _ us hl => match us, hl with | [_], _ => rfl
  have m1 := PySem.W.mg_of X G a1
  have F2 := fun_mk (st := sReadNumber) l2 c2 k2
  have b2 := F2.binds (ps := ["word"]) fun _ _ _ _ _ _ us hl => match us, hl with | [_], _ => rfl
  have m2 := PySem.W.mg_of X G a2
  have F3 := fun_mk (st := sIsWhole) l3 c3 k3
  have b3 := F3.binds (ps := ["digits"]) fun _ _ _ _ _ _ us hl => match us, hl with | [_], _ => rfl
  have m3 := PySem.W.mg_of X G a3
  have F4 := fun_mk (st := sInDigits) l4 c4 k4
  have b4 := F4.binds (ps := ["whole"]) fun _ _ _ _ _ _ us hl => match us, hl with | [_], _ => rfl
  have m4 := PySem.W.mg_of X G a4
  have F5 := fun_mk (st := sCell) l5 c5 k5
  have b5 := F5.binds (ps := ["script", "k"]) fun _ _ _ _ _ _ us hl => match us, hl with | [_, _], _ => rfl
  have m5 := PySem.W.mg_of X G a5
  have F6 := fun_mk (st := sDraw) l6 c6 k6
  have b6 := F6.binds (ps := ["script", "k", "sizes"]) fun _ _ _ _ _ _ us hl => match us, hl with | [_, _, _], _ => rfl
  have m6 := PySem.W.mg_of X G a6
  have F7 := fun_mk (st := sF) l7 c7 k7
  have b7 := F7.binds (ps := ["top", "bottom"]) fun _ _ _ _ _ _ us hl => match us, hl with | [_, _], _ => rfl
  have m7 := PySem.W.mg_of X G a7
  have F8 := fun_mk (st := sWord) l8 c8 k8
  have b8 := F8.binds (ps := ["a"]) fun _ _ _ _ _ _ us hl => match us, hl with | [_], _ => rfl
  have m8 := PySem.W.mg_of X G a8
  have F9 := fun_mk (st := sDue) l9 c9 k9
  have b9 := F9.binds (ps := ["word"]) fun _ _ _ _ _ _ us hl => match us, hl with | [_], _ => rfl
  have m9 := PySem.W.mg_of X G a9
  have F10 := fun_mk (st := sLaw) l10 c10 k10
  have m_z1 := PySem.W.mg_none_of X G z1
  have m_z2 := PySem.W.mg_none_of X G z2
  have m_z3 := PySem.W.mg_none_of X G z3
  have m_z4 := PySem.W.mg_none_of X G z4
  have m_z6 := PySem.W.mg_none_of X G z6
  have m_z7 := PySem.W.mg_none_of X G z7
  have m_z8 := PySem.W.mg_none_of X G z8
  have m_z9 := PySem.W.mg_none_of X G z9
  have m_z5 := PySem.W.mg_of X G z5
  have m_z0 := PySem.W.mg_of X G z0
  exact ⟨PySem.W.fnOf "law" "law" (defArgs sLaw) (defBody sLaw) (defScope sLaw) .none kV10 dc10 pm10 an10 cd10 ct10, fun s v => .of_eq rfl, fun base _ _ => by
    have Nm := ok_number (P := l.prog) (w := w) (base := base) F0 m0 b0 m_z5 ⟨PySem.W.mg_of X G aCN, eCN, kCN, bCN, tCN⟩
    have In := ok_in (P := l.prog) (w := w) (base := base) F4 m4 b4 m_z6 m_z9
    have Fo := ok_format (P := l.prog) (w := w) (base := base) F1 m1 b1 In m_z8
    have Wh := ok_whole (P := l.prog) (w := w) (base := base) F3 m3 b3 m_z1 m_z0
    have Re := ok_read (P := l.prog) (w := w) (base := base) F2 m2 b2 Nm Fo Wh m_z7
    have Ce := ok_cell (P := l.prog) (w := w) (base := base) F5 m5 b5 m_z1
    have Lf := ok_f (P := l.prog) (w := w) (base := base) F7 m7 b7 m_z4
    have Wo := ok_word (P := l.prog) (w := w) (base := base) F8 m8 b8 m_z6
    have Du := ok_due (P := l.prog) (w := w) (base := base) F9 m9 b9 Lf m_z7 m_z1
    exact ok_law F10 Fo Re (ok_draw F6 m6 b6 m_z1 m_z2 Ce) Lf Wo Du m_z2 m_z1 m_z3 m_z4⟩
end K3
open PySem PySem.W PyProof.Rows
set_option maxRecDepth 100000 in
set_option maxHeartbeats 0 in
theorem PySem.Challenge.cw_surecues_k03_how_numbers_are_written_holds : PySem.Challenge.rw_surecues_k03_how_numbers_are_written.Holds := by
  w_on; o_law; k_head; (case hw => w_witness2)
  k_fill
  refine L2.walk_of (l := PySem.Challenge.rw_surecues_k03_how_numbers_are_written) (n := 63) (k := 4) (x := "script") (CX := fun _ => L2.CX0) (sp := fun w => DL.spD _ K3.Rlaw) rfl (by decide) rfl ⟨rfl, by decide, by decide⟩ (fun w h Y => PySem.W.kIn_of Y) ?F (fun _ H a ns hl _ hS => ⟨H, _, _, DL.Ex.refl H, .cons (.lst hS (DL.dpAll_ints ns)) .nil, ⟨ns, rfl, hl, rfl⟩, fun v S' H' _ q => by cases q; rfl⟩) (fun _ _ _ _ _ h => h)
  case F =>
    intro w mg fa h KX G hmg
    refine' K3.all_mk KX G hmg ?aCN ?eCN ?kCN ?bCN ?tCN ?iCN ?sCN ?a0 ?l0 ?c0 ?k0 ?a1 ?l1 ?c1 ?k1 ?a2 ?l2 ?c2 ?k2 ?a3 ?l3 ?c3 ?k3 ?a4 ?l4 ?c4 ?k4 ?a5 ?l5 ?c5 ?k5 ?a6 ?l6 ?c6 ?k6 ?a7 ?l7 ?c7 ?k7 ?a8 ?l8 ?c8 ?k8 ?a9 ?l9 ?c9 ?k9 ?a10 ?l10 ?c10 ?k10 ?z1 ?z2 ?z3 ?z4 ?z6 ?z7 ?z8 ?z9 ?z5 ?z0
    (case aCN => k_is); (case eCN => k_exc); (case kCN => k_is); (case bCN => k_is); (case tCN => k_is); (case iCN => k_is); (case sCN => first | rfl | k_is); (case a0 => k_is); (case l0 => k_is); (case c0 => k_is); (case k0 => k_is); (case a1 => k_is); (case l1 => k_is); (case c1 => k_is); (case k1 => k_is); (case a2 => k_is); (case l2 => k_is); (case c2 => k_is); (case k2 => k_is); (case a3 => k_is); (case l3 => k_is); (case c3 => k_is); (case k3 => k_is); (case a4 => k_is); (case l4 => k_is); (case c4 => k_is); (case k4 => k_is); (case a5 => k_is); (case l5 => k_is); (case c5 => k_is); (case k5 => k_is); (case a6 => k_is); (case l6 => k_is); (case c6 => k_is); (case k6 => k_is); (case a7 => k_is); (case l7 => k_is); (case c7 => k_is); (case k7 => k_is); (case a8 => k_is); (case l8 => k_is); (case c8 => k_is); (case k8 => k_is); (case a9 => k_is); (case l9 => k_is); (case c9 => k_is); (case k9 => k_is); (case a10 => k_is); (case l10 => k_is); (case c10 => k_is); (case k10 => k_is); (case z1 => k_is); (case z2 => k_is); (case z3 => k_is); (case z4 => k_is); (case z6 => k_is); (case z7 => k_is); (case z8 => k_is); (case z9 => k_is); (case z5 => k_is); (case z0 => k_is)

