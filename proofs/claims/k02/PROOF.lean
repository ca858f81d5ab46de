import PyProof.Rows.All
import Wide.All
import OpenK.AllK
import Wide.FinOn
import HandS.Base
import HandS.Call
import HandS.List
import HandS.Ends
import HandS.Exc
import HandS.TryOnly
import HandS.ExcOwn
import HandS.Words
import HandS.Wide
import HandS.Gcd
import HandS.WordsExc
import PySem.Challenge.RW_surecues_k02_rules_of_reckoning
set_option Elab.async false
set_option linter.all false
set_option maxRecDepth 100000
set_option maxHeartbeats 4000000
/-! Heap-free words over the hand layer: what an expression is worth, as data; what a body does, over the data in its slots. -/
namespace DL
open PySem PySem.Spec PyProof.Rows L2

abbrev D := PyData
abbrev Fg := PySem.W.Frag

/-! ### heaps -/
def Ex (H H' : Hp) : Prop := ∀ a o, H a = some o → H' a = some o
theorem Ex.refl (H : Hp) : Ex H H := fun _ _ h => h
theorem Ex.trans {H H1 H2 : Hp} (a : Ex H H1) (b : Ex H1 H2) : Ex H H2 := fun x o h => b x o (a x o h)
theorem Ex.new {H H' : Hp} {p : Addr} {o : HO} (e : Ex H H') (h : H p = none) : Ex H (upd H' p o) := fun a u q => by
  rw [upd_ne (ne_of_none q h)]
  exact e a u q
theorem Ex.both {H H' : Hp} {p : Addr} {o : HO} (e : Ex H H') : Ex (upd H p o) (upd H' p o) := fun a u q => by
  by_cases h : a = p
  · subst h
    rw [upd_same] at q ⊢
    exact q
  · rw [upd_ne h] at q ⊢
    exact e a u q
theorem Ex.none {H H' : Hp} {p : Addr} (e : Ex H H') (h : H' p = none) : H p = none := by
  cases q : H p with
  | none => rfl
  | some o =>
    rw [e p o q] at h
    cases h
theorem Ex.rd {H H' : Hp} {a : Addr} {u : HO} (e : Ex H H') (h : Rd H a u) : Rd H' a u := by
  rcases h with h | ⟨o, h⟩
  · exact .inl (e a _ h)
  · exact .inr ⟨o, e a _ h⟩
theorem Ex.sqL {K : Fg} {H H' : Hp} {a : Addr} {xs : List V} (e : Ex H H') (h : SqL K H a xs) : SqL K H' a xs := h.imp e.rd id
theorem Ex.sqT {K : Fg} {H H' : Hp} {a : Addr} {xs : List V} (e : Ex H H') (h : SqT K H a xs) : SqT K H' a xs := h.imp e.rd id
mutual
theorem Ex.dp {K : Fg} {H H' : Hp} (e : Ex H H') : ∀ {d : D} {v : V}, Dp K H v d → Dp K H' v d
  | .none, _, h => by cases h; exact .non
  | .bool b, _, h => by cases h; exact .bl b
  | .int i, _, h => by cases h; exact .int i
  | .str x, _, h => by cases h; exact .str x
  | .list ds, _, h => by
    cases h with
    | lst hs ha => exact .lst (e.sqL hs) (Ex.dpAll e ha)
  | .tuple ds, _, h => by
    cases h with
    | tup hs ha => exact .tup (e.sqT hs) (Ex.dpAll e ha)
  | .dict _, _, h => by cases h
theorem Ex.dpAll {K : Fg} {H H' : Hp} (e : Ex H H') : ∀ {ds : List D} {vs : List V}, DpAll K H vs ds → DpAll K H' vs ds
  | [], _, h => by cases h; exact .nil
  | d :: ds, _, h => by
    cases h with
    | cons h1 h2 => exact .cons (Ex.dp e h1) (Ex.dpAll e h2)
end
theorem DpAll.len {K : Fg} {H : Hp} : ∀ {ds : List D} {vs : List V}, DpAll K H vs ds → vs.length = ds.length
  | [], _, h => by cases h; rfl
  | d :: ds, _, h => by
    cases h with
    | cons h1 h2 => rw [List.length_cons, List.length_cons, DpAll.len h2]
theorem DpAll.get {K : Fg} {H : Hp} : ∀ {ds : List D} {vs : List V} {i : Nat} {d : D}, DpAll K H vs ds → ds[i]? = some d → ∃ v, vs[i]? = some v ∧ Dp K H v d
  | [], _, i, d, h, e => by simp at e
  | c :: ds, _, 0, d, h, e => by
    cases h with
    | cons h1 h2 =>
      have e' : c = d := Option.some.inj e
      subst e'
      exact ⟨_, rfl, h1⟩
  | c :: ds, _, i + 1, d, h, e => by
    cases h with
    | cons h1 h2 => exact DpAll.get (i := i) h2 e
theorem DpAll.getV {K : Fg} {H : Hp} : ∀ {ds : List D} {vs : List V} {i : Nat} {v : V}, DpAll K H vs ds → vs[i]? = some v → ∃ d, ds[i]? = some d ∧ Dp K H v d
  | [], _, i, d, h, e => by cases h; simp at e
  | c :: ds, _, 0, d, h, e => by
    cases h with
    | cons h1 h2 =>
      have e' := Option.some.inj e
      subst e'
      exact ⟨_, rfl, h1⟩
  | c :: ds, _, i + 1, d, h, e => by
    cases h with
    | cons h1 h2 => exact DpAll.getV (i := i) h2 e
theorem DpAll.snoc {K : Fg} {H : Hp} {v : V} {d : D} (h : Dp K H v d) : ∀ {ds : List D} {vs : List V}, DpAll K H vs ds → DpAll K H (vs ++ [v]) (ds ++ [d])
  | [], _, q => by cases q; exact .cons h .nil
  | c :: ds, _, q => by
    cases q with
    | cons h1 h2 => exact .cons h1 (DpAll.snoc h h2)
theorem DpAll.app {K : Fg} {H : Hp} {ws : List V} {es : List D} (h : DpAll K H ws es) : ∀ {ds : List D} {vs : List V}, DpAll K H vs ds → DpAll K H (vs ++ ws) (ds ++ es)
  | [], _, q => by cases q; exact h
  | c :: ds, _, q => by
    cases q with
    | cons h1 h2 => exact .cons h1 (DpAll.app h h2)
theorem dpAll_ints {K : Fg} {H : Hp} : ∀ ns : List Int, DpAll K H (ns.map V.int) (ns.map PyData.int)
  | [] => .nil
  | n :: ns => .cons (.int n) (dpAll_ints ns)

/-- the stable part and the whole, both grown -/
structure Ext (S H S' H' : Hp) : Prop where
  s : Ex S S'
  h : Ex H H'
  i : Ex S' H'
  n : ∀ a, S a = none → H a ≠ none → S' a = none
theorem Ext.refl {S H : Hp} (i : Ex S H) : Ext S H S H := ⟨Ex.refl S, Ex.refl H, i, fun _ h _ => h⟩
theorem Ext.trans {S H S1 H1 S2 H2 : Hp} (a : Ext S H S1 H1) (b : Ext S1 H1 S2 H2) : Ext S H S2 H2 :=
  ⟨a.s.trans b.s, a.h.trans b.h, b.i, fun x h1 h2 => b.n x (a.n x h1 h2) fun z => h2 (a.h.none z)⟩
/-- a new thing, in both -/
theorem Ext.add {S H S' H' : Hp} {p : Addr} {o : HO} (a : Ext S H S' H') (h : H' p = none) : Ext S H (upd S' p o) (upd H' p o) :=
  ⟨a.s.new (a.s.none (a.i.none h)), a.h.new (a.h.none h), a.i.both, fun x h1 h2 => by
    have ne : x ≠ p := fun z => by subst z; exact h2 (a.h.none h)
    rw [upd_ne ne]
    exact a.n x h1 h2⟩
/-- a new thing, in the whole alone -/
theorem Ext.own {S H S' H' : Hp} {p : Addr} {o : HO} (a : Ext S H S' H') (h0 : H p = none) (hs : S' p = none) : Ext S H S' (upd H' p o) :=
  ⟨a.s, a.h.new h0, a.i.new hs, a.n⟩
/-- what was the whole's alone becomes stable -/
theorem Ext.keep {S H S' H' : Hp} {p : Addr} {o : HO} (a : Ext S H S' H') (h0 : H p = none) (hs : S' p = none) (h : H' p = some o) : Ext S H (upd S' p o) H' :=
  ⟨a.s.new (a.s.none hs), a.h, fun x u q => by
    by_cases z : x = p
    · subst z
      rw [upd_same] at q
      rw [h]
      exact q
    · rw [upd_ne z] at q
      exact a.i x u q, fun x h1 h2 => by
    have ne : x ≠ p := fun z => by subst z; exact h2 h0
    rw [upd_ne ne]
    exact a.n x h1 h2⟩

/-! ### slots -/
/-- what a slot holds: nothing that is known; data; a list that it alone holds -/
inductive Ent where
  | no
  | im (d : D)
  | own (ds : List D)
abbrev Gam := List Ent
structure Hol (K : Fg) (H0 S H : Hp) (σ : L2.St) (G : Gam) : Prop where
  len : σ.length = G.length
  im : ∀ (i : Nat) (d : D), G[i]? = some (.im d) → ∃ v, σ[i]? = some (some v) ∧ Dp K S v d
  own : ∀ (i : Nat) (ds : List D), G[i]? = some (.own ds) → ∃ (p : Addr) (vs : List V), σ[i]? = some (some (.ref p)) ∧ H0 p = none ∧ S p = none ∧ H p = some (.lst vs) ∧ DpAll K S vs ds
  sep : ∀ (i j : Nat) (ds es : List D) (p : Addr), i ≠ j → G[i]? = some (.own ds) → G[j]? = some (.own es) → σ[i]? = some (some (.ref p)) → σ[j]? ≠ some (some (.ref p))
theorem Hol.ext {K : Fg} {H0 S H S' H' : Hp} {σ : L2.St} {G : Gam} (h : Hol K H0 S H σ G) (e : Ext S H S' H') : Hol K H0 S' H' σ G :=
  ⟨h.len, fun i d q => let ⟨v, a, b⟩ := h.im i d q; ⟨v, a, e.s.dp b⟩, fun i ds q => let ⟨p, vs, a, z, b, c, r⟩ := h.own i ds q
    ⟨p, vs, a, z, e.n p b (by rw [c]; exact fun z => nomatch z), e.h _ _ c, e.s.dpAll r⟩, h.sep⟩
theorem Hol.set_im {K : Fg} {H0 S H : Hp} {σ : L2.St} {G : Gam} {i : Nat} {v : V} {d : D} (h : Hol K H0 S H σ G) (q : Dp K S v d) : Hol K H0 S H (σ.set i (some v)) (G.set i (.im d)) := by
  refine ⟨by rw [List.length_set, List.length_set, h.len], fun j e hj => ?_, fun j es hj => ?_, fun j k es fs p hne hj hk hp => ?_⟩
  · by_cases c : i = j
    · subst c
      have l : i < G.length := by
        have := (List.getElem?_eq_some_iff.mp hj).1
        rw [List.length_set] at this
        exact this
      rw [List.getElem?_set_self l] at hj
      have e' : d = e := Ent.im.inj (Option.some.inj hj)
      subst e'
      exact ⟨v, List.getElem?_set_self (by rw [h.len]; exact l), q⟩
    · rw [List.getElem?_set_ne c] at hj ⊢
      exact h.im j e hj
  · by_cases c : i = j
    · subst c
      have l : i < G.length := by
        have := (List.getElem?_eq_some_iff.mp hj).1
        rw [List.length_set] at this
        exact this
      rw [List.getElem?_set_self l] at hj
      cases hj
    · rw [List.getElem?_set_ne c] at hj ⊢
      exact h.own j es hj
  · have nj : i ≠ j := fun c => by
      subst c
      have l : i < G.length := by
        have := (List.getElem?_eq_some_iff.mp hj).1
        rw [List.length_set] at this
        exact this
      rw [List.getElem?_set_self l] at hj
      cases hj
    have nk : i ≠ k := fun c => by
      subst c
      have l : i < G.length := by
        have := (List.getElem?_eq_some_iff.mp hk).1
        rw [List.length_set] at this
        exact this
      rw [List.getElem?_set_self l] at hk
      cases hk
    rw [List.getElem?_set_ne nj] at hj hp
    rw [List.getElem?_set_ne nk] at hk ⊢
    exact h.sep j k es fs p hne hj hk hp
/-- a slot takes a list that nothing else holds -/
theorem Hol.set_own {K : Fg} {H0 S H : Hp} {σ : L2.St} {G : Gam} {i : Nat} {p : Addr} {vs : List V} {ds : List D} (h : Hol K H0 S H σ G) (h0 : H0 p = none) (hs : S p = none) (hp : H p = some (.lst vs)) (q : DpAll K S vs ds)
    (hn : ∀ (j : Nat) (es : List D), j ≠ i → G[j]? = some (.own es) → σ[j]? ≠ some (some (.ref p))) : Hol K H0 S H (σ.set i (some (.ref p))) (G.set i (.own ds)) := by
  have lt : ∀ {j : Nat} {x : Ent}, (G.set i (.own ds))[j]? = some x → j < G.length := fun {j x} hj => by
    have := (List.getElem?_eq_some_iff.mp hj).1
    rw [List.length_set] at this
    exact this
  refine ⟨by rw [List.length_set, List.length_set, h.len], fun j e hj => ?_, fun j es hj => ?_, fun j k es fs r hne hj hk hr => ?_⟩
  · by_cases c : i = j
    · subst c
      rw [List.getElem?_set_self (lt hj)] at hj
      cases hj
    · rw [List.getElem?_set_ne c] at hj ⊢
      exact h.im j e hj
  · by_cases c : i = j
    · subst c
      have l := lt hj
      rw [List.getElem?_set_self l] at hj
      have e' : ds = es := Ent.own.inj (Option.some.inj hj)
      subst e'
      exact ⟨p, vs, List.getElem?_set_self (by rw [h.len]; exact l), h0, hs, hp, q⟩
    · rw [List.getElem?_set_ne c] at hj ⊢
      exact h.own j es hj
  · by_cases cj : i = j
    · subst cj
      have nk : i ≠ k := hne
      rw [List.getElem?_set_self (by rw [h.len]; exact lt hj)] at hr
      have er : p = r := V.ref.inj (Option.some.inj (Option.some.inj hr))
      subst er
      rw [List.getElem?_set_ne nk] at hk ⊢
      exact hn k fs (Ne.symm nk) hk
    · rw [List.getElem?_set_ne cj] at hj hr
      by_cases ck : i = k
      · subst ck
        rw [List.getElem?_set_self (by rw [h.len]; exact lt hk)]
        intro z
        have er : p = r := V.ref.inj (Option.some.inj (Option.some.inj z))
        subst er
        exact hn j es (Ne.symm cj) hj hr
      · rw [List.getElem?_set_ne ck] at hk ⊢
        exact h.sep j k es fs r hne hj hk hr
/-- a list that one slot holds becomes plain data -/
theorem Hol.keep {K : Fg} {H0 S H : Hp} {σ : L2.St} {G : Gam} {i : Nat} {ds : List D} (h : Hol K H0 S H σ G) (hi : G[i]? = some (.own ds)) : ∃ (p : Addr) (vs : List V), H0 p = none ∧ S p = none ∧ H p = some (.lst vs) ∧
    Hol K H0 (upd S p (.lst vs)) H σ (G.set i (.im (.list ds))) := by
  obtain ⟨p, vs, hp, z, hs, hh, q⟩ := h.own i ds hi
  have l : i < G.length := (List.getElem?_eq_some_iff.mp hi).1
  have e : Ex S (upd S p (.lst vs)) := (Ex.refl S).new hs
  have no : ∀ {j : Nat} {es : List D}, (G.set i (.im (.list ds)))[j]? = some (.own es) → i ≠ j ∧ G[j]? = some (.own es) := fun {j es} hj => by
    have c : i ≠ j := fun c => by
      subst c
      rw [List.getElem?_set_self l] at hj
      cases hj
    rw [List.getElem?_set_ne c] at hj
    exact ⟨c, hj⟩
  refine ⟨p, vs, z, hs, hh, by rw [List.length_set, h.len], fun j d hj => ?_, fun j es hj => ?_, fun j k es fs r hne hj hk hr => ?_⟩
  · by_cases c : i = j
    · subst c
      rw [List.getElem?_set_self l] at hj
      have e' : (.list ds : D) = d := Ent.im.inj (Option.some.inj hj)
      subst e'
      exact ⟨_, hp, .lst (SqL.of upd_same) (e.dpAll q)⟩
    · rw [List.getElem?_set_ne c] at hj
      obtain ⟨v, a, b⟩ := h.im j d hj
      exact ⟨v, a, e.dp b⟩
  · obtain ⟨c, hj⟩ := no hj
    obtain ⟨r, ws, a, z', b, b', q'⟩ := h.own j es hj
    refine ⟨r, ws, a, z', ?_, b', e.dpAll q'⟩
    rw [upd_ne fun y => h.sep i j ds es p c hi hj hp (by rw [← y]; exact a)]
    exact b
  · exact h.sep j k es fs r hne (no hj).2 (no hk).2 hr
/-- a slot is forgotten -/
theorem Hol.drop {K : Fg} {H0 S H : Hp} {σ : L2.St} {G : Gam} {i : Nat} (h : Hol K H0 S H σ G) : Hol K H0 S H σ (G.set i .no) := by
  have no : ∀ {j : Nat} {x : Ent}, (G.set i .no)[j]? = some x → x ≠ .no → i ≠ j ∧ G[j]? = some x := fun {j x} hj hx => by
    have c : i ≠ j := fun c => by
      subst c
      have l : i < G.length := by
        have := (List.getElem?_eq_some_iff.mp hj).1
        rw [List.length_set] at this
        exact this
      rw [List.getElem?_set_self l] at hj
      exact hx (Option.some.inj hj).symm
    rw [List.getElem?_set_ne c] at hj
    exact ⟨c, hj⟩
  exact ⟨by rw [List.length_set, h.len], fun j d hj => h.im j d (no hj (fun z => nomatch z)).2, fun j es hj => h.own j es (no hj (fun z => nomatch z)).2,
    fun j k es fs r hne hj hk => h.sep j k es fs r hne (no hj (fun z => nomatch z)).2 (no hk (fun z => nomatch z)).2⟩
/-- another value in a slot of which nothing is known -/
theorem Hol.set_no {K : Fg} {H0 S H : Hp} {σ : L2.St} {G : Gam} {i : Nat} {x : Option V} (h : Hol K H0 S H σ G) : Hol K H0 S H (σ.set i x) (G.set i .no) := by
  have no : ∀ {j : Nat} {x : Ent}, (G.set i .no)[j]? = some x → x ≠ .no → i ≠ j ∧ G[j]? = some x := fun {j x} hj hx => by
    have c : i ≠ j := fun c => by
      subst c
      have l : i < G.length := by
        have := (List.getElem?_eq_some_iff.mp hj).1
        rw [List.length_set] at this
        exact this
      rw [List.getElem?_set_self l] at hj
      exact hx (Option.some.inj hj).symm
    rw [List.getElem?_set_ne c] at hj
    exact ⟨c, hj⟩
  refine ⟨by rw [List.length_set, List.length_set, h.len], fun j d hj => ?_, fun j es hj => ?_, fun j k es fs r hne hj hk hr => ?_⟩
  · obtain ⟨c, hj⟩ := no hj (fun z => nomatch z)
    rw [List.getElem?_set_ne c]
    exact h.im j d hj
  · obtain ⟨c, hj⟩ := no hj (fun z => nomatch z)
    rw [List.getElem?_set_ne c]
    exact h.own j es hj
  · obtain ⟨cj, hj⟩ := no hj (fun z => nomatch z)
    obtain ⟨ck, hk⟩ := no hk (fun z => nomatch z)
    rw [List.getElem?_set_ne cj] at hr
    rw [List.getElem?_set_ne ck]
    exact h.sep j k es fs r hne hj hk hr
end DL

namespace DL
open PySem PySem.Spec PyProof.Rows L2

/-! ### what syntax needs of its state -/
def WE (X : Cx) (e : Expr) : TE := fun σ H Q => ∀ (pins : List (Addr × Obj)) (s : Shared), Inv X pins σ H s → wpAny (model X.prog X.w) X.A (eval e X.env) (EP X pins σ Q) X.xe s
def WT (X : Cx) (e : Expr) : TT := fun σ H Q => ∀ (pins : List (Addr × Obj)) (s : Shared), Inv X pins σ H s → wpAny (model X.prog X.w) X.A (isTrue e X.env (eval e X.env)) (TP X pins σ Q) X.xe s
def WW (X : Cx) (e : Expr) : TT := fun σ H Q => ∀ (whole : Sem Value) (pins : List (Addr × Obj)) (s : Shared), Inv X pins σ H s → wpAny (model X.prog X.w) X.A (isTrue e X.env whole) (TP X pins σ Q) X.xe s
def WA (X : Cx) (es : List Expr) : TA := fun σ H Q => ∀ (pos : Pos) (pins : List (Addr × Obj)) (s : Shared), Inv X pins σ H s → wpAny (model X.prog X.w) X.A (spliced (backTo pos (starEach es X.env))) (AP X pins σ Q) X.xe s
def WS (X : Cx) (st : Stmt) : TS := fun D σ H => ∀ (pins : List (Addr × Obj)) (s : Shared), Inv X pins σ H s → wpAny (model X.prog X.w) X.A (exec st X.env) (SP X pins D) X.xe s
def WSs (X : Cx) (sts : List Stmt) : TS := fun D σ H => ∀ (pins : List (Addr × Obj)) (s : Shared), Inv X pins σ H s → wpAny (model X.prog X.w) X.A (execs sts X.env) (SP X pins D) X.xe s
section
variable {X : Cx} {e : Expr} {es : List Expr} {st : Stmt} {sts : List Stmt} {σ : L2.St} {H : Hp}
theorem pe_w : PE X e (WE X e) := ⟨fun pins s _ _ _ I h => h pins s I⟩
theorem pt_w : PT X e (WT X e) := ⟨fun pins s _ _ _ I h => h pins s I⟩
theorem pw_w : PW X e (WW X e) := ⟨fun whole pins s _ _ _ I h => h whole pins s I⟩
theorem pa_w : PA X es (WA X es) := ⟨fun pos pins s _ _ _ I h => h pos pins s I⟩
theorem ps_w : PS X st (WS X st) := ⟨fun pins s _ _ _ I h => h pins s I⟩
theorem pss_w : PSs X sts (WSs X sts) := ⟨fun pins s _ _ _ I h => h pins s I⟩
theorem we {t : TE} {Q : VK} (h : PE X e t) (q : t σ H Q) : WE X e σ H Q := fun pins s I => h.run pins s σ H Q I q
theorem wt {t : TT} {Q : Bool → Hp → Prop} (h : PT X e t) (q : t σ H Q) : WT X e σ H Q := fun pins s I => h.run pins s σ H Q I q
theorem ww {t : TT} {Q : Bool → Hp → Prop} (h : PW X e t) (q : t σ H Q) : WW X e σ H Q := fun whole pins s I => h.run whole pins s σ H Q I q
theorem wa {t : TA} {Q : List V → Hp → Prop} (h : PA X es t) (q : t σ H Q) : WA X es σ H Q := fun pos pins s I => h.run pos pins s σ H Q I q
theorem ws {t : TS} {E : Ends} (h : PS X st t) (q : t E σ H) : WS X st E σ H := fun pins s I => h.run pins s σ H E I q
theorem wss {t : TS} {E : Ends} (h : PSs X sts t) (q : t E σ H) : WSs X sts E σ H := fun pins s I => h.run pins s σ H E I q
end

/-! ### worth -/
/-- e is worth d where the slots hold G -/
def EvD (X : Cx) (e : Expr) (G : Gam) (d : D) : Prop := ∀ (H0 S H : Hp) (σ : L2.St), Hol X.K H0 S H σ G → Ex S H → ∀ Q : VK, (∀ v S' H', Ext S H S' H' → Dp X.K S' v d → Q v H') → WE X e σ H Q
def EvT (X : Cx) (e : Expr) (G : Gam) (b : Bool) : Prop := ∀ (H0 S H : Hp) (σ : L2.St), Hol X.K H0 S H σ G → Ex S H → ∀ Q : Bool → Hp → Prop, (∀ S' H', Ext S H S' H' → Q b H') → WT X e σ H Q
def EvW (X : Cx) (e : Expr) (G : Gam) (b : Bool) : Prop := ∀ (H0 S H : Hp) (σ : L2.St), Hol X.K H0 S H σ G → Ex S H → ∀ Q : Bool → Hp → Prop, (∀ S' H', Ext S H S' H' → Q b H') → WW X e σ H Q
def EvA (X : Cx) (es : List Expr) (G : Gam) (ds : List D) : Prop := ∀ (H0 S H : Hp) (σ : L2.St), Hol X.K H0 S H σ G → Ex S H → ∀ Q : List V → Hp → Prop, (∀ vs S' H', Ext S H S' H' → DpAll X.K S' vs ds → Q vs H') → WA X es σ H Q
/-- e makes a new list -/
def EvN (X : Cx) (e : Expr) (G : Gam) (ds : List D) : Prop := ∀ (H0 S H : Hp) (σ : L2.St), Hol X.K H0 S H σ G → Ex S H → ∀ Q : VK,
  (∀ p vs S' H', Ext S H S' H' → H p = none → S' p = none → H' p = some (.lst vs) → DpAll X.K S' vs ds → Q (.ref p) H') → WE X e σ H Q

section
variable {X : Cx} {e a b c : Expr} {es : List Expr} {G : Gam} {d da db : D} {ds : List D} {pos : Pos} {i j : Int} {x : Str}
theorem EvD.is {d' : D} (h : EvD X e G d) (q : d = d') : EvD X e G d' := q ▸ h
theorem EvT.is {b b' : Bool} (h : EvT X e G b) (q : b = b') : EvT X e G b' := q ▸ h
theorem EvN.im (h : EvN X e G ds) : EvD X e G (.list ds) := fun H0 S H σ o i Q q => h H0 S H σ o i Q fun p vs S' H' x h0 hs hp hd =>
  q _ _ _ (x.keep h0 hs hp) (.lst (SqL.of upd_same) (((Ex.refl S').new hs).dpAll hd))
theorem ev_var (n : Nat) (hN : X.N[n]? = some x := by rfl) (hG : G[n]? = some (.im d) := by rfl) (hv : Vis X.env.scope x := by first | exact Or.inl rfl | exact Or.inr (Or.inl rfl) | exact Or.inr (Or.inr rfl)) (hd : (x == ("__debug__" : Str)) = false := by decide)
    (hcd : (x == ("__classdict__" : Str)) = false := by decide) : EvD X (.Name x pos) G d := fun H0 S H σ o i Q q => by
  obtain ⟨v, h1, h2⟩ := o.im n d hG
  exact we (pe_var (i := n) hN hv hd hcd) ⟨v, h1, q v S H (Ext.refl i) h2⟩
theorem ev_int {k : Nat} : EvD X (.Constant (.int i) k pos) G (.int i) := fun H0 S H σ o e Q q => we pe_int (q _ S H (Ext.refl e) (.int i))
theorem ev_bl {k : Nat} {b : Bool} : EvD X (.Constant (.bool b) k pos) G (.bool b) := fun H0 S H σ o e Q q => we pe_bl (q _ S H (Ext.refl e) (.bl b))
theorem ev_non {k : Nat} : EvD X (.Constant .none k pos) G .none := fun H0 S H σ o e Q q => we pe_non (q _ S H (Ext.refl e) .non)
theorem ev_str {k : Nat} : EvD X (.Constant (.str x) k pos) G (.str x) := fun H0 S H σ o e Q q => we pe_str (q _ S H (Ext.refl e) (.str x))

/-- an operation on two values -/
def RD (K : Fg) (r : R2) (da db d : D) : Prop := ∀ (S H : Hp) (x y : V), Ex S H → Dp K S x da → Dp K S y db → ∀ Q : VK, (∀ v S' H', Ext S H S' H' → Dp K S' v d → Q v H') → r x y H Q
theorem ev_op2 {r : R2} (ht : PE X e (tOp r (WE X a) (WE X b))) (ha : EvD X a G da) (hb : EvD X b G db) (hr : RD X.K r da db d) : EvD X e G d := fun H0 S H σ o i Q q =>
  we ht (ha H0 S H σ o i _ fun x S1 H1 x1 d1 => hb H0 S1 H1 σ (o.ext x1) x1.i _ fun y S2 H2 x2 d2 => hr S2 H2 x y x2.i (x2.s.dp d1) d2 Q fun v S3 H3 x3 d3 => q v S3 H3 ((x1.trans x2).trans x3) d3)
theorem rd_I0 {f : Int → Int → V} {K : Fg} (h : ∀ S : Hp, Dp K S (f i j) d) : RD K (rI0 f) (.int i) (.int j) d := fun S H x y e h1 h2 Q q => by
  cases h1
  cases h2
  exact ⟨i, j, rfl, rfl, q _ S H (Ext.refl e) (h S)⟩
theorem rd_I {C : Int → Int → Prop} {f : Int → Int → V} {K : Fg} (hc : C i j) (h : ∀ S : Hp, Dp K S (f i j) d) : RD K (rI C f) (.int i) (.int j) d := fun S H x y e h1 h2 Q q => by
  cases h1
  cases h2
  exact ⟨i, j, rfl, rfl, hc, q _ S H (Ext.refl e) (h S)⟩
theorem ev_add (ha : EvD X a G (.int i)) (hb : EvD X b G (.int j)) : EvD X (.BinOp a .Add b pos) G (.int (i + j)) := ev_op2 (pe_op op_add pe_w pe_w) ha hb (rd_I0 fun _ => .int _)
theorem ev_sub (ha : EvD X a G (.int i)) (hb : EvD X b G (.int j)) : EvD X (.BinOp a .Sub b pos) G (.int (i - j)) := ev_op2 (pe_op op_sub pe_w pe_w) ha hb (rd_I0 fun _ => .int _)
/-- a product: of less than a million bits -/
def MulOk (i j : Int) : Prop := CMul i j ∨ CMulW i j
theorem op_mulD : OpR X (binaryOp .Mult) (rI MulOk fun i j => .int (i * j)) := opI fun _ _ _ _ _ _ _ hc q => by
  rcases hc with hc | hc
  · exact mul_int q hc.ok
  · exact mul_int q hc.ok
theorem ev_mul (ha : EvD X a G (.int i)) (hb : EvD X b G (.int j)) (h : MulOk i j) : EvD X (.BinOp a .Mult b pos) G (.int (i * j)) := ev_op2 (pe_op op_mulD pe_w pe_w) ha hb (rd_I h fun _ => .int _)
theorem ev_fdiv (ha : EvD X a G (.int i)) (hb : EvD X b G (.int j)) (h : CDivW i j) : EvD X (.BinOp a .FloorDiv b pos) G (.int (i / j)) := ev_op2 (pe_op op_fdivW pe_w pe_w) ha hb (rd_I h fun _ => .int _)
theorem ev_mod (ha : EvD X a G (.int i)) (hb : EvD X b G (.int j)) (h : 0 < j) : EvD X (.BinOp a .Mod b pos) G (.int (i % j)) := ev_op2 (pe_op op_mod pe_w pe_w) ha hb (rd_I (C := fun _ j => 0 < j) h fun _ => .int _)
theorem ev_pow (ha : EvD X a G (.int i)) (hb : EvD X b G (.int j)) (h : CPow i j) : EvD X (.BinOp a .Pow b pos) G (.int (i ^ j.toNat)) := ev_op2 (pe_op op_pow pe_w pe_w) ha hb (rd_I h fun _ => .int _)
theorem ev_neg (ha : EvD X a G (.int i)) : EvD X (.UnaryOp .USub a pos) G (.int (-i)) := fun H0 S H σ o e Q q =>
  we (pe_un un_neg pe_w) (ha H0 S H σ o e _ fun v S1 H1 x1 d1 => by
    cases d1
    exact ⟨i, rfl, q _ _ _ x1 (.int _)⟩)
/-! tests -/
theorem et_op2 {r : R2} {bb : Bool} (ht : PT X e (tTest (tOp r (WE X a) (WE X b)))) (ha : EvD X a G da) (hb : EvD X b G db) (hr : RD X.K r da db (.bool bb)) : EvT X e G bb := fun H0 S H σ o i Q q =>
  wt ht (ha H0 S H σ o i _ fun x S1 H1 x1 d1 => hb H0 S1 H1 σ (o.ext x1) x1.i _ fun y S2 H2 x2 d2 => hr S2 H2 x y x2.i (x2.s.dp d1) d2 _ fun v S3 H3 x3 d3 => by
    cases d3
    exact ⟨bb, rfl, q S3 H3 ((x1.trans x2).trans x3)⟩)
theorem et_lt (ha : EvD X a G (.int i)) (hb : EvD X b G (.int j)) : EvT X (.Compare a [.Lt] [b] pos) G (decide (i < j)) := et_op2 (pt_cmpR op_lt pe_w pe_w (nomark _)) ha hb (rd_I0 fun _ => .bl _)
theorem et_le (ha : EvD X a G (.int i)) (hb : EvD X b G (.int j)) : EvT X (.Compare a [.LtE] [b] pos) G (decide (i ≤ j)) := et_op2 (pt_cmpR op_le pe_w pe_w (nomark _)) ha hb (rd_I0 fun _ => .bl _)
theorem et_gt (ha : EvD X a G (.int i)) (hb : EvD X b G (.int j)) : EvT X (.Compare a [.Gt] [b] pos) G (decide (j < i)) := et_op2 (pt_cmpR op_gt pe_w pe_w (nomark _)) ha hb (rd_I0 fun _ => .bl _)
theorem et_ge (ha : EvD X a G (.int i)) (hb : EvD X b G (.int j)) : EvT X (.Compare a [.GtE] [b] pos) G (decide (j ≤ i)) := et_op2 (pt_cmpR op_ge pe_w pe_w (nomark _)) ha hb (rd_I0 fun _ => .bl _)
theorem rd_eqD {K : Fg} (h1 : SeqAt.shaped da = true) (h2 : SeqAt.shaped db = true) : RD K (rEqD K) da db (.bool (PyData.eqv da db)) := fun S H x y e d1 d2 Q q =>
  ⟨da, db, e.dp d1, e.dp d2, h1, h2, q _ S H (Ext.refl e) (.bl _)⟩
theorem rd_neD {K : Fg} (h1 : SeqAt.shaped da = true) (h2 : SeqAt.shaped db = true) : RD K (rNeD K) da db (.bool (!PyData.eqv da db)) := fun S H x y e d1 d2 Q q =>
  ⟨da, db, e.dp d1, e.dp d2, h1, h2, q _ S H (Ext.refl e) (.bl _)⟩
theorem et_eq (hu : X.A.units + 64 < cLine) (ha : EvD X a G da) (hb : EvD X b G db) (h1 : SeqAt.shaped da = true) (h2 : SeqAt.shaped db = true) : EvT X (.Compare a [.Eq] [b] pos) G (PyData.eqv da db) :=
  et_op2 (pt_cmpR (op_eqD hu) pe_w pe_w (nomark _)) ha hb (rd_eqD h1 h2)
theorem et_ne (hu : X.A.units + 64 < cLine) (ha : EvD X a G da) (hb : EvD X b G db) (h1 : SeqAt.shaped da = true) (h2 : SeqAt.shaped db = true) : EvT X (.Compare a [.NotEq] [b] pos) G (!PyData.eqv da db) :=
  et_op2 (pt_cmpR (op_neD hu) pe_w pe_w (nomark _)) ha hb (rd_neD h1 h2)
theorem ev_eq (hu : X.A.units + 64 < cLine) (ha : EvD X a G da) (hb : EvD X b G db) (h1 : SeqAt.shaped da = true) (h2 : SeqAt.shaped db = true) : EvD X (.Compare a [.Eq] [b] pos) G (.bool (PyData.eqv da db)) :=
  ev_op2 (pe_cmpR (op_eqD hu) pe_w pe_w (nomark _)) ha hb (rd_eqD h1 h2)
/-- ints -/
theorem rd_eqI {K : Fg} : RD K rEq (.int i) (.int j) (.bool (decide (i = j))) := fun S H x y e d1 d2 Q q => by
  cases d1
  cases d2
  refine ⟨rfl, ?_⟩
  have h : decide (V.int i = V.int j) = decide (i = j) := by
    by_cases c : i = j
    · subst c
      rw [decide_eq_true rfl, decide_eq_true rfl]
    · rw [decide_eq_false c, decide_eq_false fun z => c (V.int.inj z)]
  rw [h]
  exact q _ S H (Ext.refl e) (.bl _)
theorem rd_neI {K : Fg} : RD K rNe (.int i) (.int j) (.bool (!decide (i = j))) := fun S H x y e d1 d2 Q q => by
  cases d1
  cases d2
  refine ⟨rfl, ?_⟩
  have h : decide (V.int i = V.int j) = decide (i = j) := by
    by_cases c : i = j
    · subst c
      rw [decide_eq_true rfl, decide_eq_true rfl]
    · rw [decide_eq_false c, decide_eq_false fun z => c (V.int.inj z)]
  rw [h]
  exact q _ S H (Ext.refl e) (.bl _)
theorem et_eqI (ha : EvD X a G (.int i)) (hb : EvD X b G (.int j)) : EvT X (.Compare a [.Eq] [b] pos) G (decide (i = j)) := et_op2 (pt_cmpR op_eq pe_w pe_w (nomark _)) ha hb rd_eqI
theorem et_neI (ha : EvD X a G (.int i)) (hb : EvD X b G (.int j)) : EvT X (.Compare a [.NotEq] [b] pos) G (!decide (i = j)) := et_op2 (pt_cmpR op_ne pe_w pe_w (nomark _)) ha hb rd_neI
theorem ev_eqI (ha : EvD X a G (.int i)) (hb : EvD X b G (.int j)) : EvD X (.Compare a [.Eq] [b] pos) G (.bool (decide (i = j))) := ev_op2 (pe_cmpR op_eq pe_w pe_w (nomark _)) ha hb rd_eqI
theorem ev_lt (ha : EvD X a G (.int i)) (hb : EvD X b G (.int j)) : EvD X (.Compare a [.Lt] [b] pos) G (.bool (decide (i < j))) := ev_op2 (pe_cmpR op_lt pe_w pe_w (nomark _)) ha hb (rd_I0 fun _ => .bl _)
theorem ev_le (ha : EvD X a G (.int i)) (hb : EvD X b G (.int j)) : EvD X (.Compare a [.LtE] [b] pos) G (.bool (decide (i ≤ j))) := ev_op2 (pe_cmpR op_le pe_w pe_w (nomark _)) ha hb (rd_I0 fun _ => .bl _)
theorem et_val {bb : Bool} (h : EvD X e G (.bool bb)) (he : ∀ whole, isTrue e X.env whole = (do let v ← whole; standAt e.pos; holding [v] (truthy v)) := by intro _; rfl) : EvT X e G bb := fun H0 S H σ o i Q q =>
  wt (pt_val pe_w he) (h H0 S H σ o i _ fun v S1 H1 x1 d1 => by
    cases d1
    exact ⟨bb, rfl, q S1 H1 x1⟩)
theorem et_w {bb : Bool} (h : EvW X e G bb) : EvT X e G bb := fun H0 S H σ o i Q q => wt (PW.pt pw_w) (h H0 S H σ o i Q q)
theorem ew_and1 {bb : Bool} (h : EvT X a G bb) : EvW X (.BoolOp .And [a] pos) G bb := fun H0 S H σ o i Q q => ww (pw_and1 pt_w) (h H0 S H σ o i Q q)
theorem ew_or1 {bb : Bool} (h : EvT X a G bb) : EvW X (.BoolOp .Or [a] pos) G bb := fun H0 S H σ o i Q q => ww (pw_or1 pt_w) (h H0 S H σ o i Q q)
theorem ew_and {p q : Bool} (h : EvT X a G p) (k : p = true → EvW X (.BoolOp .And (b :: es) pos) G q) : EvW X (.BoolOp .And (a :: b :: es) pos) G (p && q) := fun H0 S H σ o i Q w =>
  ww (pw_and pt_w pw_w) (h H0 S H σ o i _ fun S1 H1 x1 => by
    cases p with
    | true =>
      rw [if_pos rfl]
      exact k rfl H0 S1 H1 σ (o.ext x1) x1.i Q fun S2 H2 x2 => w S2 H2 (x1.trans x2)
    | false =>
      rw [if_neg Bool.false_ne_true]
      exact w S1 H1 x1)
theorem ew_or {p q : Bool} (h : EvT X a G p) (k : p = false → EvW X (.BoolOp .Or (b :: es) pos) G q) : EvW X (.BoolOp .Or (a :: b :: es) pos) G (p || q) := fun H0 S H σ o i Q w =>
  ww (pw_or pt_w pw_w) (h H0 S H σ o i _ fun S1 H1 x1 => by
    cases p with
    | true =>
      rw [if_pos rfl]
      exact w S1 H1 x1
    | false =>
      rw [if_neg Bool.false_ne_true]
      exact k rfl H0 S1 H1 σ (o.ext x1) x1.i Q fun S2 H2 x2 => w S2 H2 (x1.trans x2))
theorem et_not {p : Bool} (h : EvT X a G p) : EvT X (.UnaryOp .Not a pos) G (!p) := fun H0 S H σ o i Q q => wt (pt_not pt_w) (h H0 S H σ o i _ q)
theorem ev_if {p : Bool} (h : EvT X c G p) (h1 : p = true → EvD X a G d) (h2 : p = false → EvD X b G d) : EvD X (.IfExp c a b pos) G d := fun H0 S H σ o i Q q =>
  we (pe_ifExp pt_w pe_w pe_w) (h H0 S H σ o i _ fun S1 H1 x1 => by
    cases p with
    | true =>
      rw [if_pos rfl]
      exact h1 rfl H0 S1 H1 σ (o.ext x1) x1.i Q fun v S2 H2 x2 => q v S2 H2 (x1.trans x2)
    | false =>
      rw [if_neg Bool.false_ne_true]
      exact h2 rfl H0 S1 H1 σ (o.ext x1) x1.i Q fun v S2 H2 x2 => q v S2 H2 (x1.trans x2))
/-! lists of expressions, displays, items -/
theorem ea_nil : EvA X [] G [] := fun H0 S H σ o i Q q => wa pa_nil (q [] S H (Ext.refl i) .nil)
theorem ea_cons (h : EvD X e G d) (hr : EvA X es G ds) (hs : starEach (e :: es) X.env = (false, eval e X.env) :: starEach es X.env := by rfl) : EvA X (e :: es) G (d :: ds) := fun H0 S H σ o i Q q =>
  wa (pa_cons pe_w pa_w hs) (h H0 S H σ o i _ fun v S1 H1 x1 d1 => hr H0 S1 H1 σ (o.ext x1) x1.i _ fun vs S2 H2 x2 d2 => q _ S2 H2 (x1.trans x2) (.cons (x2.s.dp d1) d2))
theorem ev_tup {x1} (h : EvA X es G ds) (hl : ds.length ≤ sizeLine := by exact Nat.le_of_ble_eq_true rfl) : EvD X (.Tuple es x1 pos) G (.tuple ds) := fun H0 S H σ o i Q q =>
  we (pe_tup pa_w) (h H0 S H σ o i _ fun vs S1 H1 x1 d1 => ⟨by rw [DpAll.len d1]; exact hl, fun p hp => q _ _ _ (x1.add hp) (.tup (SqT.of upd_same) (((Ex.refl S1).new (x1.i.none hp)).dpAll d1))⟩)
theorem en_lst (h : EvA X es G ds) (hl : ds.length ≤ sizeLine := by exact Nat.le_of_ble_eq_true rfl) : EvN X (.List es pos) G ds := fun H0 S H σ o i Q q =>
  we (pe_lst pa_w) (h H0 S H σ o i _ fun vs S1 H1 x1 d1 => ⟨by rw [DpAll.len d1]; exact hl, fun p hp => q p vs _ _ (x1.own (x1.h.none hp) (x1.i.none hp)) (x1.h.none hp) (x1.i.none hp) upd_same d1⟩)
theorem atI_len {α β : Type} {xs : List α} {ys : List β} (h : xs.length = ys.length) {k : Int} {y : β} (q : atI ys k = some y) : ∃ n : Nat, ixN xs.length k = some n ∧ ys[n]? = some y := by
  unfold atI at q
  rw [← h] at q
  cases c : ixN xs.length k with
  | none =>
    rw [c] at q
    cases q
  | some n =>
    rw [c] at q
    exact ⟨n, rfl, q⟩
theorem DpAll.at {K : Fg} {S : Hp} {vs : List V} {ds : List D} {k : Int} {d : D} (h : DpAll K S vs ds) (q : atI ds k = some d) : ∃ v, atI vs k = some v ∧ Dp K S v d := by
  obtain ⟨n, h1, h2⟩ := atI_len (xs := vs) (DpAll.len h) q
  obtain ⟨v, h3, h4⟩ := DpAll.get h h2
  refine ⟨v, ?_, h4⟩
  unfold atI
  rw [h1]
  exact h3
theorem ev_ixT {k : Int} (ha : EvD X a G (.tuple ds)) (hb : EvD X b G (.int k)) (h : atI ds k = some d) (hs : PlainIx b := by exact fun _ _ => rfl) : EvD X (.Subscript a b pos) G d :=
  ev_op2 (pe_ix ix_tup pe_w pe_w hs) ha hb fun S H x y e d1 d2 Q q => by
    cases d1 with
    | tup hq ha =>
      cases d2
      obtain ⟨v, h1, h2⟩ := DpAll.at ha h
      exact ⟨_, _, k, v, rfl, rfl, e.sqT hq, h1, q v S H (Ext.refl e) h2⟩
theorem ev_ixL {k : Int} (ha : EvD X a G (.list ds)) (hb : EvD X b G (.int k)) (h : atI ds k = some d) (hs : PlainIx b := by exact fun _ _ => rfl) : EvD X (.Subscript a b pos) G d :=
  ev_op2 (pe_ix ix_list pe_w pe_w hs) ha hb fun S H x y e d1 d2 Q q => by
    cases d1 with
    | lst hq ha =>
      cases d2
      obtain ⟨v, h1, h2⟩ := DpAll.at ha h
      exact ⟨_, _, k, v, rfl, rfl, e.sqL hq, h1, q v S H (Ext.refl e) h2⟩
/-! built-in calls -/
def CD (K : Fg) (r : List V → Hp → VK → Prop) (ds : List D) (d : D) : Prop := ∀ (S H : Hp) (vs : List V), Ex S H → DpAll K S vs ds → ∀ Q : VK, (∀ v S' H', Ext S H S' H' → Dp K S' v d → Q v H') → r vs H Q
theorem ev_cb {r : List V → Hp → VK → Prop} (ht : PE X e (tCB r (WA X es))) (ha : EvA X es G ds) (hr : CD X.K r ds d) : EvD X e G d := fun H0 S H σ o i Q q =>
  we ht (ha H0 S H σ o i _ fun vs S1 H1 x1 d1 => hr S1 H1 vs x1.i d1 Q fun v S2 H2 x2 d2 => q v S2 H2 (x1.trans x2) d2)
end
end DL

namespace DL
open PySem PySem.Spec PyProof.Rows L2

/-! ### errors, outcomes, promises -/
structure Exc where
  cls : Value
  fs : List (Str × D)
/-- the error's own dict, where it has one -/
def XDp (K : Fg) (S : Hp) (a : Option Addr) (fs : List (Str × D)) : Prop :=
  match a with
  | none => fs = []
  | some p => ∃ fv : List (Str × V), S p = some (.xd fv) ∧ fv.map (·.1) = fs.map (·.1) ∧ DpAll K S (fv.map (·.2)) (fs.map (·.2))
inductive Out where
  | val (d : D)
  | exc (x : Exc)
def spD (K : Fg) (R : List D → Out → Prop) : Sp := fun vs H Q E => ∃ (S : Hp) (ds : List D) (o : Out), Ex S H ∧ DpAll K S vs ds ∧ R ds o ∧
  match o with
  | .val d => ∀ v S' H', Ext S H S' H' → Dp K S' v d → Q v H'
  | .exc x => ∀ a S' H', Ext S H S' H' → XDp K S' a x.fs → E x.cls a H'

/-! ### what a statement does -/
structure Fin' where
  nx : Gam → Prop
  rt : D → Prop
  bk : Gam → Prop := fun _ => False
  ct : Gam → Prop := fun _ => False
  ex : Exc → Gam → Prop := fun _ _ => False
abbrev Fin := Fin'
structure Met (X : Cx) (W : WX) (S0 H0 : Hp) (F : DL.Fin) (E : Ends) : Prop where
  nx : ∀ (σ : L2.St) (S H : Hp) (G : Gam), Ext S0 H0 S H → Hol X.K H0 S H σ G → F.nx G → E.nx σ H
  rt : ∀ (v : V) (S H : Hp) (d : D), Ext S0 H0 S H → Dp X.K S v d → F.rt d → E.rt v H
  bk : ∀ (σ : L2.St) (S H : Hp) (G : Gam), Ext S0 H0 S H → Hol X.K H0 S H σ G → F.bk G → E.bk σ H
  ct : ∀ (σ : L2.St) (S H : Hp) (G : Gam), Ext S0 H0 S H → Hol X.K H0 S H σ G → F.ct G → E.ct σ H
  ex : ∀ (x : Exc) (σ : L2.St) (S H : Hp) (G : Gam) (a : Option Addr), Ext S0 H0 S H → Hol X.K H0 S H σ G → XDp X.K S a x.fs → F.ex x G → W x.cls a σ H
def GS (X : Cx) (W : WX) (st : Stmt) (F : DL.Fin) (G : Gam) : Prop := ∀ (S0 H0 S H : Hp) (σ : L2.St) (E : Ends), Ext S0 H0 S H → Hol X.K H0 S H σ G → Met X W S0 H0 F E → WS X st E σ H
def GSs (X : Cx) (W : WX) (sts : List Stmt) (F : DL.Fin) (G : Gam) : Prop := ∀ (S0 H0 S H : Hp) (σ : L2.St) (E : Ends), Ext S0 H0 S H → Hol X.K H0 S H σ G → Met X W S0 H0 F E → WSs X sts E σ H

section
variable {X : Cx} {W : WX} {F F' : DL.Fin} {G : Gam} {st : Stmt} {sts body els : List Stmt} {e a b c : Expr} {es : List Expr} {d da db : D} {ds : List D} {pos pos' : Pos} {x : Str}
theorem gs_nil (h : F.nx G) : GSs X W [] F G := fun S0 H0 S H σ E x o m => wss pss_nil (m.nx σ S H G x o h)
theorem gs_cons (h : GS X W st { F with nx := fun G' => GSs X W sts F G' } G) : GSs X W (st :: sts) F G := fun S0 H0 S H σ E x o m =>
  wss (pss_cons ps_w pss_w) (h S0 H0 S H σ { E with nx := WSs X sts E } x o ⟨fun σ' S' H' G' x' o' k => k S0 H0 S' H' σ' E x' o' m, m.rt, m.bk, m.ct, m.ex⟩)
theorem gs_imp (h : GS X W st F G) (n : ∀ G', F.nx G' → F'.nx G') (r : ∀ d, F.rt d → F'.rt d := by exact fun _ h => h) (bb : ∀ G', F.bk G' → F'.bk G' := by exact fun _ h => h) (cc : ∀ G', F.ct G' → F'.ct G' := by exact fun _ h => h) (xx : ∀ y G', F.ex y G' → F'.ex y G' := by exact fun _ _ h => h) : GS X W st F' G :=
  fun S0 H0 S H σ E x o m => h S0 H0 S H σ E x o ⟨fun σ' S' H' G' x' o' k => m.nx σ' S' H' G' x' o' (n _ k), fun v S' H' d x' o' k => m.rt v S' H' d x' o' (r _ k), fun σ' S' H' G' x' o' k => m.bk σ' S' H' G' x' o' (bb _ k), fun σ' S' H' G' x' o' k => m.ct σ' S' H' G' x' o' (cc _ k),
    fun y σ' S' H' G' a x' o' q k => m.ex y σ' S' H' G' a x' o' q (xx _ _ k)⟩
theorem gss_imp (h : GSs X W sts F G) (n : ∀ G', F.nx G' → F'.nx G') (r : ∀ d, F.rt d → F'.rt d := by exact fun _ h => h) (bb : ∀ G', F.bk G' → F'.bk G' := by exact fun _ h => h) (cc : ∀ G', F.ct G' → F'.ct G' := by exact fun _ h => h) (xx : ∀ y G', F.ex y G' → F'.ex y G' := by exact fun _ _ h => h) : GSs X W sts F' G :=
  fun S0 H0 S H σ E x o m => h S0 H0 S H σ E x o ⟨fun σ' S' H' G' x' o' k => m.nx σ' S' H' G' x' o' (n _ k), fun v S' H' d x' o' k => m.rt v S' H' d x' o' (r _ k), fun σ' S' H' G' x' o' k => m.bk σ' S' H' G' x' o' (bb _ k), fun σ' S' H' G' x' o' k => m.ct σ' S' H' G' x' o' (cc _ k),
    fun y σ' S' H' G' a x' o' q k => m.ex y σ' S' H' G' a x' o' q (xx _ _ k)⟩
/-- a statement, then the rest from M -/
theorem gs_cut (M : Gam → Prop) (h : GS X W st { F with nx := M } G) (k : ∀ G', M G' → GSs X W sts F G') : GSs X W (st :: sts) F G := gs_cons (gs_imp h k)
/-- what is known is made ready ahead of a statement -/
theorem gs_keep {i : Nat} (hi : G[i]? = some (.own ds) := by rfl) (h : GSs X W sts F (G.set i (.im (.list ds)))) : GSs X W sts F G := fun S0 H0 S H σ E x o m => by
  obtain ⟨p, vs, h0, hs, hp, o'⟩ := o.keep hi
  exact h S0 H0 (upd S p (.lst vs)) H σ E (x.keep h0 hs hp) o' m
theorem gs_drop (i : Nat) (h : GSs X W sts F (G.set i .no)) : GSs X W sts F G := fun S0 H0 S H σ E x o m => h S0 H0 S H σ E x o.drop m
/-- x = e -/
theorem gs_set (i : Nat) (he : EvD X e G d) (k : F.nx (G.set i (.im d))) (hi : X.N[i]? = some x := by rfl) (hN : X.N.Nodup := by assumption) (hx : Loc X.env.scope x := by first | exact Or.inl rfl | exact Or.inr rfl)
    (hs : swapsWith e (some (.Name x pos')) pos.line X.env = pure false := by rfl) (hf : X.fn x = true ∨ X.env.scope.names.lookup x = some .local := by first | exact .inl rfl | exact .inr rfl | assumption) : GS X W (.Assign [.Name x pos'] e pos) F G := fun S0 H0 S H σ E x o m =>
  ws (ps_set (i := i) hN hi hx pe_w hs hf) (he H0 S H σ o x.i _ fun v S1 H1 x1 d1 => m.nx _ S1 H1 _ (x.trans x1) ((o.ext x1).set_im d1) k)
/-- x = a new list -/
theorem gs_setN (i : Nat) (he : EvN X e G ds) (k : F.nx (G.set i (.own ds))) (hi : X.N[i]? = some x := by rfl) (hN : X.N.Nodup := by assumption) (hx : Loc X.env.scope x := by first | exact Or.inl rfl | exact Or.inr rfl)
    (hs : swapsWith e (some (.Name x pos')) pos.line X.env = pure false := by rfl) (hf : X.fn x = true ∨ X.env.scope.names.lookup x = some .local := by first | exact .inl rfl | exact .inr rfl | assumption) : GS X W (.Assign [.Name x pos'] e pos) F G := fun S0 H0 S H σ E x o m =>
  ws (ps_set (i := i) hN hi hx pe_w hs hf) (he H0 S H σ o x.i _ fun p vs S1 H1 x1 h0 hs1 hp d1 => m.nx _ S1 H1 _ (x.trans x1) ((o.ext x1).set_own (x.h.none h0) hs1 hp d1 fun j es hj hg hv => by
    obtain ⟨q, ws', a1, a2, a3, a4, a5⟩ := o.own j es hg
    rw [a1] at hv
    have z : q = p := V.ref.inj (Option.some.inj (Option.some.inj hv))
    subst z
    rw [a4] at h0
    cases h0) k)
/-- x, y = a, b -/
theorem gs_par {y : Str} {px py pt : Pos} {kt k2 pt2} (i j : Nat) (ha : EvA X [a, b] G [da, db]) (k : F.nx ((G.set i (.im da)).set j (.im db))) (hi : X.N[i]? = some x := by rfl) (hj : X.N[j]? = some y := by rfl) (hij : i ≠ j := by decide) (hN : X.N.Nodup := by assumption) (hc : X.calm = true := by rfl)
    (hx : X.env.scope.names.lookup x = some .local := by rfl) (hy : X.env.scope.names.lookup y = some .local := by rfl)
    (hw : swappedStores [.Tuple [.Name x px, .Name y py] kt pt] (.Tuple [a, b] k2 pt2) X.env = pure (some [x, y]) := by rfl)
    (hs : swapsWithSole [.Tuple [.Name x px, .Name y py] kt pt] (.Tuple [a, b] k2 pt2) pos.line X.env = pure false := by rfl) :
    GS X W (.Assign [.Tuple [.Name x px, .Name y py] kt pt] (.Tuple [a, b] k2 pt2) pos) F G := fun S0 H0 S H σ E x o m =>
  ws (ps_par (i := i) (j := j) hc hN hi hj hij hx hy pa_w hw hs) (ha H0 S H σ o x.i _ fun vs S1 H1 x1 d1 => by
    cases d1 with
    | cons d1 d2 =>
      cases d2 with
      | cons d2 d3 =>
        cases d3
        exact ⟨_, _, rfl, m.nx _ S1 H1 _ (x.trans x1) (((o.ext x1).set_im d1).set_im d2) k⟩)
theorem gs_if {p : Bool} (hc : EvT X c G p) (h1 : p = true → GSs X W body F G) (h2 : p = false → GSs X W els F G) : GS X W (.If c body els pos) F G := fun S0 H0 S H σ E x o m =>
  ws (ps_if pt_w pss_w pss_w) (hc H0 S H σ o x.i _ fun S1 H1 x1 => by
    cases p with
    | true =>
      rw [if_pos rfl]
      exact h1 rfl S0 H0 S1 H1 σ E (x.trans x1) (o.ext x1) m
    | false =>
      rw [if_neg Bool.false_ne_true]
      exact h2 rfl S0 H0 S1 H1 σ E (x.trans x1) (o.ext x1) m)
theorem gs_ret (he : EvD X e G d) (k : F.rt d) : GS X W (.Return (some e) pos) F G := fun S0 H0 S H σ E x o m =>
  ws (ps_ret pe_w) (he H0 S H σ o x.i _ fun v S1 H1 x1 d1 => m.rt v S1 H1 d (x.trans x1) d1 k)
theorem gs_retN (k : F.rt .none) : GS X W (.Return none pos) F G := fun S0 H0 S H σ E x o m => ws ps_retN (m.rt .non S H .none x .non k)
theorem gs_pass (k : F.nx G) : GS X W (.Pass pos) F G := fun S0 H0 S H σ E x o m => ws ps_pass (m.nx σ S H G x o k)
theorem gs_doc {j : Nat} (k : F.nx G) : GS X W (.Expr (.Constant (.str x) j pos) pos') F G := fun S0 H0 S H σ E x o m => ws ps_doc (m.nx σ S H G x o k)
theorem gs_break (k : F.bk G) : GS X W (.Break pos) F G := fun S0 H0 S H σ E x o m => ws ps_break (m.bk σ S H G x o k)
theorem gs_cont (k : F.ct G) : GS X W (.Continue pos) F G := fun S0 H0 S H σ E x o m => ws ps_continue (m.ct σ S H G x o k)
theorem gs_expr (he : EvD X e G d) (k : F.nx G) (hs : swapsWith e none pos.line X.env = pure false := by rfl) : GS X W (.Expr e pos) F G := fun S0 H0 S H σ E x o m =>
  ws (ps_expr pe_w hs) (he H0 S H σ o x.i _ fun v S1 H1 x1 d1 => m.nx σ S1 H1 G (x.trans x1) (o.ext x1) k)
end
end DL

namespace DL
open PySem PySem.Spec PyProof.Rows L2

/-! ### defs and their calls -/
structure DefOk (P : Program) (w : World) (K : Fg) (mg : Str → Option Value) (base : Heap) (CX : CXT) (k : Nat) (x : Str) (R : List D → Out → Prop) : Prop where
  ex : ∃ (f : Addr) (fd : FuncData) (ps : List Str), FnOk P w K mg base CX k f fd ps (spD K R) ∧ mg x = some (.ref f) ∧ PySem.W.keepIn K (.ref f) = true ∧ Binds K fd ps []
theorem DefOk.mono {P : Program} {w : World} {K : Fg} {mg : Str → Option Value} {base : Heap} {CX : CXT} {j k : Nat} {x : Str} {R : List D → Out → Prop} (F : DefOk P w K mg base CX j x R) (h : j ≤ k) : DefOk P w K mg base CX k x R :=
  let ⟨f, fd, ps, a, b⟩ := F.ex; ⟨f, fd, ps, a.mono h, b⟩
section
variable {X : Cx} {W : WX} {F : DL.Fin} {G : Gam} {e a b c : Expr} {es : List Expr} {d da db : D} {ds : List D} {pos pos' p : Pos} {x : Str} {k j : Nat} {R : List D → Out → Prop} {CX : CXT} {y : Exc}
theorem ev_call (Fn : DefOk X.prog X.w X.K X.mg X.base CX j x R) (hr : Room k X.A) (ha : EvA X (e :: es) G ds) (h : R ds (.val d)) (hj : j ≤ k := by decide) (hx : Passes CX X E0 := by first | exact pass0 | exact passL) (hg : Gl X x := by rfl)
    (hdb : (x == ("__debug__" : Str)) = false := by decide) (he : starEach (e :: es) X.env = (false, eval e X.env) :: starEach es X.env := by rfl) (hpl : (backTo pos (starEach es X.env)).any (·.1) = false := by rfl) :
    EvD X (.Call (.Name x p) (e :: es) [] pos) G d := fun H0 S H σ o i Q q => by
  obtain ⟨f, fd, ps, F, hm, hk, hb⟩ := Fn.ex
  refine we (pe_call F (hr.mono hj) hg hm hk hb .nil hx pa_w hdb he hpl) (ha H0 S H σ o i _ fun vs S1 H1 x1 d1 => ?_)
  rw [List.append_nil]
  exact ⟨S1, ds, .val d, x1.i, d1, h, fun v S2 H2 x2 d2 => q v S2 H2 (x1.trans x2) d2⟩
/-- e raises y -/
def EvX (X : Cx) (W : WX) (e : Expr) (G : Gam) (y : Exc) : Prop := ∀ (H0 S H : Hp) (σ : L2.St), Hol X.K H0 S H σ G → Ex S H → (∀ a S' H', Ext S H S' H' → XDp X.K S' a y.fs → W y.cls a σ H') → ∀ Q : VK, DL.WE X e σ H Q
theorem ex_call (tk : Takes X W) (Fn : DefOk X.prog X.w X.K X.mg X.base (L2.CX X.prog X.w) j x R) (hr : Room k X.A) (ha : EvA X (e :: es) G ds) (h : R ds (.exc y)) (hj : j ≤ k := by decide) (hg : Gl X x := by rfl)
    (hdb : (x == ("__debug__" : Str)) = false := by decide) (he : starEach (e :: es) X.env = (false, eval e X.env) :: starEach es X.env := by rfl) (hpl : (backTo pos (starEach es X.env)).any (·.1) = false := by rfl) :
    EvX X W (.Call (.Name x p) (e :: es) [] pos) G y := fun H0 S H σ o i w Q => by
  obtain ⟨f, fd, ps, F, hm, hk, hb⟩ := Fn.ex
  refine we (pe_callS F (hr.mono hj) hg hm hk hb (fun σ => passAt tk σ) pa_w hdb he hpl) (ha H0 S H σ o i _ fun vs S1 H1 x1 d1 => ?_)
  exact ⟨S1, ds, .exc y, x1.i, d1, h, fun aa S2 H2 x2 d2 => w aa S2 H2 (x1.trans x2) d2⟩
theorem Met.goes {S0 H0 S H : Hp} {σ : L2.St} {E : Ends} (m : Met X W S0 H0 F E) (x : Ext S0 H0 S H) (o : Hol X.K H0 S H σ G) (k : F.ex y G) : ∀ a S' H', Ext S H S' H' → XDp X.K S' a y.fs → W y.cls a σ H' :=
  fun aa S' H' x' q => m.ex y σ S' H' G aa (x.trans x') (o.ext x') q k
theorem gs_retX (he : EvX X W e G y) (k : F.ex y G) : GS X W (.Return (some e) pos) F G := fun S0 H0 S H σ E x o m => ws (ps_ret pe_w) (he H0 S H σ o x.i (m.goes x o k) _)
theorem gs_exprX (he : EvX X W e G y) (k : F.ex y G) (hs : swapsWith e none pos.line X.env = pure false := by rfl) : GS X W (.Expr e pos) F G := fun S0 H0 S H σ E x o m => ws (ps_expr pe_w hs) (he H0 S H σ o x.i (m.goes x o k) _)
theorem gs_setX {n : Str} (i : Nat) (he : EvX X W e G y) (k : F.ex y G) (hi : X.N[i]? = some n := by rfl) (hN : X.N.Nodup := by assumption) (hx : Loc X.env.scope n := by first | exact Or.inl rfl | exact Or.inr rfl)
    (hs : swapsWith e (some (.Name n pos')) pos.line X.env = pure false := by rfl) (hf : X.fn n = true ∨ X.env.scope.names.lookup n = some .local := by first | exact .inl rfl | exact .inr rfl | assumption) : GS X W (.Assign [.Name n pos'] e pos) F G := fun S0 H0 S H σ E x o m =>
  ws (ps_set (i := i) hN hi hx pe_w hs hf) (he H0 S H σ o x.i (m.goes x o k) _)
end

/-! ### an own error, raised and caught -/
section
variable {X : Cx} {W : WX} {F : DL.Fin} {G : Gam} {e : Expr} {x : Str} {C : Addr} {bmB : List Value} {B newId initId : String} {p pos pos' np : Pos} {body suite : List Stmt} {b₀ : Stmt} {c : Value}
theorem pmk_own0 (Fb : ExcBaseFacts B newId initId bmB) (q : PySem.W.excIn X.K C bmB newId = true) (gC : X.mg x = some (.ref C)) (kC : PySem.W.keepIn X.K (.ref C) = true) (r : Raises X (.ref C)) (hg : Gl X x)
    (hdb : (x == ("__debug__" : Str)) = false := by decide) : PMk X (.Call (.Name x p) [] [] pos) (fun σ H Q => Q (.ref C) none H) := by
  intro pins s σ H Q I h
  refine wpAny_Call_Name_kw (ld_glob I hg gC ?_ hdb)
  refine PySem.W.callWith_K0 I.kIn kC ?_
  show wpAny _ _ (call (.ref C) []) _ _ _
  obtain ⟨bm, N, nm, qn, bs, hdct, sn, sub, ab, col, dd, k0, k1, k2, k3, k5, mN, hC, hN, hni, T⟩ := exc_obj I.kIn q
  refine wpAny_call_exc_subT Fb T hC hN hni (fun h' e hm => ?_) (Nat.zero_le _)
  exact mk_of I hm r h (I.hok.gone hm.new)
/-- what stands of an own error class without more -/
structure ErrOk (K : Fg) (mg : Str → Option Value) (x : Str) (C : Addr) (bmB : List Value) (newId : String) : Prop where
  g : mg x = some (.ref C)
  e : PySem.W.excIn K C bmB newId = true
  k : PySem.W.keepIn K (.ref C) = true
  b : PySem.W.subIn K (.ref C) (.type "BaseException") = some true
  t : PySem.W.typeIn K (.ref C) = some (.type "type")
theorem gs_raise0 (tk : Takes X W) (Fb : ExcBaseFacts B newId initId bmB) (T : ErrOk X.K X.mg x C bmB newId) (k : F.ex ⟨.ref C, []⟩ G) (hc : X.calm = true := by rfl) (hg : Gl X x := by rfl) (hdb : (x == ("__debug__" : Str)) = false := by decide) :
    GS X W (.Raise (some (.Call (.Name x p) [] [] pos)) none pos') F G := fun S0 H0 S H σ E y o m =>
  ws (ps_raise hc tk (pmk_own0 Fb T.e T.g T.k (raises_own T.b T.t) hg hdb)) (m.ex ⟨.ref C, []⟩ σ S H G none y o rfl k)
/-- try: body / except x: suite, the suite raises nothing -/
theorem gs_try (tk : Takes X W) (hs : X.stack = X.env :: X.outer) (hf : X.env.frame = some X.env.locals) (hc : Names X x c)
    (hb : ∀ (W' : WX) (pn : List (Addr × Obj)) (xe : Value → Shared → Prop), Takes (X.tr pn xe) W' → PassesOwn (model X.prog X.w) X.A X.env xe →
      GSs (X.tr pn xe) W' body { F with ex := fun y G' => ∃ bb, PySem.W.exmOne X.K y.cls c = some bb ∧ (bb = true → ∀ (a : Addr) (oe : Obj) (d : Option Addr) (pn : List (Addr × Obj)), Zc y.cls d oe → GSs (X.suite a ((a, oe) :: pn)) (fun _ _ _ _ => False) (b₀ :: suite) { F with ex := fun _ _ => False } G') ∧ (bb = false → F.ex y G') } G) :
    GS X W (.Try body [.ExceptHandler (some (.Name x np)) none (b₀ :: suite) pos'] [] [] pos) F G := fun S0 H0 S H σ E z o m => by
  refine ws (ps_try_only (tb := fun W' D σ H => ∀ (pn : List (Addr × Obj)) (xe : Value → Shared → Prop), Takes (X.tr pn xe) W' → PassesOwn (model X.prog X.w) X.A X.env xe → WSs (X.tr pn xe) body D σ H)
    (ts := fun a cls d D σ H => ∀ (oe : Obj) (pn : List (Addr × Obj)), Zc cls d oe → WSs (X.suite a ((a, oe) :: pn)) (b₀ :: suite) D σ H) (Wout := W) hs hf hc tk
    (fun W' pn xe t po => ⟨fun pins s σ H D I h => h pn xe t po pins s I⟩) (fun a oe cls d pn hz _ => ⟨fun pins s σ H D I h => h oe pn hz pins s I⟩)) ?_
  intro pn xe t po
  refine hb _ pn xe t po S0 H0 S H σ E z o ⟨m.nx, m.rt, m.bk, m.ct, ?_⟩
  rintro y σ1 S1 H1 G1 a z1 o1 q1 ⟨bb, h1, h2, h3⟩
  refine ⟨bb, h1, fun hbt ad na oe pn' hz => ?_, fun hbf => m.ex y σ1 S1 H1 G1 a z1 o1 q1 (h3 hbf)⟩
  exact h2 hbt ad oe a pn' hz S0 H0 S1 H1 σ1 E z1 o1 ⟨m.nx, m.rt, m.bk, m.ct, fun _ _ _ _ _ _ _ _ _ f => f.elim⟩
end

/-! ### loops -/
/-- the ground of a loop: all that is stable, and what stood at the entry -/
def bed (S H0 : Hp) : Hp := fun a => match S a with | some o => some o | none => H0 a
theorem bed_none {S H0 : Hp} {a : Addr} (h1 : S a = none) (h2 : H0 a = none) : bed S H0 a = none := by unfold bed; rw [h1]; exact h2
theorem none_bed {S H0 : Hp} {a : Addr} (h : bed S H0 a = none) : S a = none ∧ H0 a = none := by
  unfold bed at h
  cases q : S a with
  | some o => rw [q] at h; cases h
  | none => rw [q] at h; exact ⟨rfl, h⟩
theorem Ext.bed {S0 H0 S H : Hp} (x : Ext S0 H0 S H) : Ext S (bed S H0) S H := ⟨Ex.refl S, fun a o q => by
  unfold DL.bed at q
  cases c : S a with
  | some u =>
    rw [c] at q
    cases q
    exact x.i a _ c
  | none =>
    rw [c] at q
    exact x.h a o q, x.i, fun _ h _ => h⟩
theorem Ext.unbed {S0 H0 S H S' H' : Hp} (x : Ext S0 H0 S H) (y : Ext S (DL.bed S H0) S' H') : Ext S0 H0 S' H' :=
  ⟨x.s.trans y.s, fun a o q => y.h a o (by
    unfold DL.bed
    cases c : S a with
    | some u =>
      have h1 := x.i a u c
      rw [x.h a o q] at h1
      exact h1.symm
    | none => exact q), y.i, fun a h1 h2 => y.n a (x.n a h1 h2) fun z => h2 (none_bed z).2⟩
theorem Hol.bed {K : Fg} {H0 S H : Hp} {σ : L2.St} {G : Gam} (o : Hol K H0 S H σ G) : Hol K (DL.bed S H0) S H σ G :=
  ⟨o.len, o.im, fun i ds q => let ⟨p, vs, a, z, b, c⟩ := o.own i ds q; ⟨p, vs, a, bed_none b z, b, c⟩, o.sep⟩
theorem Hol.unbed {K : Fg} {H0 S S' H' : Hp} {σ : L2.St} {G : Gam} (o : Hol K (DL.bed S H0) S' H' σ G) : Hol K H0 S' H' σ G :=
  ⟨o.len, o.im, fun i ds q => let ⟨p, vs, a, z, b, c⟩ := o.own i ds q; ⟨p, vs, a, (none_bed z).2, b, c⟩, o.sep⟩
theorem Met.bed {X : Cx} {W : WX} {S0 H0 S H : Hp} {F : DL.Fin} {E : Ends} (m : Met X W S0 H0 F E) (x : Ext S0 H0 S H) : Met X W S (DL.bed S H0) F E :=
  ⟨fun σ S' H' G y o => m.nx σ S' H' G (x.unbed y) o.unbed, fun v S' H' d y => m.rt v S' H' d (x.unbed y), fun σ S' H' G y o => m.bk σ S' H' G (x.unbed y) o.unbed, fun σ S' H' G y o => m.ct σ S' H' G (x.unbed y) o.unbed,
    fun z σ S' H' G a y o => m.ex z σ S' H' G a (x.unbed y) o.unbed⟩
/-- between two turns -/
def Lp (K : Fg) (Sb Hb : Hp) (I : Gam → Prop) (σ : L2.St) (H : Hp) : Prop := ∃ S G, Ext Sb Hb S H ∧ Hol K Hb S H σ G ∧ I G
section
variable {X : Cx} {W : WX} {F : DL.Fin} {G : Gam} {e c : Expr} {es : List Expr} {d : D} {ds : List D} {pos p np : Pos} {body : List Stmt} {x : Str}
theorem Met.turn {S0 H0 : Hp} {E : Ends} {I : Gam → Prop} {N : L2.St → Hp → Prop} (m : Met X W S0 H0 F E) (hN : ∀ σ H, Lp X.K S0 H0 I σ H → N σ H) : Met X W S0 H0 { nx := I, rt := F.rt, bk := F.nx, ct := I, ex := F.ex } { E with nx := N, ct := N, bk := E.nx } :=
  ⟨fun σ S H G x o k => hN σ H ⟨S, G, x, o, k⟩, m.rt, fun σ S H G x o k => m.nx σ S H G x o k, fun σ S H G x o k => hN σ H ⟨S, G, x, o, k⟩, m.ex⟩
abbrev Fin'.turn (F : DL.Fin) (I : Gam → Prop) : DL.Fin := { nx := I, rt := F.rt, bk := F.nx, ct := I, ex := F.ex }
/-- for x in a list -/
theorem gs_forL (j : Nat) (I : Nat → Gam → Prop) (he : EvD X e G (.list ds)) (h0 : I 0 G)
    (hs : ∀ (i : Nat) (d : D) (G' : Gam), ds[i]? = some d → I i G' → GSs X W body (F.turn (I (i + 1))) (G'.set j (.im d)))
    (hd : ∀ G', I ds.length G' → F.nx G') (hp : PassesOwn (model X.prog X.w) X.A X.env X.xe) (hj : X.N[j]? = some x := by rfl) (hN : X.N.Nodup := by assumption) (hc : X.calm = true := by rfl)
    (hx : Loc X.env.scope x := by first | exact Or.inl rfl | exact Or.inr rfl) (hf : X.fn x = true ∨ X.env.scope.names.lookup x = some .local := by first | exact .inl rfl | exact .inr rfl | assumption)
    (hst : ∀ x, foldedSetIterable e X.env x = pure x := by intro _; rfl) : GS X W (.For (.Name x np) e body [] pos) F G := fun S0 H0 S H σ E z o m => by
  refine ws (ps_for hp hc (pi_list pe_w) (pg_name hN hj hx hf) pss_w hst) (he H0 S H σ o z.i _ fun v S1 H1 x1 d1 => ?_)
  cases d1 with
  | lst hq ha =>
    rename_i a vs
    have z1 := z.trans x1
    have mb := m.bed z1
    refine ⟨a, rfl, ⟨_, x1.i.sqL hq⟩, for_list (xs := vs) (fun i σ' H' => Lp X.K S1 (bed S1 H0) (I i) σ' H') ⟨S1, G, z1.bed, (o.ext x1).bed, h0⟩ ?_ ?_ ?_⟩
    · rintro i σ' H' _ ⟨S', G', y, _, _⟩
      exact y.i.sqL (y.s.sqL hq)
    · rintro i v σ' H' hv ⟨S', G', y, o', k⟩
      obtain ⟨dd, h1, h2⟩ := DpAll.getV ha hv
      exact hs i dd G' h1 k S1 (bed S1 H0) S' H' _ _ y (o'.set_im (y.s.dp h2)) (mb.turn fun _ _ q => q)
    · rintro σ' H' ⟨S', G', y, o', k⟩
      rw [DpAll.len ha] at k
      exact mb.nx σ' S' H' G' y o' (hd G' k)
/-- for x in a tuple -/
theorem gs_forT (j : Nat) (I : Nat → Gam → Prop) (he : EvD X e G (.tuple ds)) (h0 : I 0 G)
    (hs : ∀ (i : Nat) (d : D) (G' : Gam), ds[i]? = some d → I i G' → GSs X W body (F.turn (I (i + 1))) (G'.set j (.im d)))
    (hd : ∀ G', I ds.length G' → F.nx G') (hp : PassesOwn (model X.prog X.w) X.A X.env X.xe) (hj : X.N[j]? = some x := by rfl) (hN : X.N.Nodup := by assumption) (hc : X.calm = true := by rfl)
    (hx : Loc X.env.scope x := by first | exact Or.inl rfl | exact Or.inr rfl) (hf : X.fn x = true ∨ X.env.scope.names.lookup x = some .local := by first | exact .inl rfl | exact .inr rfl | assumption)
    (hst : ∀ x, foldedSetIterable e X.env x = pure x := by intro _; rfl) : GS X W (.For (.Name x np) e body [] pos) F G := fun S0 H0 S H σ E z o m => by
  refine ws (ps_for hp hc (pi_tup pe_w) (pg_name hN hj hx hf) pss_w hst) (he H0 S H σ o z.i _ fun v S1 H1 x1 d1 => ?_)
  cases d1 with
  | tup hq ha =>
    rename_i a vs
    have z1 := z.trans x1
    have mb := m.bed z1
    refine ⟨a, rfl, ⟨_, x1.i.sqT hq⟩, for_tup (xs := vs) (fun i σ' H' => Lp X.K S1 (bed S1 H0) (I i) σ' H') ⟨S1, G, z1.bed, (o.ext x1).bed, h0⟩ ?_ ?_ ?_⟩
    · rintro i σ' H' _ ⟨S', G', y, _, _⟩
      exact y.i.sqT (y.s.sqT hq)
    · rintro i v σ' H' hv ⟨S', G', y, o', k⟩
      obtain ⟨dd, h1, h2⟩ := DpAll.getV ha hv
      exact hs i dd G' h1 k S1 (bed S1 H0) S' H' _ _ y (o'.set_im (y.s.dp h2)) (mb.turn fun _ _ q => q)
    · rintro σ' H' ⟨S', G', y, o', k⟩
      rw [DpAll.len ha] at k
      exact mb.nx σ' S' H' G' y o' (hd G' k)
/-- for x in range(n) -/
theorem gs_forR (j : Nat) (I : Nat → Gam → Prop) {n : Int} {a : Expr} (hm : X.mg "range" = none) (he : EvD X a G (.int n)) (hn : -(2 ^ 62) ≤ n ∧ n < 2 ^ 62) (h0 : I 0 G)
    (hs : ∀ (i : Nat) (G' : Gam), (i : Int) < n → I i G' → GSs X W body (F.turn (I (i + 1))) (G'.set j (.im (.int (i : Int)))))
    (hd : ∀ G', I n.toNat G' → F.nx G') (hp : PassesOwn (model X.prog X.w) X.A X.env X.xe) (hj : X.N[j]? = some x := by rfl) (hN : X.N.Nodup := by assumption) (hc : X.calm = true := by rfl) (hg : Gl X "range" := by rfl)
    (hx : Loc X.env.scope x := by first | exact Or.inl rfl | exact Or.inr rfl) (hf : X.fn x = true ∨ X.env.scope.names.lookup x = some .local := by first | exact .inl rfl | exact .inr rfl | assumption)
    (hst : ∀ x, foldedSetIterable (.Call (.Name "range" p) [a] [] np) X.env x = pure x := by intro _; rfl) (hse : starEach [a] X.env = [(false, eval a X.env)] := by rfl) : GS X W (.For (.Name x pos) (.Call (.Name "range" p) [a] [] np) body [] pos) F G := fun S0 H0 S H σ E z o m => by
  refine ws (ps_for hp hc (pi_range1 hg hm pa_w hse) (pg_name hN hj hx hf) pss_w hst) (ea_cons he ea_nil (by exact hse) H0 S H σ o z.i _ fun vs S1 H1 x1 d1 => ?_)
  cases d1 with
  | cons d1 d2 =>
    cases d2
    cases d1
    have z1 := z.trans x1
    have mb := m.bed z1
    refine ⟨n, rfl, hn.1, hn.2, for_range (lo := 0) (n := n.toNat) (fun i σ' H' => Lp X.K S1 (bed S1 H0) (I i) σ' H') ⟨S1, G, z1.bed, (o.ext x1).bed, h0⟩ ?_ ?_⟩
    · rintro i σ' H' hi ⟨S', G', y, o', k⟩
      have e0 : (0 : Int) + (i : Int) = (i : Int) := Int.zero_add _
      rw [e0]
      exact hs i G' (by omega) k S1 (bed S1 H0) S' H' _ _ y (o'.set_im (.int _)) (mb.turn fun _ _ q => q)
    · rintro σ' H' ⟨S', G', y, o', k⟩
      exact mb.nx σ' S' H' G' y o' (hd G' k)
/-- while c -/
theorem gs_while (I : Nat → Gam → Prop) (m0 : Nat) (h0 : I m0 G)
    (hs : ∀ (m : Nat) (G' : Gam), I m G' → ∃ b, EvT X c G' b ∧ (b = true → GSs X W body (F.turn (fun G'' => ∃ m', m' < m ∧ I m' G'')) G') ∧ (b = false → F.nx G'))
    (hp : PassesOwn (model X.prog X.w) X.A X.env X.xe) : GS X W (.While c body [] pos) F G := fun S0 H0 S H σ E z o m => by
  have mb := m.bed z
  refine ws (ps_while hp pt_w pss_w) ⟨fun n σ' H' => Lp X.K S (bed S H0) (I n) σ' H', ⟨m0, S, G, z.bed, o.bed, h0⟩, ?_⟩
  rintro n σ' H' ⟨S', G', y, o', k⟩
  obtain ⟨b, h1, h2, h3⟩ := hs n G' k
  refine h1 (bed S H0) S' H' σ' o' y.i _ fun S2 H2 x2 => ?_
  cases b with
  | true =>
    rw [if_pos rfl]
    refine ⟨fun σ3 H3 => ∃ m', m' < n ∧ Lp X.K S (bed S H0) (I m') σ3 H3, fun σ3 H3 q => q, ?_⟩
    exact h2 rfl S (bed S H0) S2 H2 σ' _ (y.trans x2) (o'.ext x2) (mb.turn fun σ3 H3 ⟨S3, G3, y3, o3, mm, lt, q3⟩ => ⟨mm, lt, S3, G3, y3, o3, q3⟩)
  | false =>
    rw [if_neg Bool.false_ne_true]
    exact mb.nx σ' S2 H2 G' (y.trans x2) (o'.ext x2) (h3 rfl)
/-- l.append(e), l a list that its slot alone holds -/
theorem gs_app {apos cpos : Pos} (i : Nat) (he : EvD X e G d) (k : F.nx (G.set i (.own (ds ++ [d])))) (hi : X.N[i]? = some x := by rfl) (hG : G[i]? = some (.own ds) := by rfl) (hl : ds.length < sizeLine)
    (hv : Vis X.env.scope x := by first | exact Or.inl rfl | exact Or.inr (Or.inl rfl) | exact Or.inr (Or.inr rfl)) (hd : (x == ("__debug__" : Str)) = false := by decide) (hcd : (x == ("__classdict__" : Str)) = false := by decide)
    (hbase : attributeBase (.Name x np) "append" X.env (eval (.Name x np) X.env) = eval (.Name x np) X.env := by rfl)
    (hfew : ((backTo cpos (starEach [e] X.env)).all (fun x => !x.1) && (backToKw cpos (keywordEach [] X.env)).all (fun x => x.1.isSome)
      && decide ([e].length + ([] : List Keyword).length + (if ([] : List Keyword).isEmpty then 0 else 1) < 30)) = true := by rfl)
    (hline : (apos.endLine == cpos.line) = true := by rfl) (hs : starEach [e] X.env = (false, eval e X.env) :: starEach [] X.env := by rfl) (hplain : (backTo cpos (starEach [] X.env)).any (·.1) = false := by rfl)
    (hsw : swapsWith (.Call (.Attribute (.Name x np) "append" apos) [e] [] cpos) none pos.line X.env = pure false := by rfl) :
    GS X W (.Expr (.Call (.Attribute (.Name x np) "append" apos) [e] [] cpos) pos) F G := fun S0 H0 S H σ E z o m => by
  refine ws (ps_expr (pe_bm PySem.F.plainAttrs_list PySem.F.slot_list_append PySem.F.type_list_append mt_append (pe_var (i := i) hi hv hd hcd) pa_w hbase hfew hline hs hplain) hsw) ?_
  obtain ⟨q, vs, a1, a2, a3, a4, a5⟩ := o.own i ds hG
  refine ⟨.ref q, a1, .inl ⟨rfl, _, SqL.of a4⟩, ea_cons he ea_nil (by exact hs) H0 S H σ o z.i _ fun ws' S1 H1 x1 d1 => ?_⟩
  cases d1 with
  | cons d1 d2 =>
    cases d2
    rename_i v1
    have h4 : H1 q = some (.lst vs) := x1.h _ _ a4
    have h3 : S1 q = none := x1.n q a3 (by rw [a4]; exact fun z => nomatch z)
    refine ⟨q, vs, _, rfl, rfl, h4, by rw [DpAll.len a5]; exact hl, ?_⟩
    have z1 := z.trans x1
    refine m.nx σ S1 _ _ (z1.own a2 h3) ?_ k
    have o1 := o.ext x1
    have lt : i < G.length := (List.getElem?_eq_some_iff.mp hG).1
    have e1 : σ.set i (some (.ref q)) = σ := by
      refine List.ext_getElem? fun j => ?_
      by_cases c : i = j
      · subst c
        rw [List.getElem?_set_self (by rw [o.len]; exact lt), a1]
      · rw [List.getElem?_set_ne c]
    have ne : ∀ (j : Nat) (es : List D), j ≠ i → G[j]? = some (.own es) → σ[j]? ≠ some (some (.ref q)) := fun j es hj hg => o.sep i j ds es q (Ne.symm hj) hG hg a1
    have o2 : Hol X.K H0 S1 (upd H1 q (.lst (vs ++ [v1]))) σ (G.set i .no) := by
      have w := (o1.drop (i := i))
      refine ⟨w.len, w.im, fun j es hj => ?_, w.sep⟩
      obtain ⟨r, us, b1, b2, b3, b4, b5⟩ := w.own j es hj
      refine ⟨r, us, b1, b2, b3, ?_, b5⟩
      have hji : j ≠ i := fun c => by
        subst c
        rw [List.getElem?_set_self lt] at hj
        cases hj
      have hg : G[j]? = some (.own es) := by
        rw [List.getElem?_set_ne (Ne.symm hji)] at hj
        exact hj
      rw [upd_ne fun c => ne j es hji hg (by rw [← c]; exact b1)]
      exact b4
    have o3 := o2.set_own (i := i) (p := q) (ds := ds ++ [d]) a2 h3 upd_same (DpAll.snoc d1 (x1.s.dpAll a5)) fun j es hj hg => by
      rw [List.getElem?_set_ne (Ne.symm hj)] at hg
      exact ne j es hj hg
    rw [List.set_set, e1] at o3
    exact o3
end

section
variable {X : Cx} {W : WX} {F : DL.Fin} {G : Gam} {c : Expr} {pos : Pos} {body els : List Stmt}
theorem gs_ifF (hc : EvT X c G false) (h : F.nx G) : GS X W (.If c body [] pos) F G := gs_if hc (fun z => Bool.noConfusion z) fun _ => gs_nil h
theorem gs_ifT (hc : EvT X c G true) (h : GSs X W body F G) : GS X W (.If c body els pos) F G := gs_if hc (fun _ => h) fun z => Bool.noConfusion z
end

/-! ### a def by its body -/
def outFin : Out → DL.Fin
  | .val d => { nx := fun _ => d = .none, rt := fun e => e = d }
  | .exc x => { nx := fun _ => False, rt := fun _ => False, ex := fun y _ => y = x }
def gam0 (N : List Str) (ds : List D) : Gam := ds.map .im ++ List.replicate (N.length - ds.length) .no
theorem hol_start {K : Fg} {S H : Hp} {N : List Str} {vs : List V} {ds : List D} (h : DpAll K S vs ds) : Hol K H S H (L2.start N vs) (gam0 N ds) := by
  have hl := DpAll.len h
  refine ⟨by unfold L2.start gam0; rw [List.length_append, List.length_append, List.length_map, List.length_map, List.length_replicate, List.length_replicate, hl], fun i d q => ?_, fun i es q => ?_, fun i j es fs p _ q => ?_⟩
  · unfold gam0 at q
    by_cases c : i < ds.length
    · rw [List.getElem?_append_left (by rw [List.length_map]; exact c), List.getElem?_map, List.getElem?_eq_getElem c] at q
      have e : ds[i] = d := Ent.im.inj (Option.some.inj q)
      obtain ⟨v, h1, h2⟩ := DpAll.get h (List.getElem?_eq_getElem c)
      rw [e] at h2
      refine ⟨v, ?_, h2⟩
      unfold L2.start
      rw [List.getElem?_append_left (by rw [List.length_map, hl]; exact c), List.getElem?_map, h1]
      rfl
    · rw [List.getElem?_append_right (by rw [List.length_map]; omega), List.getElem?_replicate] at q
      split at q <;> cases q
  · unfold gam0 at q
    by_cases c : i < ds.length
    · rw [List.getElem?_append_left (by rw [List.length_map]; exact c), List.getElem?_map, List.getElem?_eq_getElem c] at q
      cases q
    · rw [List.getElem?_append_right (by rw [List.length_map]; omega), List.getElem?_replicate] at q
      split at q <;> cases q
  · unfold gam0 at q
    by_cases c : i < ds.length
    · rw [List.getElem?_append_left (by rw [List.length_map]; exact c), List.getElem?_map, List.getElem?_eq_getElem c] at q
      cases q
    · rw [List.getElem?_append_right (by rw [List.length_map]; omega), List.getElem?_replicate] at q
      split at q <;> cases q
section
variable {P : Program} {w : World} {K : Fg} {mg : Str → Option Value} {base : Heap}
abbrev Xn (P : Program) (w : World) (K : Fg) (mg : Str → Option Value) (base : Heap) (N : List Str) (qual : Str) (st : Stmt) (f : Addr) (cdv : Value) (A : Around) (outer : List Env) (s : Shared) (H : Hp) (E : XK) : Cx :=
  (cxOf L2.CX0 P w K mg base N qual (defScope st) f cdv A outer s H E).nox
abbrev Xr (P : Program) (w : World) (K : Fg) (mg : Str → Option Value) (base : Heap) (N : List Str) (qual : Str) (st : Stmt) (f : Addr) (cdv : Value) (A : Around) (outer : List Env) (s : Shared) (H : Hp) (E : XK) : Cx :=
  cxOf (L2.CX P w) P w K mg base N qual (defScope st) f cdv A outer s H E
abbrev W0 : WX := fun _ _ _ _ => False
/-- a def that raises nothing -/
theorem fn_ok {x qual : Str} {st : Stmt} {f : Addr} {fd : FuncData} {N ps : List Str} {k : Nat} {R : List D → Out → Prop} (F : Fun K x qual st f fd) (Sc : FnScope N ps (defScope st)) (len : ∀ ds o, R ds o → ds.length = ps.length)
    (body : ∀ (cdv : Value) (A : Around) (outer : List Env) (s : Shared) (H : Hp) (E : XK), Room k (Xn P w K mg base N qual st f cdv A outer s H E).A → ∀ ds d, R ds (.val d) →
      GSs (Xn P w K mg base N qual st f cdv A outer s H E) W0 (defBody st) (outFin (.val d)) (gam0 N ds)) (val : ∀ ds y, ¬ R ds (.exc y)) : FnOk P w K mg base L2.CX0 (k + 1) f fd ps (spD K R) := by
  refine F.ok Sc (fun vs H Q E h => ?_) (fun cdv A outer s H vs Q E hr h => ?_)
  · obtain ⟨S, ds, o, _, d1, r, _⟩ := h
    rw [DpAll.len d1]
    exact len ds o r
  · obtain ⟨S, ds, o, i, d1, r, q⟩ := h
    cases o with
    | exc y => exact absurd r (val ds y)
    | val d =>
      refine ⟨_, pss_w, body cdv A outer s H E hr ds d r S H S H _ _ (Ext.refl i) (hol_start d1) ⟨?_, ?_, fun _ _ _ _ _ _ z => z.elim, fun _ _ _ _ _ _ z => z.elim, fun _ _ _ _ _ _ _ _ _ z => z.elim⟩⟩
      · intro σ S' H' G' x' o' z
        exact q .non S' H' x' (by rw [show d = .none from z]; exact .non)
      · intro v S' H' d' x' q' z
        exact q v S' H' x' (by rw [← show d' = d from z]; exact q')
theorem def_ok {x qual : Str} {st : Stmt} {f : Addr} {fd : FuncData} {N ps : List Str} {k : Nat} {R : List D → Out → Prop} (F : Fun K x qual st f fd) (Sc : FnScope N ps (defScope st)) (hm : mg x = some (.ref f)) (hb : Binds K fd ps []) (len : ∀ ds o, R ds o → ds.length = ps.length)
    (body : ∀ (cdv : Value) (A : Around) (outer : List Env) (s : Shared) (H : Hp) (E : XK), Room k (Xn P w K mg base N qual st f cdv A outer s H E).A → ∀ ds d, R ds (.val d) →
      GSs (Xn P w K mg base N qual st f cdv A outer s H E) W0 (defBody st) (outFin (.val d)) (gam0 N ds)) (val : ∀ ds y, ¬ R ds (.exc y)) : DefOk P w K mg base L2.CX0 (k + 1) x R := ⟨f, fd, ps, fn_ok F Sc len body val, hm, F.kp, hb⟩
/-- a def that may raise -/
theorem def_okX {x qual : Str} {st : Stmt} {f : Addr} {fd : FuncData} {N ps : List Str} {k : Nat} {R : List D → Out → Prop} (F : Fun K x qual st f fd) (Sc : FnScope N ps (defScope st)) (hm : mg x = some (.ref f)) (hb : Binds K fd ps []) (len : ∀ ds o, R ds o → ds.length = ps.length)
    (body : ∀ (cdv : Value) (A : Around) (outer : List Env) (s : Shared) (H : Hp) (E : XK), Room k (Xr P w K mg base N qual st f cdv A outer s H E).A → Takes (Xr P w K mg base N qual st f cdv A outer s H E) (fun cls d _ H => E cls d H) →
      PassesOwn (model P w) (Xr P w K mg base N qual st f cdv A outer s H E).A (Xr P w K mg base N qual st f cdv A outer s H E).env (Xr P w K mg base N qual st f cdv A outer s H E).xe → ∀ ds o, R ds o →
      GSs (Xr P w K mg base N qual st f cdv A outer s H E) (fun cls d _ H => E cls d H) (defBody st) (outFin o) (gam0 N ds)) : DefOk P w K mg base (L2.CX P w) (k + 1) x R := by
  refine ⟨f, fd, ps, F.okX Sc (fun vs H Q E h => ?_) (fun cdv A outer s H vs Q E hr h => ?_), hm, F.kp, hb⟩
  · obtain ⟨S, ds, o, _, d1, r, _⟩ := h
    rw [DpAll.len d1]
    exact len ds o r
  · obtain ⟨S, ds, o, i, d1, r, q⟩ := h
    refine ⟨_, pss_w, body cdv A outer s H E hr (takes_of rfl rfl rfl rfl) (passes_of (X := Xr P w K mg base N qual st f cdv A outer s H E) rfl) ds o r S H S H _ _ (Ext.refl i) (hol_start d1) ?_⟩
    cases o with
    | exc y =>
      refine ⟨fun _ _ _ _ _ _ z => z.elim, fun _ _ _ _ _ _ z => z.elim, fun _ _ _ _ _ _ z => z.elim, fun _ _ _ _ _ _ z => z.elim, ?_⟩
      intro y' σ S' H' G' a x' o' q' z
      rw [show y' = y from z] at q' ⊢
      exact q a S' H' x' q'
    | val d =>
      refine ⟨?_, ?_, fun _ _ _ _ _ _ z => z.elim, fun _ _ _ _ _ _ z => z.elim, fun _ _ _ _ _ _ _ _ _ z => z.elim⟩
      · intro σ S' H' G' x' o' z
        exact q .non S' H' x' (by rw [show d = .none from z]; exact .non)
      · intro v S' H' d' x' q' z
        exact q v S' H' x' (by rw [← show d' = d from z]; exact q')
end
end DL

namespace DL
open PySem PySem.Spec PyProof.Rows L2
section
variable {X : Cx} {W : WX} {F : DL.Fin} {G : Gam} {e a b c : Expr} {es : List Expr} {d da db : D} {ds : List D} {pos pos' p : Pos} {x : Str} {i j : Int}
/-! built-in functions -/
theorem ev_max2 (hm : X.mg "max" = none) (ha : EvD X a G (.int i)) (hb : EvD X b G (.int j)) (hc : X.calm = true := by rfl) (hg : Gl X "max" := by rfl)
    (he : starEach [a, b] X.env = (false, eval a X.env) :: starEach [b] X.env := by rfl) (he2 : starEach [b] X.env = (false, eval b X.env) :: starEach [] X.env := by rfl) (hpl : (backTo pos (starEach [b] X.env)).any (·.1) = false := by rfl) : EvD X (.Call (.Name "max" p) [a, b] [] pos) G (.int (if j > i then j else i)) :=
  ev_cb (pe_callB (call_max2 hc) hg hm (by decide +kernel) pa_w (by decide) (by decide) he hpl) (ea_cons ha (ea_cons hb ea_nil he2) he) fun S H vs e d1 Q q => by
    cases d1 with
    | cons d1 d2 =>
      cases d2 with
      | cons d2 d3 =>
        cases d3
        cases d1
        cases d2
        exact ⟨i, j, rfl, q _ S H (Ext.refl e) (.int _)⟩
theorem ev_min2 (hm : X.mg "min" = none) (ha : EvD X a G (.int i)) (hb : EvD X b G (.int j)) (hc : X.calm = true := by rfl) (hg : Gl X "min" := by rfl)
    (he : starEach [a, b] X.env = (false, eval a X.env) :: starEach [b] X.env := by rfl) (he2 : starEach [b] X.env = (false, eval b X.env) :: starEach [] X.env := by rfl) (hpl : (backTo pos (starEach [b] X.env)).any (·.1) = false := by rfl) : EvD X (.Call (.Name "min" p) [a, b] [] pos) G (.int (if j < i then j else i)) :=
  ev_cb (pe_callB (call_min2 hc) hg hm (by decide +kernel) pa_w (by decide) (by decide) he hpl) (ea_cons ha (ea_cons hb ea_nil he2) he) fun S H vs e d1 Q q => by
    cases d1 with
    | cons d1 d2 =>
      cases d2 with
      | cons d2 d3 =>
        cases d3
        cases d1
        cases d2
        exact ⟨i, j, rfl, q _ S H (Ext.refl e) (.int _)⟩
theorem ev_lenL (hm : X.mg "len" = none) (ha : EvD X a G (.list ds)) (hg : Gl X "len" := by rfl)
    (he : starEach [a] X.env = (false, eval a X.env) :: starEach [] X.env := by rfl) (hpl : (backTo pos (starEach [] X.env)).any (·.1) = false := by rfl) : EvD X (.Call (.Name "len" p) [a] [] pos) G (.int (ds.length : Nat)) :=
  ev_cb (pe_callB call_len_seq hg hm PySem.boot_len pa_w (by decide) (by decide) he hpl) (ea_cons ha ea_nil he) fun S H vs e d1 Q q => by
    cases d1 with
    | cons d1 d2 =>
      cases d2
      cases d1 with
      | lst hs hA =>
        refine ⟨_, _, rfl, .inl (e.sqL hs), ?_⟩
        rw [DpAll.len hA]
        exact q _ S H (Ext.refl e) (.int _)
theorem ev_lenT (hm : X.mg "len" = none) (ha : EvD X a G (.tuple ds)) (hg : Gl X "len" := by rfl)
    (he : starEach [a] X.env = (false, eval a X.env) :: starEach [] X.env := by rfl) (hpl : (backTo pos (starEach [] X.env)).any (·.1) = false := by rfl) : EvD X (.Call (.Name "len" p) [a] [] pos) G (.int (ds.length : Nat)) :=
  ev_cb (pe_callB call_len_seq hg hm PySem.boot_len pa_w (by decide) (by decide) he hpl) (ea_cons ha ea_nil he) fun S H vs e d1 Q q => by
    cases d1 with
    | cons d1 d2 =>
      cases d2
      cases d1 with
      | tup hs hA =>
        refine ⟨_, _, rfl, .inr (e.sqT hs), ?_⟩
        rw [DpAll.len hA]
        exact q _ S H (Ext.refl e) (.int _)
theorem ev_gcd (hm : X.mg x = some (.builtin "math.gcd")) (ha : EvD X a G (.int i)) (hb : EvD X b G (.int j)) (hg : Gl X x := by rfl) (hdb : (x == ("__debug__" : Str)) = false := by decide)
    (he : starEach [a, b] X.env = (false, eval a X.env) :: starEach [b] X.env := by rfl) (he2 : starEach [b] X.env = (false, eval b X.env) :: starEach [] X.env := by rfl) (hpl : (backTo pos (starEach [b] X.env)).any (·.1) = false := by rfl) : EvD X (.Call (.Name x p) [a, b] [] pos) G (.int ((Nat.gcd i.natAbs j.natAbs : Nat) : Int)) :=
  ev_cb (pe_callBfun cr_gcd hg hm pa_w hdb he hpl) (ea_cons ha (ea_cons hb ea_nil he2) he) fun S H vs e d1 Q q => by
    cases d1 with
    | cons d1 d2 =>
      cases d2 with
      | cons d2 d3 =>
        cases d3
        cases d1
        cases d2
        exact ⟨i, j, rfl, q _ S H (Ext.refl e) (.int _)⟩
end
section
variable {X : Cx} {W : WX} {F : DL.Fin} {G : Gam} {e : Expr} {es : List Expr} {ds : List D} {pos pos' p : Pos} {x : Str} {k j : Nat} {R : List D → Out → Prop} {o : Out}
/-- return f(..), f may raise -/
theorem gs_retO (tk : Takes X W) (Fn : DefOk X.prog X.w X.K X.mg X.base (L2.CX X.prog X.w) j x R) (hr : Room k X.A) (ha : EvA X (e :: es) G ds) (h : R ds o) (kv : ∀ d, o = .val d → F.rt d) (kx : ∀ y, o = .exc y → F.ex y G) (hj : j ≤ k := by decide) (hg : Gl X x := by rfl)
    (hdb : (x == ("__debug__" : Str)) = false := by decide) (he : starEach (e :: es) X.env = (false, eval e X.env) :: starEach es X.env := by rfl) (hpl : (backTo pos (starEach es X.env)).any (·.1) = false := by rfl) :
    GS X W (.Return (some (.Call (.Name x p) (e :: es) [] pos)) pos') F G := by
  cases o with
  | val d => exact gs_ret (ev_call Fn hr ha h hj passL hg hdb he hpl) (kv d rfl)
  | exc y => exact gs_retX (ex_call tk Fn hr ha h hj hg hdb he hpl) (kx y rfl)
theorem outFin_rt {o : Out} : ∀ d, o = .val d → (outFin o).rt d := fun d e => by subst e; rfl
theorem outFin_ex {o : Out} {G : Gam} : ∀ y, o = .exc y → (outFin o).ex y G := fun d e => by subst e; rfl
end
/-- an error of the class at S is what «except S» names -/
theorem exm_self {K : Fg} {S : Addr} (h1 : PySem.W.subIn K (.ref S) (.type "BaseException") = some true) (h2 : PySem.W.isClsIn K S = true) (h3 : PySem.W.typeIn K (.ref S) = some (.type "type")) (h4 : PySem.W.subIn K (.ref S) (.ref S) = some true) :
    PySem.W.exmOne K (.ref S) (.ref S) = some true := by
  have e1 : (PySem.W.subIn K (.ref S) (.type "BaseException") == some true) = true := by rw [h1] <;> rfl
  have e2 : ((PySem.W.clsIn K S).isSome && PySem.W.typeIn K (.ref S) == some (.type "type")) = true := by
    have h2' : (PySem.W.clsIn K S).isSome = true := h2
    rw [h2', h3] <;> rfl
  show (if (PySem.W.subIn K (.ref S) (.type "BaseException") == some true) = true then (if ((PySem.W.clsIn K S).isSome && PySem.W.typeIn K (.ref S) == some (.type "type")) = true then PySem.W.subIn K (.ref S) (.ref S) else none) else none) = some true
  rw [if_pos e1, if_pos e2]
  exact h4
end DL

/-! Fractions, and the laws' own draws, as plain functions. -/
namespace MT
open PySem L2 DL
/-- a fraction in lowest terms -/
def nrm (t b : Int) : Int × Int := if b < 0 then (-t / (Nat.gcd t.natAbs b.natAbs : Nat), -b / (Nat.gcd t.natAbs b.natAbs : Nat)) else (t / (Nat.gcd t.natAbs b.natAbs : Nat), b / (Nat.gcd t.natAbs b.natAbs : Nat))
def dn (q : Int × Int) : D := .tuple [.int q.1, .int q.2]
def Bd (n : Nat) (q : Int × Int) : Prop := q.1.natAbs < 2 ^ n ∧ q.2.natAbs < 2 ^ n
theorem gcd_pos {t b : Int} (h : b ≠ 0) : 0 < Nat.gcd t.natAbs b.natAbs := Nat.gcd_pos_of_pos_right _ (by omega)
theorem gcd_ok {t b i : Int} (h : b ≠ 0) (hb : b.natAbs < 2 ^ 8999) : CDivW i (Nat.gcd t.natAbs b.natAbs : Nat) := by
  have p := gcd_pos (t := t) h
  have l : Nat.gcd t.natAbs b.natAbs ≤ b.natAbs := Nat.gcd_le_right _ (by omega)
  refine wide_div (b := 8999) (by omega) ?_ (by decide) (by decide)
  show Nat.gcd t.natAbs b.natAbs < 2 ^ 8999
  exact Nat.lt_of_le_of_lt l hb
theorem nrm_neg {t b : Int} (h : b ≠ 0) : nrm (-t) (-b) = nrm t b := by
  unfold nrm
  rw [Int.natAbs_neg, Int.natAbs_neg, Int.neg_neg, Int.neg_neg]
  by_cases c : b < 0
  · rw [if_neg (by omega), if_pos c]
  · rw [if_pos (by omega), if_neg c]
theorem mul_ok {i j : Int} {a b : Nat} (h1 : i.natAbs < 2 ^ a) (h2 : j.natAbs < 2 ^ b) (ha : 0 < a := by decide) (hb : 0 < b := by decide) (h : a + b ≤ 1000000 := by decide) : MulOk i j := .inr (wide_mul h1 h2 ha hb h)
theorem nrm_bot {t b : Int} (h : b ≠ 0) : 1 ≤ (nrm t b).2 ∧ (nrm t b).2 ≤ b.natAbs := by
  have p := gcd_pos (t := t) h
  have l : Nat.gcd t.natAbs b.natAbs ≤ b.natAbs := Nat.gcd_le_right _ (by omega)
  have dv : ((Nat.gcd t.natAbs b.natAbs : Nat) : Int) ∣ b := Int.ofNat_dvd_left.mpr (Nat.gcd_dvd_right _ _)
  obtain ⟨q, hq⟩ := dv
  have gp : (0 : Int) < (Nat.gcd t.natAbs b.natAbs : Nat) := by omega
  unfold nrm
  generalize ((Nat.gcd t.natAbs b.natAbs : Nat) : Int) = g at *
  have h1 : b / g = q := by rw [hq]; exact Int.mul_ediv_cancel_left _ (by omega)
  have h2 : -b / g = -q := by rw [hq, ← Int.mul_neg]; exact Int.mul_ediv_cancel_left _ (by omega)
  have hle : ∀ x : Int, 0 < x → x ≤ g * x := fun x hx => by
    have := Int.mul_le_mul_of_nonneg_right (show (1 : Int) ≤ g by omega) (show 0 ≤ x by omega)
    omega
  by_cases c : b < 0
  · rw [if_pos c]
    show 1 ≤ -b / g ∧ -b / g ≤ b.natAbs
    rw [h2]
    have qn : q < 0 := by
      apply Int.lt_of_not_ge
      intro z
      have := Int.mul_nonneg (show 0 ≤ g by omega) z
      omega
    have := hle (-q) (by omega)
    have e : g * -q = -b := by rw [hq, Int.mul_neg]
    omega
  · rw [if_neg c]
    show 1 ≤ b / g ∧ b / g ≤ b.natAbs
    rw [h1]
    have qn : 0 < q := by
      apply Int.lt_of_not_ge
      intro z
      have := Int.mul_nonneg (show 0 ≤ g by omega) (show 0 ≤ -q by omega)
      have e : g * -q = -b := by rw [hq, Int.mul_neg]
      omega
    have := hle q qn
    omega
theorem nrm_top {t b : Int} (h : b ≠ 0) : (nrm t b).1.natAbs ≤ t.natAbs := by
  have p := gcd_pos (t := t) h
  have dv : ((Nat.gcd t.natAbs b.natAbs : Nat) : Int) ∣ t := Int.ofNat_dvd_left.mpr (Nat.gcd_dvd_left _ _)
  obtain ⟨q, hq⟩ := dv
  have gp : (0 : Int) < (Nat.gcd t.natAbs b.natAbs : Nat) := by omega
  unfold nrm
  generalize ((Nat.gcd t.natAbs b.natAbs : Nat) : Int) = g at *
  have h1 : t / g = q := by rw [hq]; exact Int.mul_ediv_cancel_left _ (by omega)
  have h2 : -t / g = -q := by rw [hq, ← Int.mul_neg]; exact Int.mul_ediv_cancel_left _ (by omega)
  have key : q.natAbs ≤ t.natAbs := by
    rw [hq, Int.natAbs_mul]
    exact Nat.le_mul_of_pos_left _ (by omega)
  by_cases c : b < 0
  · rw [if_pos c]
    show (-t / g).natAbs ≤ _
    rw [h2, Int.natAbs_neg]
    exact key
  · rw [if_neg c]
    show (t / g).natAbs ≤ _
    rw [h1]
    exact key

/-! ### draws -/
def bigs (c : Int) : List Int → List Int
  | [] => []
  | s :: ss => c % s :: bigs (c / s) ss
def st1 (st : Int) (j : Nat) : Int := (st * 48271 + 11 + j) % 2147483647
def st2 (st : Int) (j : Nat) : Int := (st1 st j * 69621 + 3) % 2147483647
def smalls (st : Int) (j : Nat) : List Int → List Int
  | [] => []
  | s :: ss => (st2 st j / 7 % s) :: smalls (st2 st j) (j + 1) ss
def cellAbs (ns : List Int) (k : Nat) : Int := if ns.getD k 0 < 0 then -(ns.getD k 0) else ns.getD k 0
def drawL (ns : List Int) (k : Nat) (sizes : List Int) : List Int :=
  if 10 ^ (18 : Int).toNat ≤ cellAbs ns k then bigs (cellAbs ns k - 10 ^ (18 : Int).toNat) sizes else smalls ((cellAbs ns k + 1 + 31 * (k : Int)) % 2147483647) 0 sizes
inductive InR : List Int → List Int → Prop where
  | nil : InR [] []
  | cons {d s : Int} {ds ss : List Int} (h0 : 0 ≤ d) (h1 : d < s) (t : InR ds ss) : InR (d :: ds) (s :: ss)
theorem bigs_in : ∀ (sizes : List Int) (c : Int), (∀ s ∈ sizes, 0 < s) → InR (bigs c sizes) sizes
  | [], _, _ => .nil
  | s :: ss, c, h => .cons (Int.emod_nonneg _ (by have := h s List.mem_cons_self; omega)) (Int.emod_lt_of_pos _ (h s List.mem_cons_self)) (bigs_in ss _ fun x hx => h x (List.mem_cons_of_mem _ hx))
theorem smalls_in : ∀ (sizes : List Int) (c : Int) (j : Nat), (∀ s ∈ sizes, 0 < s) → InR (smalls c j sizes) sizes
  | [], _, _, _ => .nil
  | s :: ss, c, j, h => .cons (Int.emod_nonneg _ (by have := h s List.mem_cons_self; omega)) (Int.emod_lt_of_pos _ (h s List.mem_cons_self)) (smalls_in ss _ _ fun x hx => h x (List.mem_cons_of_mem _ hx))
theorem drawL_in {ns : List Int} {k : Nat} {sizes : List Int} (h : ∀ s ∈ sizes, 0 < s) : InR (drawL ns k sizes) sizes := by
  unfold drawL
  split
  · exact bigs_in _ _ h
  · exact smalls_in _ _ _ h
theorem cellAbs_nn {ns : List Int} {k : Nat} : 0 ≤ cellAbs ns k := by
  unfold cellAbs
  split <;> omega
theorem drop_get {α : Type} {xs : List α} {i : Nat} {x : α} (h : xs[i]? = some x) : xs.drop i = x :: xs.drop (i + 1) := by
  obtain ⟨l, e⟩ := List.getElem?_eq_some_iff.mp h
  rw [← e]
  exact List.drop_eq_getElem_cons l
theorem map_get {xs : List Int} {i : Nat} {d : D} (h : (xs.map PyData.int)[i]? = some d) : ∃ x, xs[i]? = some x ∧ d = .int x := by
  rw [List.getElem?_map] at h
  cases e : xs[i]? with
  | none => rw [e] at h; cases h
  | some x => rw [e] at h; exact ⟨x, rfl, (Option.some.inj h).symm⟩
theorem get_map {xs : List Int} {i : Nat} {x : Int} (h : xs[i]? = some x) : (xs.map PyData.int)[i]? = some (.int x) := by
  rw [List.getElem?_map, h]
  rfl
theorem eqv_dn (q : Int × Int) : PyData.eqv (dn q) (dn q) = true := SeqAt.eqv_refl (dn q) rfl
end MT

/-! Numbers as Lean's rationals. -/
namespace MT
open PySem L2 DL
def dq (q : Rat) : D := .tuple [.int q.num, .int q.den]
theorem nrm_rat {t b : Int} (h : b ≠ 0) : nrm t b = ((Rat.divInt t b).num, ((Rat.divInt t b).den : Int)) := by
  have pos : ∀ (t : Int) (n : Nat), n ≠ 0 → nrm t n = ((Rat.divInt t n).num, ((Rat.divInt t n).den : Int)) := fun t n hn => by
    rw [Rat.divInt_ofNat, Rat.num_mkRat, Rat.den_mkRat, if_neg hn, if_neg hn]
    unfold nrm
    rw [if_neg (by omega), Nat.gcd_comm t.natAbs, Int.natAbs_natCast, Int.natCast_ediv]
  by_cases c : b < 0
  · obtain ⟨n, rfl⟩ : ∃ n : Nat, b = -(n : Int) := ⟨b.natAbs, by omega⟩
    rw [← nrm_neg h, Int.neg_neg, pos (-t) n (by omega), Rat.divInt_neg']
  · obtain ⟨n, rfl⟩ : ∃ n : Nat, b = (n : Int) := ⟨b.natAbs, by omega⟩
    exact pos t n (by omega)
theorem dq_nrm {t b : Int} (h : b ≠ 0) : dn (nrm t b) = dq (Rat.divInt t b) := by
  rw [nrm_rat h]
  rfl
theorem dq_dn (q : Rat) : dq q = dn (q.num, (q.den : Int)) := rfl
theorem eqv_dq (q : Rat) : PyData.eqv (dq q) (dq q) = true := SeqAt.eqv_refl (dq q) rfl
theorem ne_dq {q r : Rat} (h : q = r) : (!PyData.eqv (dq q) (dq r)) = false := by
  rw [h, eqv_dq]
  rfl
theorem eqv_dq_iff (q r : Rat) : PyData.eqv (dq q) (dq r) = decide (q = r) := by
  by_cases h : q = r
  · rw [h, eqv_dq, decide_eq_true rfl]
  · rw [decide_eq_false h]
    have e : PyData.eqv (dq q) (dq r) = ((q.num == r.num) && (((q.den : Int) == (r.den : Int)) && true)) := by
      unfold dq
      simp only [PyData.eqv, PyData.eqvAll]
    rw [e]
    by_cases h1 : q.num = r.num
    · have h2 : q.den ≠ r.den := fun z => h (Rat.ext h1 z)
      have h3 : ((q.den : Int) == (r.den : Int)) = false := beq_eq_false_iff_ne.mpr (by omega)
      rw [h3, Bool.false_and, Bool.and_false]
    · rw [beq_eq_false_iff_ne.mpr h1, Bool.false_and]

/-! ### sizes -/
def Bq (n : Nat) (q : Rat) : Prop := q.num.natAbs < 2 ^ n ∧ q.den < 2 ^ n
theorem frac_le {t b : Int} (h : b ≠ 0) : (Rat.divInt t b).num.natAbs ≤ t.natAbs ∧ (Rat.divInt t b).den ≤ b.natAbs := by
  have h1 := nrm_top (t := t) h
  have h2 := nrm_bot (t := t) h
  rw [nrm_rat h] at h1 h2
  exact ⟨h1, by have := h2.2; omega⟩
theorem Bq.mono {n m : Nat} {q : Rat} (h : Bq n q) (l : n ≤ m) : Bq m q := ⟨Nat.lt_of_lt_of_le h.1 (Nat.pow_le_pow_right Nat.two_pos l), Nat.lt_of_lt_of_le h.2 (Nat.pow_le_pow_right Nat.two_pos l)⟩
theorem Bq.frac {n : Nat} {t b : Int} (h : b ≠ 0) (ht : t.natAbs < 2 ^ n) (hb : b.natAbs < 2 ^ n) : Bq n (Rat.divInt t b) := ⟨Nat.lt_of_le_of_lt (frac_le h).1 ht, Nat.lt_of_le_of_lt (frac_le h).2 hb⟩
theorem rat_add (a b : Rat) : a + b = Rat.divInt (a.num * b.den + b.num * a.den) (a.den * b.den) := by
  have h := Rat.divInt_add_divInt a.num b.num (d₁ := a.den) (d₂ := b.den) (by have := a.den_nz; omega) (by have := b.den_nz; omega)
  rw [Rat.num_divInt_den, Rat.num_divInt_den] at h
  exact h
theorem rat_sub (a b : Rat) : a - b = Rat.divInt (a.num * b.den - b.num * a.den) (a.den * b.den) := by
  have h := Rat.divInt_sub_divInt a.num b.num (d₁ := a.den) (d₂ := b.den) (by have := a.den_nz; omega) (by have := b.den_nz; omega)
  rw [Rat.num_divInt_den, Rat.num_divInt_den] at h
  exact h
theorem rat_mul (a b : Rat) : a * b = Rat.divInt (a.num * b.num) (a.den * b.den) := by
  have h := Rat.divInt_mul_divInt a.num b.num (d₁ := a.den) (d₂ := b.den)
  rw [Rat.num_divInt_den, Rat.num_divInt_den] at h
  exact h
theorem rat_div (a b : Rat) : a / b = Rat.divInt (a.num * b.den) (a.den * b.num) := by
  rw [Rat.div_def, Rat.inv_def]
  have h := Rat.divInt_mul_divInt a.num b.den (d₁ := a.den) (d₂ := b.num)
  rw [Rat.num_divInt_den] at h
  exact h
theorem den_ne (a : Rat) : (a.den : Int) ≠ 0 := by have := a.den_nz; omega
theorem dens_ne (a b : Rat) : (a.den : Int) * (b.den : Int) ≠ 0 := fun z => by
  rw [Int.mul_eq_zero] at z
  rcases z with z | z
  · exact den_ne a z
  · exact den_ne b z
theorem num_ne {b : Rat} (h : b ≠ 0) : b.num ≠ 0 := fun z => h (Rat.num_eq_zero.mp z)
theorem pow_lt {x y a b : Nat} (h1 : x < 2 ^ a) (h2 : y < 2 ^ b) : x * y < 2 ^ (a + b) := by
  rw [Nat.pow_add]
  exact Nat.mul_lt_mul'' h1 h2
theorem Bq.add {n m : Nat} {a b : Rat} (ha : Bq n a) (hb : Bq m b) : Bq (n + m + 1) (a + b) := by
  rw [rat_add]
  have h1 : (a.num * b.den).natAbs < 2 ^ (n + m) := by
    rw [Int.natAbs_mul]
    exact pow_lt ha.1 hb.2
  have h2 : (b.num * a.den).natAbs < 2 ^ (n + m) := by
    rw [Int.natAbs_mul, Nat.add_comm n m]
    exact pow_lt hb.1 ha.2
  refine .frac (dens_ne a b) ?_ ?_
  · rw [Nat.pow_succ]
    omega
  · rw [Int.natAbs_mul, Nat.pow_succ]
    have := pow_lt ha.2 hb.2
    show a.den * b.den < _
    omega
theorem Bq.sub {n m : Nat} {a b : Rat} (ha : Bq n a) (hb : Bq m b) : Bq (n + m + 1) (a - b) := by
  rw [rat_sub]
  have h1 : (a.num * b.den).natAbs < 2 ^ (n + m) := by
    rw [Int.natAbs_mul]
    exact pow_lt ha.1 hb.2
  have h2 : (b.num * a.den).natAbs < 2 ^ (n + m) := by
    rw [Int.natAbs_mul, Nat.add_comm n m]
    exact pow_lt hb.1 ha.2
  refine .frac (dens_ne a b) ?_ ?_
  · rw [Nat.pow_succ]
    omega
  · rw [Int.natAbs_mul, Nat.pow_succ]
    have := pow_lt ha.2 hb.2
    show a.den * b.den < _
    omega
theorem Bq.mul {n m : Nat} {a b : Rat} (ha : Bq n a) (hb : Bq m b) : Bq (n + m) (a * b) := by
  rw [rat_mul]
  refine .frac (dens_ne a b) ?_ ?_
  · rw [Int.natAbs_mul]
    exact pow_lt ha.1 hb.1
  · rw [Int.natAbs_mul]
    exact pow_lt ha.2 hb.2
theorem Bq.div {n m : Nat} {a b : Rat} (ha : Bq n a) (hb : Bq m b) (h : b ≠ 0) : Bq (n + m) (a / b) := by
  rw [rat_div]
  refine .frac (fun z => ?_) ?_ ?_
  · rw [Int.mul_eq_zero] at z
    rcases z with z | z
    · exact den_ne a z
    · exact num_ne h z
  · rw [Int.natAbs_mul]
    exact pow_lt ha.1 hb.2
  · rw [Int.natAbs_mul]
    exact pow_lt ha.2 hb.1
theorem Bq.mulOk1 {n m : Nat} {a b : Rat} (ha : Bq n a) (hb : Bq m b) (h : n + m ≤ 900000 := by omega) : MulOk a.num b.den := mul_ok (a := n + 1) (b := m + 1) (Nat.lt_of_lt_of_le ha.1 (Nat.pow_le_pow_right Nat.two_pos (by omega))) (Nat.lt_of_lt_of_le hb.2 (Nat.pow_le_pow_right Nat.two_pos (by omega))) (by omega) (by omega) (by omega)
theorem Bq.mulOkN {n m : Nat} {a b : Rat} (ha : Bq n a) (hb : Bq m b) (h : n + m ≤ 900000 := by omega) : MulOk a.num b.num := mul_ok (a := n + 1) (b := m + 1) (Nat.lt_of_lt_of_le ha.1 (Nat.pow_le_pow_right Nat.two_pos (by omega))) (Nat.lt_of_lt_of_le hb.1 (Nat.pow_le_pow_right Nat.two_pos (by omega))) (by omega) (by omega) (by omega)
theorem Bq.mulOkD {n m : Nat} {a b : Rat} (ha : Bq n a) (hb : Bq m b) (h : n + m ≤ 900000 := by omega) : MulOk a.den b.den := mul_ok (a := n + 1) (b := m + 1) (Nat.lt_of_lt_of_le ha.2 (Nat.pow_le_pow_right Nat.two_pos (by omega))) (Nat.lt_of_lt_of_le hb.2 (Nat.pow_le_pow_right Nat.two_pos (by omega))) (by omega) (by omega) (by omega)
theorem Bq.mulOk2 {n m : Nat} {a b : Rat} (ha : Bq n a) (hb : Bq m b) (h : n + m ≤ 900000 := by omega) : MulOk a.den b.num := mul_ok (a := n + 1) (b := m + 1) (Nat.lt_of_lt_of_le ha.2 (Nat.pow_le_pow_right Nat.two_pos (by omega))) (Nat.lt_of_lt_of_le hb.1 (Nat.pow_le_pow_right Nat.two_pos (by omega))) (by omega) (by omega) (by omega)
end MT

namespace K2
open PySem PySem.Spec PyProof.Rows L2 DL MT
def topS (i : Nat) : Stmt := PySem.Challenge.pw_surecues_k02_rules_of_reckoning.main.body.getD i (.Pass ⟨0, 0, 0, 0⟩)
abbrev sNumber : Stmt := topS 5
abbrev sPlus : Stmt := topS 6
abbrev sMinus : Stmt := topS 7
abbrev sTimes : Stmt := topS 8
abbrev sOver : Stmt := topS 9
abbrev sCompare : Stmt := topS 10
abbrev sCell : Stmt := topS 12
abbrev sDraw : Stmt := topS 13
abbrev sF : Stmt := topS 14
abbrev sLess : Stmt := topS 15
abbrev sLaw : Stmt := topS 16
theorem scNumber : FnScope ["top", "bottom", "common"] ["top", "bottom"] (defScope sNumber) := ⟨rfl, rfl, rfl, by decide +kernel, rfl, by decide +kernel, by decide +kernel⟩
theorem scPlus : FnScope ["first", "second"] ["first", "second"] (defScope sPlus) := ⟨rfl, rfl, rfl, by decide +kernel, rfl, by decide +kernel, by decide +kernel⟩
theorem scMinus : FnScope ["first", "second"] ["first", "second"] (defScope sMinus) := ⟨rfl, rfl, rfl, by decide +kernel, rfl, by decide +kernel, by decide +kernel⟩
theorem scTimes : FnScope ["first", "second"] ["first", "second"] (defScope sTimes) := ⟨rfl, rfl, rfl, by decide +kernel, rfl, by decide +kernel, by decide +kernel⟩
theorem scOver : FnScope ["first", "second"] ["first", "second"] (defScope sOver) := ⟨rfl, rfl, rfl, by decide +kernel, rfl, by decide +kernel, by decide +kernel⟩
theorem scCompare : FnScope ["first", "second", "left", "right"] ["first", "second"] (defScope sCompare) := ⟨rfl, rfl, rfl, by decide +kernel, rfl, by decide +kernel, by decide +kernel⟩
theorem scCell : FnScope ["script", "k"] ["script", "k"] (defScope sCell) := ⟨rfl, rfl, rfl, by decide +kernel, rfl, by decide +kernel, by decide +kernel⟩
theorem scDraw : FnScope ["script", "k", "sizes", "cell", "drawn", "size", "stirred", "j"] ["script", "k", "sizes"] (defScope sDraw) := ⟨rfl, rfl, rfl, by decide +kernel, rfl, by decide +kernel, by decide +kernel⟩
theorem scF : FnScope ["top", "bottom", "first", "second"] ["top", "bottom"] (defScope sF) := ⟨rfl, rfl, rfl, by decide +kernel, rfl, by decide +kernel, by decide +kernel⟩
theorem scLess : FnScope ["a", "b"] ["a", "b"] (defScope sLess) := ⟨rfl, rfl, rfl, by decide +kernel, rfl, by decide +kernel, by decide +kernel⟩
theorem scLaw : FnScope ["script", "k", "digits", "a", "b", "c", "due"] ["script"] (defScope sLaw) := ⟨rfl, rfl, rfl, by decide +kernel, rfl, by decide +kernel, by decide +kernel⟩
/-! ### numbers -/
def Rnum (C : Addr) : List D → Out → Prop := fun ds o => ∃ t b : Int, ds = [.int t, .int b] ∧ b.natAbs < 2 ^ 8999 ∧ (b = 0 → o = .exc ⟨.ref C, []⟩) ∧ (b ≠ 0 → o = .val (dq (Rat.divInt t b)))
/-- an operation on two numbers of at most 4000 bits -/
def Rop (f : Rat → Rat → Rat) : List D → Out → Prop := fun ds o => ∃ a b : Rat, ds = [dq a, dq b] ∧ Bq 4000 a ∧ Bq 4000 b ∧ o = .val (dq (f a b))
def Rdiv (C : Addr) : List D → Out → Prop := fun ds o => ∃ a b : Rat, ds = [dq a, dq b] ∧ Bq 4000 a ∧ Bq 4000 b ∧ (b = 0 → o = .exc ⟨.ref C, []⟩) ∧ (b ≠ 0 → o = .val (dq (a / b)))
def cmpQ (a b : Rat) : Int := if a < b then -1 else if b < a then 1 else 0
def Rcmp : List D → Out → Prop := fun ds o => ∃ a b : Rat, ds = [dq a, dq b] ∧ Bq 4000 a ∧ Bq 4000 b ∧ o = .val (.int (cmpQ a b))
theorem b8 {i j : Int} (h1 : i.natAbs < 2 ^ 4000) (h2 : j.natAbs < 2 ^ 4000) : (i * j).natAbs < 2 ^ 8999 := Nat.lt_of_lt_of_le (wide_lt h1 h2) (Nat.pow_le_pow_right Nat.two_pos (show 4000 + 4000 ≤ 8999 by decide))
theorem lt_pow {x a b : Nat} (h : x < 2 ^ a) (hb : a ≤ b := by decide) : x < 2 ^ b := Nat.lt_of_lt_of_le h (Nat.pow_le_pow_right Nat.two_pos hb)
section
variable {P : Program} {w : World} {K : DL.Fg} {mg : Str → Option Value} {base : Heap} {C : Addr}
theorem ok_number {f : Addr} {fd : FuncData} (F : Fun K "number" "number" sNumber f fd) (hm : mg "number" = some (.ref f)) (hb : Binds K fd ["top", "bottom"] []) (mG : mg "gcd" = some (.builtin "math.gcd"))
    (T : ErrOk K mg "NumberError" C [.type "ValueError", .type "Exception", .type "BaseException", .type "object"] "ValueError.__new__") : DefOk P w K mg base (L2.CX P w) 1 "number" (Rnum C) :=
  def_okX F scNumber hm hb (fun ds o ⟨t, b, h, _⟩ => by rw [h]; rfl) fun cdv A outer s H E hr tk po ds o r => by
    obtain ⟨t, b, rfl, hbd, h0, h1⟩ := r
    have hN := scNumber.nd
    refine gs_cons (gs_if (et_eqI (ev_var 1) ev_int) (fun c => ?_) (fun c => ?_))
    · have ho := h0 (of_decide_eq_true c)
      subst ho
      exact gs_cons (gs_raise0 tk PySem.F.excBase_ValueError T rfl)
    · have nb : b ≠ 0 := of_decide_eq_false c
      have ho := h1 nb
      subst ho
      rw [← dq_nrm nb]
      refine gs_nil ?_
      refine gs_cons (gs_if (et_lt (ev_var 1) ev_int) (fun c => ?_) (fun c => ?_))
      · have nb' : b < 0 := of_decide_eq_true c
        refine gs_cons (gs_par 0 1 (ea_cons (ev_neg (ev_var 0)) (ea_cons (ev_neg (ev_var 1)) ea_nil)) ?_)
        refine gs_nil ?_
        refine gs_cons (gs_set 2 (ev_gcd mG (ev_var 0) (ev_var 1)) ?_)
        refine gs_cons (gs_ret (ev_tup (ea_cons (ev_fdiv (ev_var 0) (ev_var 2) (gcd_ok (by omega) (by omega))) (ea_cons (ev_fdiv (ev_var 1) (ev_var 2) (gcd_ok (by omega) (by omega))) ea_nil))) ?_)
        show (PyData.tuple [_, _] : D) = dn (nrm t b)
        rw [Int.natAbs_neg, Int.natAbs_neg]
        unfold dn nrm
        rw [if_pos nb']
      · have nb' : ¬ b < 0 := of_decide_eq_false c
        refine gs_nil ?_
        refine gs_cons (gs_set 2 (ev_gcd mG (ev_var 0) (ev_var 1)) ?_)
        refine gs_cons (gs_ret (ev_tup (ea_cons (ev_fdiv (ev_var 0) (ev_var 2) (gcd_ok (by omega) (by omega))) (ea_cons (ev_fdiv (ev_var 1) (ev_var 2) (gcd_ok (by omega) (by omega))) ea_nil))) ?_)
        show (PyData.tuple [_, _] : D) = dn (nrm t b)
        unfold dn nrm
        rw [if_neg nb']
theorem ok_plus {f : Addr} {fd : FuncData} (F : Fun K "plus" "plus" sPlus f fd) (hm : mg "plus" = some (.ref f)) (hb : Binds K fd ["first", "second"] []) (Nm : DefOk P w K mg base (L2.CX P w) 1 "number" (Rnum C)) : DefOk P w K mg base (L2.CX P w) 2 "plus" (Rop (· + ·)) :=
  def_okX F scPlus hm hb (fun ds o ⟨a, b, h, _⟩ => by rw [h]; rfl) fun cdv A outer s H E hr tk po ds o r => by
    obtain ⟨a, b, rfl, ha, hbb, rfl⟩ := r
    refine gs_cons (gs_ret (ev_call Nm hr (ea_cons (ev_add (ev_mul (ev_ixT (ev_var 0) ev_int rfl) (ev_ixT (ev_var 1) ev_int rfl) (ha.mulOk1 hbb)) (ev_mul (ev_ixT (ev_var 1) ev_int rfl) (ev_ixT (ev_var 0) ev_int rfl) (hbb.mulOk1 ha)))
        (ea_cons (ev_mul (ev_ixT (ev_var 0) ev_int rfl) (ev_ixT (ev_var 1) ev_int rfl) (ha.mulOkD hbb)) ea_nil)) ⟨_, _, rfl, b8 ha.2 hbb.2, fun z => absurd z (dens_ne a b), fun _ => by rw [← rat_add]⟩) rfl)
theorem ok_minus {f : Addr} {fd : FuncData} (F : Fun K "minus" "minus" sMinus f fd) (hm : mg "minus" = some (.ref f)) (hb : Binds K fd ["first", "second"] []) (Nm : DefOk P w K mg base (L2.CX P w) 1 "number" (Rnum C)) : DefOk P w K mg base (L2.CX P w) 2 "minus" (Rop (· - ·)) :=
  def_okX F scMinus hm hb (fun ds o ⟨a, b, h, _⟩ => by rw [h]; rfl) fun cdv A outer s H E hr tk po ds o r => by
    obtain ⟨a, b, rfl, ha, hbb, rfl⟩ := r
    refine gs_cons (gs_ret (ev_call Nm hr (ea_cons (ev_sub (ev_mul (ev_ixT (ev_var 0) ev_int rfl) (ev_ixT (ev_var 1) ev_int rfl) (ha.mulOk1 hbb)) (ev_mul (ev_ixT (ev_var 1) ev_int rfl) (ev_ixT (ev_var 0) ev_int rfl) (hbb.mulOk1 ha)))
        (ea_cons (ev_mul (ev_ixT (ev_var 0) ev_int rfl) (ev_ixT (ev_var 1) ev_int rfl) (ha.mulOkD hbb)) ea_nil)) ⟨_, _, rfl, b8 ha.2 hbb.2, fun z => absurd z (dens_ne a b), fun _ => by rw [← rat_sub]⟩) rfl)
theorem ok_times {f : Addr} {fd : FuncData} (F : Fun K "times" "times" sTimes f fd) (hm : mg "times" = some (.ref f)) (hb : Binds K fd ["first", "second"] []) (Nm : DefOk P w K mg base (L2.CX P w) 1 "number" (Rnum C)) : DefOk P w K mg base (L2.CX P w) 2 "times" (Rop (· * ·)) :=
  def_okX F scTimes hm hb (fun ds o ⟨a, b, h, _⟩ => by rw [h]; rfl) fun cdv A outer s H E hr tk po ds o r => by
    obtain ⟨a, b, rfl, ha, hbb, rfl⟩ := r
    refine gs_cons (gs_ret (ev_call Nm hr (ea_cons (ev_mul (ev_ixT (ev_var 0) ev_int rfl) (ev_ixT (ev_var 1) ev_int rfl) (ha.mulOkN hbb))
        (ea_cons (ev_mul (ev_ixT (ev_var 0) ev_int rfl) (ev_ixT (ev_var 1) ev_int rfl) (ha.mulOkD hbb)) ea_nil)) ⟨_, _, rfl, b8 ha.2 hbb.2, fun z => absurd z (dens_ne a b), fun _ => by rw [← rat_mul]⟩) rfl)
theorem ok_over {f : Addr} {fd : FuncData} (F : Fun K "over" "over" sOver f fd) (hm : mg "over" = some (.ref f)) (hb : Binds K fd ["first", "second"] []) (Nm : DefOk P w K mg base (L2.CX P w) 1 "number" (Rnum C)) : DefOk P w K mg base (L2.CX P w) 2 "over" (Rdiv C) :=
  def_okX F scOver hm hb (fun ds o ⟨a, b, h, _⟩ => by rw [h]; rfl) fun cdv A outer s H E hr tk po ds o r => by
    obtain ⟨a, b, rfl, ha, hbb, h0, h1⟩ := r
    refine gs_cons (gs_retO tk Nm hr (ea_cons (ev_mul (ev_ixT (ev_var 0) ev_int rfl) (ev_ixT (ev_var 1) ev_int rfl) (ha.mulOk1 hbb))
        (ea_cons (ev_mul (ev_ixT (ev_var 0) ev_int rfl) (ev_ixT (ev_var 1) ev_int rfl) (ha.mulOk2 hbb)) ea_nil)) ⟨_, _, rfl, b8 ha.2 hbb.1, fun z => ?_, fun z => ?_⟩ outFin_rt outFin_ex)
    · refine h0 (Classical.byContradiction fun n => ?_)
      rw [Int.mul_eq_zero] at z
      rcases z with z | z
      · exact den_ne a z
      · exact num_ne n z
    · rw [← rat_div]
      refine h1 fun n => z ?_
      rw [Rat.num_eq_zero.mpr n, Int.mul_zero]
theorem ok_compare {f : Addr} {fd : FuncData} (F : Fun K "compare" "compare" sCompare f fd) (hm : mg "compare" = some (.ref f)) (hb : Binds K fd ["first", "second"] []) : DefOk P w K mg base L2.CX0 1 "compare" Rcmp :=
  def_ok F scCompare hm hb (fun ds o ⟨a, b, h, _⟩ => by rw [h]; rfl) (fun cdv A outer s H E hr ds d r => by
    obtain ⟨a, b, rfl, ha, hbb, e⟩ := r
    have e' := Out.val.inj e
    subst e'
    have hN := scCompare.nd
    refine gs_cons (gs_set 2 (ev_mul (ev_ixT (ev_var 0) ev_int rfl) (ev_ixT (ev_var 1) ev_int rfl) (ha.mulOk1 hbb)) ?_)
    refine gs_cons (gs_set 3 (ev_mul (ev_ixT (ev_var 1) ev_int rfl) (ev_ixT (ev_var 0) ev_int rfl) (hbb.mulOk1 ha)) ?_)
    have l1 := Rat.lt_iff a b
    have l2 := Rat.lt_iff b a
    unfold cmpQ
    refine gs_cons (gs_if (et_lt (ev_var 2) (ev_var 3)) (fun c => ?_) (fun c => ?_))
    · rw [if_pos (l1.mpr (of_decide_eq_true c))]
      exact gs_cons (gs_ret (ev_neg ev_int) rfl)
    · rw [if_neg fun z => of_decide_eq_false c (l1.mp z)]
      refine gs_nil (gs_cons (gs_if (et_gt (ev_var 2) (ev_var 3)) (fun c => ?_) (fun c => ?_)))
      · rw [if_pos (l2.mpr (of_decide_eq_true c))]
        exact gs_cons (gs_ret ev_int rfl)
      · rw [if_neg fun z => of_decide_eq_false c (l2.mp z)]
        exact gs_nil (gs_cons (gs_ret ev_int rfl))) fun ds y ⟨_, _, _, _, _, e⟩ => Out.noConfusion e
end
/-! ### the law's draws -/
def Rcell : List D → Out → Prop := fun ds o => ∃ (ns : List Int) (k : Nat), ds = [.list (ns.map .int), .int (k : Int)] ∧ o = .val (.int (ns.getD k 0))
def Rdraw : List D → Out → Prop := fun ds o => ∃ (ns : List Int) (k : Nat) (sizes : List Int), ds = [.list (ns.map .int), .int (k : Int), .list (sizes.map .int)] ∧ (∀ s ∈ sizes, 0 < s ∧ s < 1000000) ∧ sizes.length ≤ 1000 ∧ k ≤ 1000 ∧
  o = .val (.list ((drawL ns k sizes).map .int))
def Rf : List D → Out → Prop := fun ds o => ∃ t b : Int, ds = [.int t, .int b] ∧ b ≠ 0 ∧ b.natAbs < 2 ^ 8999 ∧ o = .val (dq (Rat.divInt t b))
section
variable {P : Program} {w : World} {K : DL.Fg} {mg : Str → Option Value} {base : Heap} {C : Addr}
theorem ok_cell {f : Addr} {fd : FuncData} (F : Fun K "_law_cell" "_law_cell" sCell f fd) (hm : mg "_law_cell" = some (.ref f)) (hb : Binds K fd ["script", "k"] []) (mL : mg "len" = none) : DefOk P w K mg base L2.CX0 1 "_law_cell" Rcell :=
  def_ok F scCell hm hb (fun ds o ⟨a, b, h, _⟩ => by rw [h]; rfl) (fun cdv A outer s H E hr ds d r => by
    obtain ⟨ns, k, rfl, e⟩ := r
    have e' := Out.val.inj e
    subst e'
    refine gs_cons (gs_if (et_lt (ev_var 1) (ev_lenL mL (ev_var 0))) (fun c => ?_) (fun c => ?_))
    · have c' : (k : Int) < ((ns.map PyData.int).length : Nat) := of_decide_eq_true c
      rw [List.length_map] at c'
      have lt : k < ns.length := by omega
      refine gs_cons (gs_ret (ev_ixL (ev_var 0) (ev_var 1) (atI_nat (get_map (List.getElem?_eq_getElem lt)))) ?_)
      show (PyData.int _ : D) = PyData.int _
      rw [List.getD_eq_getElem?_getD, List.getElem?_eq_getElem lt]
      rfl
    · have c' : ¬ (k : Int) < ((ns.map PyData.int).length : Nat) := of_decide_eq_false c
      rw [List.length_map] at c'
      refine gs_nil (gs_cons (gs_ret ev_int ?_))
      show (PyData.int _ : D) = PyData.int _
      rw [List.getD_eq_getElem?_getD, List.getElem?_eq_none (by omega)]
      rfl) fun ds y ⟨_, _, _, e⟩ => Out.noConfusion e
theorem ok_draw {f : Addr} {fd : FuncData} (F : Fun K "_law_draw" "_law_draw" sDraw f fd) (hm : mg "_law_draw" = some (.ref f)) (hb : Binds K fd ["script", "k", "sizes"] []) (mL : mg "len" = none) (mR : mg "range" = none) (Ce : DefOk P w K mg base L2.CX0 1 "_law_cell" Rcell) :
    DefOk P w K mg base L2.CX0 2 "_law_draw" Rdraw :=
  def_ok F scDraw hm hb (fun ds o ⟨a, b, c, h, _⟩ => by rw [h]; rfl) (fun cdv A outer s H E hr ds d r => by
    obtain ⟨ns, k, sizes, rfl, hs, hl, hk, e⟩ := r
    have e' := Out.val.inj e
    subst e'
    have hN := scDraw.nd
    have npos : PassesOwn (model P w) (Xn P w K mg base ["script", "k", "sizes", "cell", "drawn", "size", "stirred", "j"] "_law_draw" sDraw f cdv A outer s H E).A (Xn P w K mg base ["script", "k", "sizes", "cell", "drawn", "size", "stirred", "j"] "_law_draw" sDraw f cdv A outer s H E).env (fun _ _ => False) := PassesOwn.never
    refine gs_cons (gs_set 3 (ev_call Ce hr (ea_cons (ev_var 0) (ea_cons (ev_var 1) ea_nil)) ⟨ns, k, rfl, rfl⟩) ?_)
    show GSs _ _ _ _ [.im (.list (ns.map .int)), .im (.int k), .im (.list (sizes.map .int)), .im (.int (ns.getD k 0)), .no, .no, .no, .no]
    refine gs_cut (fun G => G = [.im (.list (ns.map .int)), .im (.int k), .im (.list (sizes.map .int)), .im (.int (cellAbs ns k)), .no, .no, .no, .no]) (gs_if (et_lt (ev_var 3) ev_int) (fun c => ?_) (fun c => ?_)) ?_
    · refine gs_cons (gs_set 3 (ev_neg (ev_var 3)) (gs_nil ?_))
      show _ = _
      unfold cellAbs
      rw [if_pos (of_decide_eq_true c)]
      rfl
    · refine gs_nil ?_
      show _ = _
      unfold cellAbs
      rw [if_neg (of_decide_eq_false c)]
    rintro G rfl
    refine gs_cons (gs_setN 4 (en_lst ea_nil) ?_)
    have cn := cellAbs_nn (ns := ns) (k := k)
    unfold drawL
    generalize cellAbs ns k = c0 at *
    refine gs_cons (gs_if (et_ge (ev_var 3) (ev_pow ev_int ev_int ⟨by decide, by decide, by decide⟩)) (fun c => ?_) (fun c => ?_))
    · have c' : (10 : Int) ^ (18 : Int).toNat ≤ c0 := of_decide_eq_true c
      rw [if_pos c']
      refine gs_cons (gs_set 3 (ev_sub (ev_var 3) (ev_pow ev_int ev_int ⟨by decide, by decide, by decide⟩)) ?_)
      show GSs _ _ _ _ [.im (.list (ns.map .int)), .im (.int k), .im (.list (sizes.map .int)), .im (.int (c0 - 10 ^ (18 : Int).toNat)), .own [], .no, .no, .no]
      generalize c0 - (10 : Int) ^ (18 : Int).toNat = c1
      refine gs_cut (fun G => ∃ c e, G = [.im (.list (ns.map .int)), .im (.int k), .im (.list (sizes.map .int)), .im (.int c), .own ((bigs c1 sizes).map .int), e, .no, .no])
        (gs_forL 5 (fun i G => ∃ (c : Int) (dr : List Int) (e : Ent), G = [.im (.list (ns.map .int)), .im (.int k), .im (.list (sizes.map .int)), .im (.int c), .own (dr.map .int), e, .no, .no] ∧ dr.length = i ∧ dr ++ bigs c (sizes.drop i) = bigs c1 sizes)
          (ev_var 2) ⟨c1, [], .no, rfl, rfl, rfl⟩ (fun i d G hd ⟨c, dr, e, hG, hlen, hdr⟩ => ?_) (fun G hI => ?_) npos) ?_
      · subst hG
        obtain ⟨x, hx, rfl⟩ := map_get hd
        have mem : x ∈ sizes := List.mem_of_getElem? hx
        have il : i < sizes.length := (List.getElem?_eq_some_iff.mp hx).1
        refine gs_cons (gs_app 4 (ev_mod (ev_var 3) (ev_var 5) (hs x mem).1) ?_ (hl := ?_))
        · refine gs_cons (gs_set 3 (ev_fdiv (ev_var 3) (ev_var 5) (wide_div (b := 20) (hs x mem).1 (by have := hs x mem; omega) (by decide) (by decide))) (gs_nil ?_))
          refine ⟨c / x, dr ++ [c % x], .im (.int x), ?_, ?_, ?_⟩
          · rw [List.map_append]
            rfl
          · rw [List.length_append, hlen]
            rfl
          · rw [← hdr, drop_get hx, List.append_assoc]
            rfl
        · rw [List.length_map]
          exact small1000 (by omega)
      · obtain ⟨c, dr, e, hG, hlen, hdr⟩ := hI
        subst hG
        rw [List.length_map] at hlen hdr
        rw [List.drop_of_length_le (Nat.le_refl _)] at hdr
        refine ⟨c, e, ?_⟩
        rw [← hdr]
        show _ = [_, _, _, _, Ent.own ((dr ++ []).map .int), _, _, _]
        rw [List.append_nil]
      · rintro G ⟨c, e, rfl⟩
        refine gs_keep (i := 4) rfl (gs_cons (gs_ret (ev_var 4) rfl))
    · have c' : ¬ (10 : Int) ^ (18 : Int).toNat ≤ c0 := of_decide_eq_false c
      rw [if_neg c']
      refine gs_nil ?_
      refine gs_cons (gs_set 6 (ev_mod (ev_add (ev_add (ev_var 3) ev_int) (ev_mul ev_int (ev_var 1) (.inl (.inl (by decide))))) ev_int (by decide)) ?_)
      show GSs _ _ _ _ [.im (.list (ns.map .int)), .im (.int k), .im (.list (sizes.map .int)), .im (.int c0), .own [], .no, .im (.int ((c0 + 1 + 31 * k) % 2147483647)), .no]
      have p1 : 0 ≤ (c0 + 1 + 31 * (k : Int)) % 2147483647 := Int.emod_nonneg _ (by decide)
      have p2 : (c0 + 1 + 31 * (k : Int)) % 2147483647 < 2147483647 := Int.emod_lt_of_pos _ (by decide)
      generalize (c0 + 1 + 31 * (k : Int)) % 2147483647 = c1 at *
      refine gs_cut (fun G => ∃ c e, G = [.im (.list (ns.map .int)), .im (.int k), .im (.list (sizes.map .int)), .im (.int c0), .own ((smalls c1 0 sizes).map .int), .no, .im (.int c), e])
        (gs_forR 7 (fun i G => ∃ (c : Int) (dr : List Int) (e : Ent), G = [.im (.list (ns.map .int)), .im (.int k), .im (.list (sizes.map .int)), .im (.int c0), .own (dr.map .int), .no, .im (.int c), e] ∧ dr.length = i ∧ dr ++ smalls c i (sizes.drop i) = smalls c1 0 sizes ∧ 0 ≤ c ∧ c < 2147483647)
          mR (ev_lenL mL (ev_var 2)) (by rw [List.length_map]; omega) ⟨c1, [], .no, rfl, rfl, rfl, p1, p2⟩ (fun i G hi ⟨c, dr, e, hG, hlen, hdr, q1, q2⟩ => ?_) (fun G hI => ?_) npos) ?_
      · subst hG
        rw [List.length_map] at hi
        have il : i < sizes.length := by omega
        have hx : sizes[i]? = some sizes[i] := List.getElem?_eq_getElem il
        have mem : sizes[i] ∈ sizes := List.getElem_mem il
        refine gs_cons (gs_set 6 (ev_mod (ev_add (ev_add (ev_mul (ev_var 6) ev_int (.inl (.inr (by decide)))) ev_int) (ev_var 7)) ev_int (by decide)) ?_)
        refine gs_cons (gs_set 6 (ev_mod (ev_add (ev_mul (ev_var 6) ev_int (.inl (.inr (by decide)))) ev_int) ev_int (by decide)) ?_)
        show GSs _ _ _ _ [.im (.list (ns.map .int)), .im (.int k), .im (.list (sizes.map .int)), .im (.int c0), .own (dr.map .int), .no, .im (.int (st2 c i)), .im (.int i)]
        refine gs_cons (gs_app 4 (ev_mod (ev_fdiv (ev_var 6) ev_int ⟨by decide, by decide⟩) (ev_ixL (ev_var 2) (ev_var 7) (atI_nat (get_map hx))) (hs _ mem).1) ?_ (hl := ?_))
        · refine gs_nil ⟨st2 c i, dr ++ [st2 c i / 7 % sizes[i]], .im (.int i), ?_, ?_, ?_, ?_, ?_⟩
          · rw [List.map_append]
            rfl
          · rw [List.length_append, hlen]
            rfl
          · rw [← hdr, drop_get hx, List.append_assoc]
            rfl
          · exact Int.emod_nonneg _ (by decide)
          · exact Int.emod_lt_of_pos _ (by decide)
        · rw [List.length_map]
          exact small1000 (by omega)
      · obtain ⟨c, dr, e, hG, hlen, hdr, _, _⟩ := hI
        subst hG
        have e0 : ((sizes.map PyData.int).length : Int).toNat = sizes.length := by rw [List.length_map]; omega
        rw [e0] at hlen hdr
        rw [List.drop_of_length_le (Nat.le_refl _)] at hdr
        refine ⟨c, e, ?_⟩
        rw [← hdr]
        show _ = [_, _, _, _, Ent.own ((dr ++ []).map .int), _, _, _]
        rw [List.append_nil]
      · rintro G ⟨c, e, rfl⟩
        refine gs_keep (i := 4) rfl (gs_cons (gs_ret (ev_var 4) rfl))) fun ds y ⟨_, _, _, _, _, _, _, e⟩ => Out.noConfusion e
theorem ok_f {f : Addr} {fd : FuncData} (F : Fun K "_law_f" "_law_f" sF f fd) (hm : mg "_law_f" = some (.ref f)) (hb : Binds K fd ["top", "bottom"] []) (mM : mg "max" = none) : DefOk P w K mg base L2.CX0 1 "_law_f" Rf :=
  def_ok F scF hm hb (fun ds o ⟨a, b, h, _⟩ => by rw [h]; rfl) (fun cdv A outer s H E hr ds d r => by
    obtain ⟨t, b, rfl, hb0, hbb, e⟩ := r
    have e' := Out.val.inj e
    subst e'
    have hN := scF.nd
    have npos : PassesOwn (model P w) (Xn P w K mg base ["top", "bottom", "first", "second"] "_law_f" sF f cdv A outer s H E).A (Xn P w K mg base ["top", "bottom", "first", "second"] "_law_f" sF f cdv A outer s H E).env (fun _ _ => False) := PassesOwn.never
    refine gs_cut (fun G => ∃ t' b' : Int, G = [.im (.int t'), .im (.int b'), .no, .no] ∧ t'.natAbs = t.natAbs ∧ b' = b.natAbs ∧ nrm t b = (t' / (Nat.gcd t.natAbs b.natAbs : Nat), b' / (Nat.gcd t.natAbs b.natAbs : Nat))) (gs_if (et_lt (ev_var 1) ev_int) (fun c => ?_) (fun c => ?_)) ?_
    · have c' : b < 0 := of_decide_eq_true c
      refine gs_cons (gs_set 0 (ev_neg (ev_var 0)) (gs_cons (gs_set 1 (ev_neg (ev_var 1)) (gs_nil ?_))))
      refine ⟨-t, -b, rfl, Int.natAbs_neg t, by omega, ?_⟩
      unfold nrm
      rw [if_pos c']
    · have c' : ¬ b < 0 := of_decide_eq_false c
      refine gs_nil ⟨t, b, rfl, rfl, by omega, ?_⟩
      unfold nrm
      rw [if_neg c']
    rintro G ⟨t', b', rfl, h1, h2, h3⟩
    refine gs_cons (gs_set 2 (ev_max2 mM (ev_var 0) (ev_neg (ev_var 0))) ?_)
    refine gs_cons (gs_set 3 (ev_var 1) ?_)
    have em : (if -t' > t' then -t' else t') = (t.natAbs : Int) := by
      split <;> omega
    show GSs _ _ _ _ [.im (.int t'), .im (.int b'), .im (.int (if -t' > t' then -t' else t')), .im (.int b')]
    rw [em]
    refine gs_cut (fun G => G = [.im (.int t'), .im (.int b'), .im (.int (Nat.gcd t.natAbs b.natAbs : Nat)), .im (.int 0)])
      (gs_while (fun m G => ∃ x y : Nat, G = [.im (.int t'), .im (.int b'), .im (.int x), .im (.int y)] ∧ Nat.gcd x y = Nat.gcd t.natAbs b.natAbs ∧ m = y) b.natAbs ⟨t.natAbs, b.natAbs, by rw [h2], rfl, rfl⟩ (fun m G ⟨x, y, hG, hg, hm⟩ => ?_) npos) ?_
    · subst hG hm
      refine ⟨_, et_neI (ev_var 3) ev_int, fun c => ?_, fun c => ?_⟩
      · have c' : (m : Int) ≠ 0 := by
          intro z
          rw [z] at c
          cases c
        have yp : 0 < m := by omega
        refine gs_cons (gs_par 2 3 (ea_cons (ev_var 3) (ea_cons (ev_mod (ev_var 2) (ev_var 3) (by omega)) ea_nil)) (gs_nil ?_))
        refine ⟨x % m, Nat.mod_lt _ yp, m, x % m, ?_, ?_, rfl⟩
        · rfl
        · rw [← hg, Nat.gcd_comm x m, Nat.gcd_rec m x, Nat.gcd_comm]
      · have c' : (m : Int) = 0 := by
          by_cases z : (m : Int) = 0
          · exact z
          · rw [decide_eq_false z] at c
            cases c
        have y0 : m = 0 := by omega
        subst y0
        rw [Nat.gcd_zero_right] at hg
        rw [hg]
        rfl
    · rintro G rfl
      refine gs_cons (gs_ret (ev_tup (ea_cons (ev_fdiv (ev_var 0) (ev_var 2) (gcd_ok hb0 hbb)) (ea_cons (ev_fdiv (ev_var 1) (ev_var 2) (gcd_ok hb0 hbb)) ea_nil))) ?_)
      show (PyData.tuple [_, _] : D) = dq (Rat.divInt t b)
      rw [← dq_nrm hb0, h3]
      rfl) fun ds y ⟨_, _, _, _, _, e⟩ => Out.noConfusion e
end
end K2

namespace K2
open PySem PySem.Spec PyProof.Rows L2 DL MT
section
variable {P : Program} {w : World} {K : DL.Fg} {mg : Str → Option Value} {base : Heap} {C : Addr}
def Rless : List D → Out → Prop := fun ds o => ∃ a b : Rat, ds = [dq a, dq b] ∧ Bq 4000 a ∧ Bq 4000 b ∧ o = .val (.bool (decide (a < b)))
theorem ok_less {f : Addr} {fd : FuncData} (F : Fun K "_law_less" "_law_less" sLess f fd) (hm : mg "_law_less" = some (.ref f)) (hb : Binds K fd ["a", "b"] []) : DefOk P w K mg base L2.CX0 1 "_law_less" Rless :=
  def_ok F scLess hm hb (fun ds o ⟨a, b, h, _⟩ => by rw [h]; rfl) (fun cdv A outer s H E hr ds d r => by
    obtain ⟨a, b, rfl, ha, hbb, e⟩ := r
    have e' := Out.val.inj e
    subst e'
    refine gs_cons (gs_ret (ev_lt (ev_mul (ev_ixT (ev_var 0) ev_int rfl) (ev_ixT (ev_var 1) ev_int rfl) (ha.mulOk1 hbb)) (ev_mul (ev_ixT (ev_var 1) ev_int rfl) (ev_ixT (ev_var 0) ev_int rfl) (hbb.mulOk1 ha))) ?_)
    show (PyData.bool _ : D) = PyData.bool _
    rw [decide_eq_decide.mpr (Rat.lt_iff a b)]) fun ds y ⟨_, _, _, _, _, e⟩ => Out.noConfusion e
def Rlaw : List D → Out → Prop := fun ds o => ∃ ns : List Int, ds = [.list (ns.map .int)] ∧ ns.length ≤ 63 ∧ o = .val (.bool true)
theorem cmp_add (a b c : Rat) : cmpQ (a + c) (b + c) = cmpQ a b := by
  unfold cmpQ
  rw [ite_congr (propext (Rat.add_lt_add_right (a := a) (b := b) (c := c))) (fun _ => rfl) fun _ => ite_congr (propext (Rat.add_lt_add_right (a := b) (b := a) (c := c))) (fun _ => rfl) fun _ => rfl]
theorem cmp_swap (a b : Rat) : cmpQ b a = -cmpQ a b := by
  unfold cmpQ
  by_cases h1 : a < b
  · have h2 : ¬ b < a := fun z => Rat.lt_irrefl (a := a) (by grind)
    rw [if_neg h2, if_pos h1, if_pos h1]
    rfl
  · by_cases h2 : b < a
    · rw [if_pos h2, if_neg h1, if_pos h2]
    · rw [if_neg h2, if_neg h1, if_neg h1, if_neg h2]
      rfl
theorem not_zero {q : Rat} (c : (!decide (q.num = 0)) = true) : q ≠ 0 := fun z => by
  rw [Rat.num_eq_zero.mpr z] at c
  cases c
theorem int_ne {i j : Int} (h : i = j) : (!decide (i = j)) = false := by
  rw [decide_eq_true h]
  rfl
theorem ok_law {f : Addr} {fd : FuncData} (F : Fun K "law" "law" sLaw f fd)
    (Pl : DefOk P w K mg base (L2.CX P w) 2 "plus" (Rop (· + ·))) (Mi : DefOk P w K mg base (L2.CX P w) 2 "minus" (Rop (· - ·))) (Ti : DefOk P w K mg base (L2.CX P w) 2 "times" (Rop (· * ·))) (Ov : DefOk P w K mg base (L2.CX P w) 2 "over" (Rdiv C)) (Co : DefOk P w K mg base L2.CX0 1 "compare" Rcmp)
    (Dr : DefOk P w K mg base L2.CX0 2 "_law_draw" Rdraw) (Lf : DefOk P w K mg base L2.CX0 1 "_law_f" Rf) (Le : DefOk P w K mg base L2.CX0 1 "_law_less" Rless)
    (mR : mg "range" = none) (mL : mg "len" = none) (mMi : mg "min" = none) (mMa : mg "max" = none) : FnOk P w K mg base L2.CX0 4 f fd ["script"] (spD K Rlaw) :=
  fn_ok F scLaw (fun ds o ⟨a, h, _⟩ => by rw [h]; rfl) (fun cdv A outer s H E hr ds d r => by
    obtain ⟨ns, rfl, hlen, e⟩ := r
    have e' := Out.val.inj e
    subst e'
    have hN := scLaw.nd
    have hu : (Xn P w K mg base ["script", "k", "digits", "a", "b", "c", "due"] "law" sLaw f cdv A outer s H E).A.units + 64 < cLine := hr.units
    have npos : PassesOwn (model P w) (Xn P w K mg base ["script", "k", "digits", "a", "b", "c", "due"] "law" sLaw f cdv A outer s H E).A (Xn P w K mg base ["script", "k", "digits", "a", "b", "c", "due"] "law" sLaw f cdv A outer s H E).env (fun _ _ => False) := PassesOwn.never
    refine gs_cut (fun G => ∃ e1 e2 e3 e4 e5 e6 : Ent, G = [.im (.list (ns.map .int)), e1, e2, e3, e4, e5, e6])
      (gs_forR 1 (fun i G => ∃ e1 e2 e3 e4 e5 e6 : Ent, G = [.im (.list (ns.map .int)), e1, e2, e3, e4, e5, e6]) mR (ev_min2 mMi ev_int (ev_max2 mMa ev_int (ev_lenL mL (ev_var 0)))) (by split <;> split <;> omega) ⟨_, _, _, _, _, _, rfl⟩
        (fun i G hi ⟨e1, e2, e3, e4, e5, e6, hG⟩ => ?_) (fun G hG => hG) npos) ?_
    · subst hG
      have hi' : i < 30 := by
        have h := hi
        split at h <;> omega
      refine gs_cons (gs_set 2 (ev_call Dr hr (ea_cons (ev_var 0) (ea_cons (ev_var 1) (ea_cons (en_lst (ea_cons ev_int (ea_cons ev_int (ea_cons ev_int (ea_cons ev_int (ea_cons ev_int (ea_cons ev_int ea_nil))))))).im ea_nil))) ⟨ns, i, [31, 9, 31, 9, 31, 9], rfl, by decide, by decide, by omega, rfl⟩) ?_)
      have hin := drawL_in (ns := ns) (k := i) (sizes := [31, 9, 31, 9, 31, 9]) (by decide)
      generalize drawL ns i [31, 9, 31, 9, 31, 9] = dd at hin
      obtain ⟨x1, x2, x3, x4, x5, x6, rfl, h1, h2, h3, h4, h5, h6⟩ : ∃ x1 x2 x3 x4 x5 x6 : Int, dd = [x1, x2, x3, x4, x5, x6] ∧ (0 ≤ x1 ∧ x1 < 31) ∧ (0 ≤ x2 ∧ x2 < 9) ∧ (0 ≤ x3 ∧ x3 < 31) ∧ (0 ≤ x4 ∧ x4 < 9) ∧ (0 ≤ x5 ∧ x5 < 31) ∧ (0 ≤ x6 ∧ x6 < 9) := by
        cases hin with
        | cons a0 a1 t =>
        cases t with
        | cons b0 b1 t =>
        cases t with
        | cons c0 c1 t =>
        cases t with
        | cons d0 d1 t =>
        cases t with
        | cons e0 e1 t =>
        cases t with
        | cons f0 f1 t =>
        cases t
        exact ⟨_, _, _, _, _, _, rfl, ⟨a0, a1⟩, ⟨b0, b1⟩, ⟨c0, c1⟩, ⟨d0, d1⟩, ⟨e0, e1⟩, ⟨f0, f1⟩⟩
      have lf : ∀ {t b : Int}, b ≠ 0 → b.natAbs < 2 ^ 20 → Rf [.int t, .int b] (.val (dq (Rat.divInt t b))) := fun {t b} h1 h2 => ⟨t, b, rfl, h1, lt_pow h2, rfl⟩
      refine gs_cons (gs_set 3 (ev_call Lf hr (ea_cons (ev_sub (ev_ixL (ev_var 2) ev_int rfl) ev_int) (ea_cons (ev_add ev_int (ev_ixL (ev_var 2) ev_int rfl)) ea_nil)) (lf (by omega) (by omega))) ?_)
      refine gs_cons (gs_set 4 (ev_call Lf hr (ea_cons (ev_sub (ev_ixL (ev_var 2) ev_int rfl) ev_int) (ea_cons (ev_add ev_int (ev_ixL (ev_var 2) ev_int rfl)) ea_nil)) (lf (by omega) (by omega))) ?_)
      refine gs_cons (gs_set 5 (ev_call Lf hr (ea_cons (ev_sub (ev_ixL (ev_var 2) ev_int rfl) ev_int) (ea_cons (ev_add ev_int (ev_ixL (ev_var 2) ev_int rfl)) ea_nil)) (lf (by omega) (by omega))) ?_)
      show GSs _ _ _ _ [.im (.list (ns.map .int)), .im (.int i), .im (.list [.int x1, .int x2, .int x3, .int x4, .int x5, .int x6]), .im (dq (Rat.divInt (x1 - 15) (1 + x2))), .im (dq (Rat.divInt (x3 - 15) (1 + x4))), .im (dq (Rat.divInt (x5 - 15) (1 + x6))), e6]
      have Ba : Bq 20 (Rat.divInt (x1 - 15) (1 + x2)) := .frac (by omega) (by omega) (by omega)
      have Bb : Bq 20 (Rat.divInt (x3 - 15) (1 + x4)) := .frac (by omega) (by omega) (by omega)
      have Bc : Bq 20 (Rat.divInt (x5 - 15) (1 + x6)) := .frac (by omega) (by omega) (by omega)
      generalize Rat.divInt (x1 - 15) (1 + x2) = a at *
      generalize Rat.divInt (x3 - 15) (1 + x4) = b at *
      generalize Rat.divInt (x5 - 15) (1 + x6) = c at *
      have op : ∀ (f : Rat → Rat → Rat) {n m : Nat} {p q : Rat}, Bq n p → Bq m q → n ≤ 4000 → m ≤ 4000 → Rop f [dq p, dq q] (.val (dq (f p q))) := fun f {n m p q} h1 h2 l1 l2 => ⟨p, q, rfl, h1.mono l1, h2.mono l2, rfl⟩
      have cm : ∀ {n m : Nat} {p q : Rat}, Bq n p → Bq m q → n ≤ 4000 → m ≤ 4000 → Rcmp [dq p, dq q] (.val (.int (cmpQ p q))) := fun {n m p q} h1 h2 l1 l2 => ⟨p, q, rfl, h1.mono l1, h2.mono l2, rfl⟩
      refine gs_cons (gs_ifF (EvT.is (et_w (ew_or
        (et_ne hu (ev_call Pl hr (ea_cons (ev_call Pl hr (ea_cons (ev_var 3) (ea_cons (ev_var 4) ea_nil)) (op _ Ba Bb (by decide) (by decide))) (ea_cons (ev_var 5) ea_nil)) (op _ (Ba.add Bb) Bc (by decide) (by decide)))
          (ev_call Pl hr (ea_cons (ev_var 3) (ea_cons (ev_call Pl hr (ea_cons (ev_var 5) (ea_cons (ev_var 4) ea_nil)) (op _ Bc Bb (by decide) (by decide))) ea_nil)) (op _ Ba (Bc.add Bb) (by decide) (by decide))) rfl rfl)
        (fun _ => ew_or1 (et_ne hu (ev_call Ti hr (ea_cons (ev_call Ti hr (ea_cons (ev_var 3) (ea_cons (ev_var 4) ea_nil)) (op _ Ba Bb (by decide) (by decide))) (ea_cons (ev_var 5) ea_nil)) (op _ (Ba.mul Bb) Bc (by decide) (by decide)))
          (ev_call Ti hr (ea_cons (ev_var 3) (ea_cons (ev_call Ti hr (ea_cons (ev_var 5) (ea_cons (ev_var 4) ea_nil)) (op _ Bc Bb (by decide) (by decide))) ea_nil)) (op _ Ba (Bc.mul Bb) (by decide) (by decide))) rfl rfl)))) ?_) ?_)
      · rw [ne_dq (show a + b + c = a + (c + b) by grind), ne_dq (show a * b * c = a * (c * b) by grind)]
        rfl
      refine gs_cons (gs_ifF (EvT.is (et_w (ew_or
        (et_ne hu (ev_call Ti hr (ea_cons (ev_var 3) (ea_cons (ev_call Pl hr (ea_cons (ev_var 4) (ea_cons (ev_var 5) ea_nil)) (op _ Bb Bc (by decide) (by decide))) ea_nil)) (op _ Ba (Bb.add Bc) (by decide) (by decide)))
          (ev_call Pl hr (ea_cons (ev_call Ti hr (ea_cons (ev_var 3) (ea_cons (ev_var 4) ea_nil)) (op _ Ba Bb (by decide) (by decide))) (ea_cons (ev_call Ti hr (ea_cons (ev_var 3) (ea_cons (ev_var 5) ea_nil)) (op _ Ba Bc (by decide) (by decide))) ea_nil)) (op _ (Ba.mul Bb) (Ba.mul Bc) (by decide) (by decide))) rfl rfl)
        (fun _ => ew_or1 (et_ne hu (ev_call Pl hr (ea_cons (ev_call Mi hr (ea_cons (ev_var 3) (ea_cons (ev_var 4) ea_nil)) (op _ Ba Bb (by decide) (by decide))) (ea_cons (ev_var 4) ea_nil)) (op _ (Ba.sub Bb) Bb (by decide) (by decide)))
          (ev_var 3) rfl rfl)))) ?_) ?_)
      · rw [ne_dq (show a * (b + c) = a * b + a * c by grind), ne_dq (show a - b + b = a by grind)]
        rfl
      refine gs_cons (gs_ifF (EvT.is (et_w (ew_and (q := !PyData.eqv (dq (a / b * b)) (dq a)) (et_neI (ev_ixT (ev_var 4) ev_int rfl) ev_int)
        (fun hc => ew_and1 (et_ne hu (ev_call Ti hr (ea_cons (ev_call Ov hr (ea_cons (ev_var 3) (ea_cons (ev_var 4) ea_nil)) ⟨a, b, rfl, Ba.mono (by decide), Bb.mono (by decide), fun z => absurd z (not_zero hc), fun _ => rfl⟩) (ea_cons (ev_var 4) ea_nil)) (op _ (Ba.div Bb (not_zero hc)) Bb (by decide) (by decide)))
          (ev_var 3) rfl rfl)))) ?_) ?_)
      · by_cases hz : b = 0
        · rw [hz]
          rfl
        · rw [ne_dq (show a / b * b = a by grind), Bool.and_false]
      refine gs_cons (gs_set 6 ev_int ?_)
      have less : ∀ {n m : Nat} {p q : Rat}, Bq n p → Bq m q → n ≤ 4000 → m ≤ 4000 → Rless [dq p, dq q] (.val (.bool (decide (p < q)))) := fun {n m p q} h1 h2 l1 l2 => ⟨p, q, rfl, h1.mono l1, h2.mono l2, rfl⟩
      refine gs_cut (fun G => G = [.im (.list (ns.map .int)), .im (.int i), .im (.list [.int x1, .int x2, .int x3, .int x4, .int x5, .int x6]), .im (dq a), .im (dq b), .im (dq c), .im (.int (if a < b then -1 else 0))])
        (gs_if (et_val (ev_call Le hr (ea_cons (ev_var 3) (ea_cons (ev_var 4) ea_nil)) (less Ba Bb (by decide) (by decide)))) (fun hc => ?_) (fun hc => ?_)) ?_
      · refine gs_cons (gs_set 6 (ev_neg ev_int) (gs_nil ?_))
        show [_, _, _, _, _, _, Ent.im (.int (-1))] = [_, _, _, _, _, _, _]
        rw [if_pos (of_decide_eq_true hc)]
      · refine gs_nil ?_
        show [_, _, _, _, _, _, Ent.im (.int 0)] = [_, _, _, _, _, _, _]
        rw [if_neg (of_decide_eq_false hc)]
      rintro G rfl
      refine gs_cut (fun G => G = [.im (.list (ns.map .int)), .im (.int i), .im (.list [.int x1, .int x2, .int x3, .int x4, .int x5, .int x6]), .im (dq a), .im (dq b), .im (dq c), .im (.int (cmpQ a b))])
        (gs_if (et_val (ev_call Le hr (ea_cons (ev_var 4) (ea_cons (ev_var 3) ea_nil)) (less Bb Ba (by decide) (by decide)))) (fun hc => ?_) (fun hc => ?_)) ?_
      · refine gs_cons (gs_set 6 ev_int (gs_nil ?_))
        have h1 : b < a := of_decide_eq_true hc
        have h2 : ¬ a < b := fun z => Rat.lt_irrefl (a := a) (by grind)
        show [_, _, _, _, _, _, Ent.im (.int 1)] = [_, _, _, _, _, _, Ent.im (.int (if a < b then -1 else if b < a then 1 else 0))]
        rw [if_neg h2, if_pos h1]
      · refine gs_nil ?_
        have h1 : ¬ b < a := of_decide_eq_false hc
        show [_, _, _, _, _, _, Ent.im (.int (if a < b then -1 else 0))] = [_, _, _, _, _, _, Ent.im (.int (if a < b then -1 else if b < a then 1 else 0))]
        rw [if_neg h1]
      rintro G rfl
      refine gs_cons (gs_ifF (EvT.is (et_w (ew_or
        (et_neI (ev_call Co hr (ea_cons (ev_var 3) (ea_cons (ev_var 4) ea_nil)) (cm Ba Bb (by decide) (by decide))) (ev_var 6))
        (fun _ => ew_or (et_neI (ev_call Co hr (ea_cons (ev_call Pl hr (ea_cons (ev_var 3) (ea_cons (ev_var 5) ea_nil)) (op _ Ba Bc (by decide) (by decide))) (ea_cons (ev_call Pl hr (ea_cons (ev_var 4) (ea_cons (ev_var 5) ea_nil)) (op _ Bb Bc (by decide) (by decide))) ea_nil)) (cm (Ba.add Bc) (Bb.add Bc) (by decide) (by decide))) (ev_var 6))
          (fun _ => ew_or1 (et_neI (ev_call Co hr (ea_cons (ev_var 4) (ea_cons (ev_var 3) ea_nil)) (cm Bb Ba (by decide) (by decide))) (ev_neg (ev_var 6))))))) ?_) (gs_nil ⟨_, _, _, _, _, _, rfl⟩))
      rw [int_ne rfl, int_ne (cmp_add a b c), int_ne (cmp_swap a b)]
      rfl
    · rintro G ⟨e1, e2, e3, e4, e5, e6, rfl⟩
      exact gs_cons (gs_ret ev_bl rfl)) fun ds y ⟨_, _, _, e⟩ => Out.noConfusion e
end
end K2

namespace K2
open PySem PySem.Spec PyProof.Rows L2 DL MT
theorem all_mk {l : PySem.W.OpenLaw} {w : World} {K : PySem.W.Frag} {h : Heap} {mg : Str → Option Value} {fa : Addr} (X : K.In h) (G : h.Ns mainGlobals mg) (hfa : mg "law" = some (.ref fa))
    {CN : Addr} (aCN : PySem.W.nsIn K mainGlobals "NumberError" = some (some (.ref CN))) (eCN : PySem.W.excIn K CN [.type "ValueError", .type "Exception", .type "BaseException", .type "object"] "ValueError.__new__" = true) (kCN : PySem.W.keepIn K (.ref CN) = true) (bCN : PySem.W.subIn K (.ref CN) (.type "BaseException") = some true) (tCN : PySem.W.typeIn K (.ref CN) = some (.type "type")) (iCN : PySem.W.isClsIn K CN = true) (sCN : PySem.W.subIn K (.ref CN) (.ref CN) = some true)
    {f0 : Addr} {od0 an0 : Option Addr} {sl0 : Array (Option Value)} {oc0 kV0 dc0 pm0 cd0 ct0 : Value} (a0 : PySem.W.nsIn K mainGlobals "number" = some (some (.ref f0))) (l0 : K.lookup f0 = some ⟨oc0, od0, .func (PySem.W.fnOf "number" "number" (defArgs sNumber) (defBody sNumber) (defScope sNumber) .none kV0 dc0 pm0 an0 cd0 ct0), sl0⟩) (c0 : PySem.W.codeIn K cd0 "number" = true) (k0 : PySem.W.keepIn K (.ref f0) = true)
    {f1 : Addr} {od1 an1 : Option Addr} {sl1 : Array (Option Value)} {oc1 kV1 dc1 pm1 cd1 ct1 : Value} (a1 : PySem.W.nsIn K mainGlobals "plus" = some (some (.ref f1))) (l1 : K.lookup f1 = some ⟨oc1, od1, .func (PySem.W.fnOf "plus" "plus" (defArgs sPlus) (defBody sPlus) (defScope sPlus) .none kV1 dc1 pm1 an1 cd1 ct1), sl1⟩) (c1 : PySem.W.codeIn K cd1 "plus" = true) (k1 : PySem.W.keepIn K (.ref f1) = true)
    {f2 : Addr} {od2 an2 : Option Addr} {sl2 : Array (Option Value)} {oc2 kV2 dc2 pm2 cd2 ct2 : Value} (a2 : PySem.W.nsIn K mainGlobals "minus" = some (some (.ref f2))) (l2 : K.lookup f2 = some ⟨oc2, od2, .func (PySem.W.fnOf "minus" "minus" (defArgs sMinus) (defBody sMinus) (defScope sMinus) .none kV2 dc2 pm2 an2 cd2 ct2), sl2⟩) (c2 : PySem.W.codeIn K cd2 "minus" = true) (k2 : PySem.W.keepIn K (.ref f2) = true)
    {f3 : Addr} {od3 an3 : Option Addr} {sl3 : Array (Option Value)} {oc3 kV3 dc3 pm3 cd3 ct3 : Value} (a3 : PySem.W.nsIn K mainGlobals "times" = some (some (.ref f3))) (l3 : K.lookup f3 = some ⟨oc3, od3, .func (PySem.W.fnOf "times" "times" (defArgs sTimes) (defBody sTimes) (defScope sTimes) .none kV3 dc3 pm3 an3 cd3 ct3), sl3⟩) (c3 : PySem.W.codeIn K cd3 "times" = true) (k3 : PySem.W.keepIn K (.ref f3) = true)
    {f4 : Addr} {od4 an4 : Option Addr} {sl4 : Array (Option Value)} {oc4 kV4 dc4 pm4 cd4 ct4 : Value} (a4 : PySem.W.nsIn K mainGlobals "over" = some (some (.ref f4))) (l4 : K.lookup f4 = some ⟨oc4, od4, .func (PySem.W.fnOf "over" "over" (defArgs sOver) (defBody sOver) (defScope sOver) .none kV4 dc4 pm4 an4 cd4 ct4), sl4⟩) (c4 : PySem.W.codeIn K cd4 "over" = true) (k4 : PySem.W.keepIn K (.ref f4) = true)
    {f5 : Addr} {od5 an5 : Option Addr} {sl5 : Array (Option Value)} {oc5 kV5 dc5 pm5 cd5 ct5 : Value} (a5 : PySem.W.nsIn K mainGlobals "compare" = some (some (.ref f5))) (l5 : K.lookup f5 = some ⟨oc5, od5, .func (PySem.W.fnOf "compare" "compare" (defArgs sCompare) (defBody sCompare) (defScope sCompare) .none kV5 dc5 pm5 an5 cd5 ct5), sl5⟩) (c5 : PySem.W.codeIn K cd5 "compare" = true) (k5 : PySem.W.keepIn K (.ref f5) = true)
    {f6 : Addr} {od6 an6 : Option Addr} {sl6 : Array (Option Value)} {oc6 kV6 dc6 pm6 cd6 ct6 : Value} (a6 : PySem.W.nsIn K mainGlobals "_law_cell" = some (some (.ref f6))) (l6 : K.lookup f6 = some ⟨oc6, od6, .func (PySem.W.fnOf "_law_cell" "_law_cell" (defArgs sCell) (defBody sCell) (defScope sCell) .none kV6 dc6 pm6 an6 cd6 ct6), sl6⟩) (c6 : PySem.W.codeIn K cd6 "_law_cell" = true) (k6 : PySem.W.keepIn K (.ref f6) = true)
    {f7 : Addr} {od7 an7 : Option Addr} {sl7 : Array (Option Value)} {oc7 kV7 dc7 pm7 cd7 ct7 : Value} (a7 : PySem.W.nsIn K mainGlobals "_law_draw" = some (some (.ref f7))) (l7 : K.lookup f7 = some ⟨oc7, od7, .func (PySem.W.fnOf "_law_draw" "_law_draw" (defArgs sDraw) (defBody sDraw) (defScope sDraw) .none kV7 dc7 pm7 an7 cd7 ct7), sl7⟩) (c7 : PySem.W.codeIn K cd7 "_law_draw" = true) (k7 : PySem.W.keepIn K (.ref f7) = true)
    {f8 : Addr} {od8 an8 : Option Addr} {sl8 : Array (Option Value)} {oc8 kV8 dc8 pm8 cd8 ct8 : Value} (a8 : PySem.W.nsIn K mainGlobals "_law_f" = some (some (.ref f8))) (l8 : K.lookup f8 = some ⟨oc8, od8, .func (PySem.W.fnOf "_law_f" "_law_f" (defArgs sF) (defBody sF) (defScope sF) .none kV8 dc8 pm8 an8 cd8 ct8), sl8⟩) (c8 : PySem.W.codeIn K cd8 "_law_f" = true) (k8 : PySem.W.keepIn K (.ref f8) = true)
    {f9 : Addr} {od9 an9 : Option Addr} {sl9 : Array (Option Value)} {oc9 kV9 dc9 pm9 cd9 ct9 : Value} (a9 : PySem.W.nsIn K mainGlobals "_law_less" = some (some (.ref f9))) (l9 : K.lookup f9 = some ⟨oc9, od9, .func (PySem.W.fnOf "_law_less" "_law_less" (defArgs sLess) (defBody sLess) (defScope sLess) .none kV9 dc9 pm9 an9 cd9 ct9), sl9⟩) (c9 : PySem.W.codeIn K cd9 "_law_less" = true) (k9 : PySem.W.keepIn K (.ref f9) = true)
    {f10 : Addr} {od10 an10 : Option Addr} {sl10 : Array (Option Value)} {oc10 kV10 dc10 pm10 cd10 ct10 : Value} (a10 : PySem.W.nsIn K mainGlobals "law" = some (some (.ref f10))) (l10 : K.lookup f10 = some ⟨oc10, od10, .func (PySem.W.fnOf "law" "law" (defArgs sLaw) (defBody sLaw) (defScope sLaw) .none kV10 dc10 pm10 an10 cd10 ct10), sl10⟩) (c10 : PySem.W.codeIn K cd10 "law" = true) (k10 : PySem.W.keepIn K (.ref f10) = true)
    (z1 : PySem.W.nsIn K mainGlobals "len" = some none)
    (z2 : PySem.W.nsIn K mainGlobals "range" = some none)
    (z3 : PySem.W.nsIn K mainGlobals "min" = some none)
    (z4 : PySem.W.nsIn K mainGlobals "max" = some none)
    (z5 : PySem.W.nsIn K mainGlobals "gcd" = some (some (.builtin "math.gcd"))) :
    ∃ fd : FuncData, (∀ (s : Shared) (v : Value), BindsTo s fd ⟨[v], []⟩ [("script", v)]) ∧ ∀ base : Heap, K.In base → base.Ns mainGlobals mg → FnOk l.prog w K mg base L2.CX0 4 fa fd ["script"] (spD K Rlaw) := by
  have e := hfa.symm.trans (PySem.W.mg_of X G a10)
  cases e
  have F0 := fun_mk (st := sNumber) l0 c0 k0
  have b0 := F0.binds (ps := ["top", "bottom"]) fun _ _ _ _ _ _ us hl => match us, hl with | [_, _], _ => rfl
  have m0 := PySem.W.mg_of X G a0
  have F1 := fun_mk (st := sPlus) l1 c1 k1
  have b1 := F1.binds (ps := ["first", "second"]) fun _ _ _ _ _ _ us hl => match us, hl with | [_, _], _ => rfl
  have m1 := PySem.W.mg_of X G a1
  have F2 := fun_mk (st := sMinus) l2 c2 k2
  have b2 := F2.binds (ps := ["first", "second"]) fun _ _ _ _ _ _ us hl => match us, hl with | [_, _], _ => rfl
  have m2 := PySem.W.mg_of X G a2
  have F3 := fun_mk (st := sTimes) l3 c3 k3
  have b3 := F3.binds (ps := ["first", "second"]) fun _ _ _ _ _ _ us hl => match us, hl with | [_, _], _ => rfl
  have m3 := PySem.W.mg_of X G a3
  have F4 := fun_mk (st := sOver) l4 c4 k4
  have b4 := F4.binds (ps := ["first", "second"]) fun _ _ _ _ _ _ us hl => match us, hl with | [_, _], _ => rfl
  have m4 := PySem.W.mg_of X G a4
  have F5 := fun_mk (st := sCompare) l5 c5 k5
  have b5 := F5.binds (ps := ["first", "second"]) fun _ _ _ _ _ _ us hl => match us, hl with | [_, _], _ => rfl
  have m5 := PySem.W.mg_of X G a5
  have F6 := fun_mk (st := sCell) l6 c6 k6
  have b6 := F6.binds (ps := ["script", "k"]) fun _ _ _ _ _ _ us hl => match us, hl with | [_, _], _ => rfl
  have m6 := PySem.W.mg_of X G a6
  have F7 := fun_mk (st := sDraw) l7 c7 k7
  have b7 := F7.binds (ps := ["script", "k", "sizes"]) fun _ _ _ _ _ _ us hl => match us, hl with | [_, _, _], _ => rfl
  have m7 := PySem.W.mg_of X G a7
  have F8 := fun_mk (st := sF) l8 c8 k8
  have b8 := F8.binds (ps := ["top", "bottom"]) fun _ _ _ _ _ _ us hl => match us, hl with | [_, _], _ => rfl
  have m8 := PySem.W.mg_of X G a8
  have F9 := fun_mk (st := sLess) l9 c9 k9
  have b9 := F9.binds (ps := ["a", "b"]) fun _ _ _ _ _ _ us hl => match us, hl with | [_, _], _ => rfl
  have m9 := PySem.W.mg_of X G a9
  have F10 := fun_mk (st := sLaw) l10 c10 k10
  have m_z1 := PySem.W.mg_none_of X G z1
  have m_z2 := PySem.W.mg_none_of X G z2
  have m_z3 := PySem.W.mg_none_of X G z3
  have m_z4 := PySem.W.mg_none_of X G z4
  have m_z5 := PySem.W.mg_of X G z5
  exact ⟨PySem.W.fnOf "law" "law" (defArgs sLaw) (defBody sLaw) (defScope sLaw) .none kV10 dc10 pm10 an10 cd10 ct10, fun s v => .of_eq rfl, fun base _ _ => by
    have Nm := ok_number (P := l.prog) (w := w) (base := base) F0 m0 b0 m_z5 ⟨PySem.W.mg_of X G aCN, eCN, kCN, bCN, tCN⟩
    have Ce := ok_cell (P := l.prog) (w := w) (base := base) F6 m6 b6 m_z1
    exact ok_law F10 (ok_plus F1 m1 b1 Nm) (ok_minus F2 m2 b2 Nm) (ok_times F3 m3 b3 Nm) (ok_over F4 m4 b4 Nm) (ok_compare F5 m5 b5) (ok_draw F7 m7 b7 m_z1 m_z2 Ce) (ok_f F8 m8 b8 m_z4) (ok_less F9 m9 b9) m_z2 m_z1 m_z3 m_z4⟩
end K2
open PySem PySem.W PyProof.Rows
set_option maxRecDepth 100000 in
set_option maxHeartbeats 0 in
theorem PySem.Challenge.cw_surecues_k02_rules_of_reckoning_holds : PySem.Challenge.rw_surecues_k02_rules_of_reckoning.Holds := by
  w_on; o_law; k_head; (case hw => w_witness2)
  k_fill
  refine L2.walk_of (l := PySem.Challenge.rw_surecues_k02_rules_of_reckoning) (n := 63) (k := 4) (x := "script") (CX := fun _ => L2.CX0) (sp := fun w => DL.spD _ K2.Rlaw) rfl (by decide) rfl ⟨rfl, by decide, by decide⟩ (fun w h Y => PySem.W.kIn_of Y) ?F (fun _ H a ns hl _ hS => ⟨H, _, _, DL.Ex.refl H, .cons (.lst hS (DL.dpAll_ints ns)) .nil, ⟨ns, rfl, hl, rfl⟩, fun v S' H' _ q => by cases q; rfl⟩) (fun _ _ _ _ _ h => h)
  case F =>
    intro w mg fa h KX G hmg
    refine' K2.all_mk KX G hmg ?aCN ?eCN ?kCN ?bCN ?tCN ?iCN ?sCN ?a0 ?l0 ?c0 ?k0 ?a1 ?l1 ?c1 ?k1 ?a2 ?l2 ?c2 ?k2 ?a3 ?l3 ?c3 ?k3 ?a4 ?l4 ?c4 ?k4 ?a5 ?l5 ?c5 ?k5 ?a6 ?l6 ?c6 ?k6 ?a7 ?l7 ?c7 ?k7 ?a8 ?l8 ?c8 ?k8 ?a9 ?l9 ?c9 ?k9 ?a10 ?l10 ?c10 ?k10 ?z1 ?z2 ?z3 ?z4 ?z5
    (case aCN => k_is); (case eCN => k_exc); (case kCN => k_is); (case bCN => k_is); (case tCN => k_is); (case iCN => k_is); (case sCN => first | rfl | k_is); (case a0 => k_is); (case l0 => k_is); (case c0 => k_is); (case k0 => k_is); (case a1 => k_is); (case l1 => k_is); (case c1 => k_is); (case k1 => k_is); (case a2 => k_is); (case l2 => k_is); (case c2 => k_is); (case k2 => k_is); (case a3 => k_is); (case l3 => k_is); (case c3 => k_is); (case k3 => k_is); (case a4 => k_is); (case l4 => k_is); (case c4 => k_is); (case k4 => k_is); (case a5 => k_is); (case l5 => k_is); (case c5 => k_is); (case k5 => k_is); (case a6 => k_is); (case l6 => k_is); (case c6 => k_is); (case k6 => k_is); (case a7 => k_is); (case l7 => k_is); (case c7 => k_is); (case k7 => k_is); (case a8 => k_is); (case l8 => k_is); (case c8 => k_is); (case k8 => k_is); (case a9 => k_is); (case l9 => k_is); (case c9 => k_is); (case k9 => k_is); (case a10 => k_is); (case l10 => k_is); (case c10 => k_is); (case k10 => k_is); (case z1 => k_is); (case z2 => k_is); (case z3 => k_is); (case z4 => k_is); (case z5 => k_is)

