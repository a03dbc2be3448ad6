import PyProof.Rows.All
import Wide.All
import OpenK.AllK
import Wide.FinOn
import HandS.ForExc
import HandS.Comp
import HandS.Iter
import HandS.IsInst
import HandS.TupAny
import HandS.TupMul
import HandS.Conv
import HandS.Wide
import HandS.Flow
import HandS.AnyAll
import HandS.ExcIs
import HandS.Dict
import HandS.Style
import HandS.TryMany
import HandS.CallLocal
import HandS.GenList
import PyProof.ReprRoads
import PyProof.ReprLen
import HandS.EndTab
import HandS.EndOwn
import PySem.Challenge.RW_twinpurse_k02_standings_are_checked
section
set_option Elab.async false
set_option maxRecDepth 100000
set_option maxHeartbeats 3000000
set_option autoImplicit true
set_option linter.all false
set_option relaxedAutoImplicit true
namespace Tw
open PySem L2

/-! ## 1. Values as trees, a store of what can be changed, runs -/
/-- a value: tuples are trees; loc n is the n-th changeable thing of the store; frz is a list that nobody changes -/
inductive Vl where
  | non | bl (b : Bool) | int (i : Int) | str (s : Str)
  | tup (xs : List Vl) | loc (n : Nat) | frz (xs : List Vl)
  | fn (x : Str) | ty (n : String) | cls (x : Str)
/-- a changeable thing: a list, or a dict of which nothing is asked -/
inductive Ob where
  | lst (xs : List Vl) | dct
abbrev Store := List Ob
/-- how a piece of the program ends: a value, or an error of a class -/
inductive R (α : Type) where
  | ok (a : α) (S : Store)
  | er (c : Str) (S : Store)
/-- none: not told -/
abbrev M (α : Type) := Store → Option (R α)
def ret {α} (a : α) : M α := fun S => some (.ok a S)
def stuck {α} : M α := fun _ => none
def bnd {α β} (m : M α) (f : α → M β) : M β := fun S => match m S with
  | some (.ok a S1) => f a S1
  | some (.er c S1) => some (.er c S1)
  | none => none
abbrev Rho := List (Option Vl)

/-! ## 2. What they are in the machine -/
structure GG where
  K : PySem.W.Frag
  mg : Str → Option Value
  tabs : List Addr

/-- a list that nobody changes: it stands in the written part, or frozen -/
def SqC (K : PySem.W.Frag) (H : Hp) (a : Addr) (vs : List V) : Prop := (∃ o, H a = some (.frz o (.lst vs))) ∨ SqL K (fun _ => none) a vs
theorem SqC.sql {K : PySem.W.Frag} {H : Hp} {a : Addr} {vs : List V} (h : SqC K H a vs) : SqL K H a vs := by
  rcases h with ⟨o, h⟩ | h
  · exact .inl (.inr ⟨o, h⟩)
  · rcases h with (h | ⟨o, h⟩) | h
    · cases h
    · cases h
    · exact .inr h
mutual
inductive Rv (G : GG) (μ : List Addr) (H : Hp) : Vl → V → Prop
  | non : Rv G μ H .non .non
  | bl (b : Bool) : Rv G μ H (.bl b) (.bl b)
  | int (i : Int) : Rv G μ H (.int i) (.int i)
  | str (s : Str) : Rv G μ H (.str s) (.str s)
  | tup {xs : List Vl} {vs : List V} {a : Addr} (h : SqT G.K H a vs) (r : Rvs G μ H xs vs) : Rv G μ H (.tup xs) (.ref a)
  | loc {n : Nat} {a : Addr} (h : μ[n]? = some a) : Rv G μ H (.loc n) (.ref a)
  | frz {xs : List Vl} {vs : List V} {a : Addr} (h : SqC G.K H a vs) (r : Rvs G μ H xs vs) : Rv G μ H (.frz xs) (.ref a)
  | fn {x : Str} {f : Addr} (h : G.mg x = some (.ref f)) : Rv G μ H (.fn x) (.ref f)
  | ty (n : String) : Rv G μ H (.ty n) (.ty n)
  | cls {x : Str} {f : Addr} (h : G.mg x = some (.ref f)) : Rv G μ H (.cls x) (.ref f)
inductive Rvs (G : GG) (μ : List Addr) (H : Hp) : List Vl → List V → Prop
  | nil : Rvs G μ H [] []
  | cons {x : Vl} {v : V} {xs : List Vl} {vs : List V} (h : Rv G μ H x v) (t : Rvs G μ H xs vs) : Rvs G μ H (x :: xs) (v :: vs)
end

/-- later: more things, the old ones at their places; no tuple and no frozen thing is changed -/
structure Gr (μ : List Addr) (H : Hp) (μ' : List Addr) (H' : Hp) : Prop where
  pre : ∀ (n : Nat) (a : Addr), μ[n]? = some a → μ'[n]? = some a
  tup : ∀ (a : Addr) (vs : List V), H a = some (.tup vs) → H' a = some (.tup vs)
  frz : ∀ (a : Addr) (o : Obj) (u : HO), H a = some (.frz o u) → H' a = some (.frz o u)
theorem Gr.refl {μ H} : Gr μ H μ H := ⟨fun _ _ h => h, fun _ _ h => h, fun _ _ _ h => h⟩
theorem Gr.trans {μ H μ1 H1 μ2 H2} (a : Gr μ H μ1 H1) (b : Gr μ1 H1 μ2 H2) : Gr μ H μ2 H2 :=
  ⟨fun n x h => b.pre n x (a.pre n x h), fun x vs h => b.tup x vs (a.tup x vs h), fun x o u h => b.frz x o u (a.frz x o u h)⟩
theorem Gr.sqt {K : PySem.W.Frag} {μ H μ' H' a vs} (g : Gr μ H μ' H') (h : SqT K H a vs) : SqT K H' a vs := by
  rcases h with (h | ⟨o, h⟩) | h
  · exact .inl (.inl (g.tup _ _ h))
  · exact .inl (.inr ⟨o, g.frz _ _ _ h⟩)
  · exact .inr h
theorem SqC.up {K : PySem.W.Frag} {μ H μ' H' a vs} (h : SqC K H a vs) (g : Gr μ H μ' H') : SqC K H' a vs := by
  rcases h with ⟨o, h⟩ | h
  · exact .inl ⟨o, g.frz _ _ _ h⟩
  · exact .inr h
mutual
theorem Rv.up {G μ H μ' H'} (g : Gr μ H μ' H') : ∀ {x : Vl} {v : V}, Rv G μ H x v → Rv G μ' H' x v
  | _, _, .non => .non
  | _, _, .bl b => .bl b
  | _, _, .int i => .int i
  | _, _, .str s => .str s
  | _, _, .tup h r => .tup (g.sqt h) (Rvs.up g r)
  | _, _, .loc h => .loc (g.pre _ _ h)
  | _, _, .frz h r => .frz (h.up g) (Rvs.up g r)
  | _, _, .fn h => .fn h
  | _, _, .ty n => .ty n
  | _, _, .cls h => .cls h
theorem Rvs.up {G μ H μ' H'} (g : Gr μ H μ' H') : ∀ {xs : List Vl} {vs : List V}, Rvs G μ H xs vs → Rvs G μ' H' xs vs
  | _, _, .nil => .nil
  | _, _, .cons h t => .cons (Rv.up g h) (Rvs.up g t)
end
theorem Rvs.length {G μ H} : ∀ {xs : List Vl} {vs : List V}, Rvs G μ H xs vs → xs.length = vs.length
  | _, _, .nil => rfl
  | _, _, .cons _ t => by simp [Rvs.length t]
theorem Rvs.get {G μ H} : ∀ {xs : List Vl} {vs : List V} {i : Nat} {x : Vl}, Rvs G μ H xs vs → xs[i]? = some x → ∃ v, vs[i]? = some v ∧ Rv G μ H x v
  | _, _, _, _, .nil, e => by simp at e
  | _, _, 0, _, .cons h _, e => by simp at e; subst e; exact ⟨_, rfl, h⟩
  | _, _, i + 1, x, .cons _ t, e => by
    obtain ⟨v, h1, h2⟩ := Rvs.get (i := i) (x := x) t (by simpa using e)
    exact ⟨v, by simpa using h1, h2⟩
theorem Rvs.get' {G μ H} {xs : List Vl} {vs : List V} {i : Nat} {v : V} (r : Rvs G μ H xs vs) (e : vs[i]? = some v) : ∃ x, xs[i]? = some x ∧ Rv G μ H x v := by
  have hl := r.length
  have hi : i < xs.length := by rw [hl]; exact (List.getElem?_eq_some_iff.mp e).1
  obtain ⟨v', h1, h2⟩ := r.get (List.getElem?_eq_getElem hi)
  rw [e] at h1; cases h1
  exact ⟨_, List.getElem?_eq_getElem hi, h2⟩
theorem Rvs.app {G μ H} : ∀ {xs ys : List Vl} {vs ws : List V}, Rvs G μ H xs vs → Rvs G μ H ys ws → Rvs G μ H (xs ++ ys) (vs ++ ws)
  | _, _, _, _, .nil, s => s
  | _, _, _, _, .cons h t, s => .cons h (Rvs.app t s)
theorem Rvs.take {G μ H} : ∀ {xs : List Vl} {vs : List V} (n : Nat), Rvs G μ H xs vs → Rvs G μ H (xs.take n) (vs.take n)
  | _, _, 0, _ => .nil
  | _, _, _ + 1, .nil => .nil
  | _, _, n + 1, .cons h t => .cons h (Rvs.take n t)
theorem Rvs.drop {G μ H} : ∀ {xs : List Vl} {vs : List V} (n : Nat), Rvs G μ H xs vs → Rvs G μ H (xs.drop n) (vs.drop n)
  | _, _, 0, r => r
  | _, _, _ + 1, .nil => .nil
  | _, _, n + 1, .cons _ t => Rvs.drop n t
theorem Rvs.set {G μ H} {x : Vl} {v : V} (h : Rv G μ H x v) : ∀ {xs : List Vl} {vs : List V} (i : Nat), Rvs G μ H xs vs → Rvs G μ H (xs.set i x) (vs.set i v)
  | _, _, _, .nil => .nil
  | _, _, 0, .cons _ t => .cons h t
  | _, _, i + 1, .cons q t => .cons q (Rvs.set h i t)
theorem Rvs.rep {G μ H} {xs : List Vl} {vs : List V} (r : Rvs G μ H xs vs) : ∀ n : Nat, Rvs G μ H (List.replicate n xs).flatten (List.replicate n vs).flatten
  | 0 => .nil
  | n + 1 => by
    rw [List.replicate_succ, List.replicate_succ, List.flatten_cons, List.flatten_cons]
    exact r.app (Rvs.rep r n)

def ObR (G : GG) (μ : List Addr) (H : Hp) (a : Addr) : Ob → Prop
  | .lst xs => ∃ vs, H a = some (.lst vs) ∧ Rvs G μ H xs vs
  | .dct => H a = some (.dK [])
/-- the store is held -/
structure RS (G : GG) (μ : List Addr) (H : Hp) (S : Store) : Prop where
  len : μ.length = S.length
  nd : μ.Nodup
  ob : ∀ (n : Nat) (o : Ob), S[n]? = some o → ∃ a, μ[n]? = some a ∧ ObR G μ H a o
  tab : ∀ P ∈ G.tabs, GxR.TabG H P
/-- the slots are held -/
structure RR (G : GG) (μ : List Addr) (H : Hp) (ρ : Rho) (σ : St) : Prop where
  len : ρ.length = σ.length
  at_ : ∀ (i : Nat) (x : Vl), ρ[i]? = some (some x) → ∃ v, σ[i]? = some (some v) ∧ Rv G μ H x v
theorem RR.up {G μ H μ' H' ρ σ} (g : Gr μ H μ' H') (r : RR G μ H ρ σ) : RR G μ' H' ρ σ :=
  ⟨r.len, fun i x e => let ⟨v, h1, h2⟩ := r.at_ i x e; ⟨v, h1, h2.up g⟩⟩
theorem RR.set {G μ H ρ σ x v} (r : RR G μ H ρ σ) (h : Rv G μ H x v) (i : Nat) : RR G μ H (ρ.set i (some x)) (σ.set i (some v)) := by
  refine ⟨by simp [r.len], fun j y e => ?_⟩
  by_cases hj : i = j
  · subst hj
    have hi : i < ρ.length := by
      have := (List.getElem?_eq_some_iff.mp e).1
      simpa using this
    rw [List.getElem?_set_self hi] at e
    cases e
    exact ⟨v, List.getElem?_set_self (by rw [← r.len]; exact hi), h⟩
  · rw [List.getElem?_set_ne hj] at e
    obtain ⟨w, h1, h2⟩ := r.at_ j y e
    exact ⟨w, by rw [List.getElem?_set_ne hj]; exact h1, h2⟩
/-- what holds of the heap when new things are laid at p -/
theorem gr_laid {μ : List Addr} {H : Hp} {p : Addr} {o : HO} (hp : H p = none) : Gr μ H μ (upd H p o) :=
  ⟨fun _ _ h => h, fun a vs h => by rw [upd_ne (ne_of_none h hp)]; exact h, fun a ob u h => by rw [upd_ne (ne_of_none h hp)]; exact h⟩
theorem tab_ne {G μ H S a o} (r : RS G μ H S) (h : H a = some o) (hn : ∀ ps, o ≠ .tbl ps) : ∀ P ∈ G.tabs, P ≠ a := fun P hP z => by
  obtain ⟨ps, e, _⟩ := r.tab P hP
  rw [z, h] at e; cases e; exact hn ps rfl
theorem ObR.up {G μ H μ' H' a o} (g : Gr μ H μ' H') (e : H' a = H a) (h : ObR G μ H a o) : ObR G μ' H' a o := by
  cases o with
  | lst xs => obtain ⟨vs, h1, h2⟩ := h; exact ⟨vs, e.trans h1, h2.up g⟩
  | dct => exact e.trans h
theorem ObR.some {G μ H a o} (h : ObR G μ H a o) : ∃ u, H a = some u ∧ (∀ vs, u ≠ .tup vs) ∧ (∀ b v, u ≠ .frz b v) ∧ ∀ ps, u ≠ .tbl ps := by
  cases o with
  | lst xs => obtain ⟨vs, h1, _⟩ := h; exact ⟨_, h1, fun _ z => (nomatch z), fun _ _ z => (nomatch z), fun _ z => (nomatch z)⟩
  | dct => exact ⟨_, h, fun _ z => (nomatch z), fun _ _ z => (nomatch z), fun _ z => (nomatch z)⟩
/-- a new thing that is no part of the store (a tuple) -/
theorem RS.side {G μ H S p o} (r : RS G μ H S) (hp : H p = none) : RS G μ (upd H p o) S := by
  refine ⟨r.len, r.nd, fun n ob e => ?_, fun P hP => ?_⟩
  · obtain ⟨a, h1, h2⟩ := r.ob n ob e
    obtain ⟨u, hu, _⟩ := h2.some
    exact ⟨a, h1, h2.up (gr_laid hp) (upd_ne (ne_of_none hu hp))⟩
  · obtain ⟨ps, e, t⟩ := r.tab P hP
    exact ⟨ps, by rw [upd_ne (ne_of_none e hp)]; exact e, t⟩
/-- a new thing of the store -/
theorem RS.new {G μ H S p o ob} (r : RS G μ H S) (hp : H p = none) (h : ObR G (μ ++ [p]) (upd H p o) p ob) :
    RS G (μ ++ [p]) (upd H p o) (S ++ [ob]) ∧ Gr μ H (μ ++ [p]) (upd H p o) ∧ (μ ++ [p])[S.length]? = some p := by
  have g : Gr μ H (μ ++ [p]) (upd H p o) := ⟨fun n a e => by
    rw [List.getElem?_append_left (List.getElem?_eq_some_iff.mp e).1]; exact e, (gr_laid (μ := μ) hp).tup, (gr_laid (μ := μ) hp).frz⟩
  have hlast : (μ ++ [p])[S.length]? = some p := by rw [← r.len]; simp
  refine ⟨⟨by simp [r.len], ?_, fun n u e => ?_, fun P hP => ?_⟩, g, hlast⟩
  · rw [List.nodup_append]
    refine ⟨r.nd, by simp, fun a ha b hb z => ?_⟩
    simp at hb; subst hb; subst z
    obtain ⟨n, hn, e⟩ := List.getElem_of_mem ha
    have hn' : n < S.length := by rw [← r.len]; exact hn
    obtain ⟨a', h1, h2⟩ := r.ob n S[n] (List.getElem?_eq_getElem hn')
    obtain ⟨u, hu, _⟩ := h2.some
    rw [List.getElem?_eq_getElem hn, e] at h1
    cases h1
    rw [hp] at hu; cases hu
  · by_cases hn : n < S.length
    · rw [List.getElem?_append_left hn] at e
      obtain ⟨a, h1, h2⟩ := r.ob n u e
      obtain ⟨w, hw, _⟩ := h2.some
      exact ⟨a, g.pre _ _ h1, h2.up g (upd_ne (ne_of_none hw hp))⟩
    · have hl : n = S.length := by
        have := (List.getElem?_eq_some_iff.mp e).1
        simp at this; omega
      subst hl
      simp at e; subst e
      exact ⟨p, hlast, h⟩
  · obtain ⟨ps, e, t⟩ := r.tab P hP
    exact ⟨ps, by rw [upd_ne (ne_of_none e hp)]; exact e, t⟩
/-- a list of the store is changed -/
theorem RS.put {G μ H S n a xs ys vs ws} (r : RS G μ H S) (e : S[n]? = some (.lst xs)) (ha : μ[n]? = some a) (h : H a = some (.lst vs)) (hy : Rvs G μ H ys ws) :
    RS G μ (upd H a (.lst ws)) (S.set n (.lst ys)) ∧ Gr μ H μ (upd H a (.lst ws)) := by
  have hne : ∀ b u, H b = some u → (∀ l, u ≠ .lst l) → b ≠ a := fun b u q z1 z2 => by subst z2; rw [h] at q; cases q; exact z1 _ rfl
  have g : Gr μ H μ (upd H a (.lst ws)) := ⟨fun _ _ q => q, fun b l q => by rw [upd_ne (hne b _ q fun _ z => nomatch z)]; exact q, fun b o u q => by rw [upd_ne (hne b _ q fun _ z => nomatch z)]; exact q⟩
  refine ⟨⟨by simp [r.len], r.nd, fun m o q => ?_, fun P hP => ?_⟩, g⟩
  · by_cases hm : n = m
    · subst hm
      have hn : n < S.length := (List.getElem?_eq_some_iff.mp e).1
      rw [List.getElem?_set_self hn] at q
      cases q
      exact ⟨a, ha, ws, upd_same, hy.up g⟩
    · rw [List.getElem?_set_ne hm] at q
      obtain ⟨b, h1, h2⟩ := r.ob m o q
      refine ⟨b, h1, h2.up g (upd_ne fun z => hm ?_)⟩
      subst z
      obtain ⟨i1, j1⟩ := List.getElem?_eq_some_iff.mp ha
      obtain ⟨i2, j2⟩ := List.getElem?_eq_some_iff.mp h1
      exact (List.getElem_inj r.nd).mp (j1.trans j2.symm)
  · obtain ⟨ps, q, t⟩ := r.tab P hP
    exact ⟨ps, by rw [upd_ne (hne P _ q fun _ z => nomatch z)]; exact q, t⟩

/-! ## 3. A run held against a reading -/
/-- EQ: what is wanted of an error of the class c -/
def Run {α β : Type} (G : GG) (Rel : List Addr → Hp → α → β → Prop) (m : M α) (μ : List Addr) (H : Hp) (S : Store) (Q : β → Hp → Prop) (EQ : Str → List Addr → Hp → Store → Prop) : Prop :=
  ∃ r, m S = some r ∧ match r with
    | .ok a S' => ∀ μ' H' v, Gr μ H μ' H' → Rel μ' H' a v → RS G μ' H' S' → Q v H'
    | .er c S' => ∀ μ' H', Gr μ H μ' H' → RS G μ' H' S' → EQ c μ' H' S'
/-- errors wished of by W: the class stands in the module -/
def EW (G : GG) (W : WX) (σ : St) : Str → List Addr → Hp → Store → Prop := fun c _ H _ => ∃ C, G.mg c = some (.ref C) ∧ W (.ref C) none σ H
/-- an expression's reading: it is the run f -/
def T (G : GG) (W : WX) (f : Rho → M Vl) : TE := fun σ H Q => ∃ μ ρ S, RS G μ H S ∧ RR G μ H ρ σ ∧ Run G (Rv G) (f ρ) μ H S Q (EW G W σ)
def TTs (G : GG) (W : WX) (f : Rho → M Bool) : TT := fun σ H Q => ∃ μ ρ S, RS G μ H S ∧ RR G μ H ρ σ ∧ Run G (fun _ _ a b => a = b) (f ρ) μ H S Q (EW G W σ)
def TAs (G : GG) (W : WX) (f : Rho → M (List Vl)) : TA := fun σ H Q => ∃ μ ρ S, RS G μ H S ∧ RR G μ H ρ σ ∧ Run G (Rvs G) (f ρ) μ H S Q (EW G W σ)

/-- a run, then another one -/
theorem Run.bnd {α β γ δ : Type} {G : GG} {Rel : List Addr → Hp → α → β → Prop} {Rel2 : List Addr → Hp → γ → δ → Prop} {m : M α} {k : α → M γ} {μ : List Addr} {H : Hp} {S : Store} {Q : δ → Hp → Prop}
    {EQ : Str → List Addr → Hp → Store → Prop} (h : Run G Rel2 (bnd m k) μ H S Q EQ) (hE : ∀ c μ1 H1 S1, EQ c μ1 H1 S1 → EQ c μ1 H1 S1 := by intro _ _ _ _ h; exact h) :
    Run G Rel m μ H S (fun v H1 => ∃ μ1 a S1, Gr μ H μ1 H1 ∧ Rel μ1 H1 a v ∧ RS G μ1 H1 S1 ∧ Run G Rel2 (k a) μ1 H1 S1 Q EQ) EQ := by
  obtain ⟨r, e, h⟩ := h
  unfold Tw.bnd at e
  cases q : m S with
  | none => rw [q] at e; cases e
  | some r1 =>
    rw [q] at e
    cases r1 with
    | ok a S1 =>
      refine ⟨_, q, fun μ1 H1 v g rel rs => ⟨μ1, a, S1, g, rel, rs, r, e, ?_⟩⟩
      cases r with
      | ok b S2 => exact fun μ2 H2 w g2 rel2 rs2 => h μ2 H2 w (g.trans g2) rel2 rs2
      | er c S2 => exact fun μ2 H2 g2 rs2 => h μ2 H2 (g.trans g2) rs2
    | er c S1 =>
      cases e
      exact ⟨_, q, h⟩
theorem Run.imp {α β : Type} {G : GG} {Rel : List Addr → Hp → α → β → Prop} {m : M α} {μ : List Addr} {H : Hp} {S : Store} {Q Q' : β → Hp → Prop} {EQ EQ' : Str → List Addr → Hp → Store → Prop}
    (h : Run G Rel m μ H S Q EQ) (hq : ∀ v H1, Q v H1 → Q' v H1) (he : ∀ c μ1 H1 S1, EQ c μ1 H1 S1 → EQ' c μ1 H1 S1) : Run G Rel m μ H S Q' EQ' := by
  obtain ⟨r, e, h⟩ := h
  refine ⟨r, e, ?_⟩
  cases r with
  | ok a S1 => exact fun μ1 H1 v g rel rs => hq _ _ (h μ1 H1 v g rel rs)
  | er c S1 => exact fun μ1 H1 g rs => he _ _ _ _ (h μ1 H1 g rs)
/-- what has come is told -/
theorem Run.ret {α β : Type} {G : GG} {Rel : List Addr → Hp → α → β → Prop} {a : α} {μ : List Addr} {H : Hp} {S : Store} {Q : β → Hp → Prop} {EQ : Str → List Addr → Hp → Store → Prop} {v : β}
    (h : Run G Rel (Tw.ret a) μ H S Q EQ) (rel : Rel μ H a v) (rs : RS G μ H S) : Q v H := by
  obtain ⟨r, e, h⟩ := h
  cases e
  exact h μ H v .refl rel rs

/-- a reading may ask more -/
theorem PE.imp {X : Cx} {e : Expr} {t t' : TE} (h : PE X e t) (i : ∀ σ H Q, t' σ H Q → t σ H Q) : PE X e t' := ⟨fun pins s σ H Q I q => h.run pins s σ H Q I (i _ _ _ q)⟩
theorem PT.imp {X : Cx} {e : Expr} {t t' : TT} (h : PT X e t) (i : ∀ σ H Q, t' σ H Q → t σ H Q) : PT X e t' := ⟨fun pins s σ H Q I q => h.run pins s σ H Q I (i _ _ _ q)⟩
theorem PW.imp {X : Cx} {e : Expr} {t t' : TT} (h : PW X e t) (i : ∀ σ H Q, t' σ H Q → t σ H Q) : PW X e t' := ⟨fun w pins s σ H Q I q => h.run w pins s σ H Q I (i _ _ _ q)⟩
theorem PA.imp {X : Cx} {e : List Expr} {t t' : TA} (h : PA X e t) (i : ∀ σ H Q, t' σ H Q → t σ H Q) : PA X e t' := ⟨fun p pins s σ H Q I q => h.run p pins s σ H Q I (i _ _ _ q)⟩
theorem PS.imp {X : Cx} {e : Stmt} {t t' : TS} (h : PS X e t) (i : ∀ D σ H, t' D σ H → t D σ H) : PS X e t' := ⟨fun pins s σ H D I q => h.run pins s σ H D I (i _ _ _ q)⟩
theorem PSs.imp {X : Cx} {e : List Stmt} {t t' : TS} (h : PSs X e t) (i : ∀ D σ H, t' D σ H → t D σ H) : PSs X e t' := ⟨fun pins s σ H D I q => h.run pins s σ H D I (i _ _ _ q)⟩
end Tw
end

section
set_option Elab.async false
set_option maxRecDepth 100000
set_option maxHeartbeats 3000000
set_option autoImplicit true
set_option linter.all false
set_option relaxedAutoImplicit true
namespace Tw
open PySem L2

/-! ## 4. Expressions: the runs -/
abbrev Ev := Rho → M Vl
def line : Nat := 16777216
theorem line_eq : line = sizeLine := by rw [sizeLine_eq]; rfl
def eVar (i : Nat) : Ev := fun ρ => match ρ[i]? with
  | some (some x) => ret x
  | _ => stuck
def eC (v : Vl) : Ev := fun _ => ret v
def eOp (g : Vl → Vl → M Vl) (a b : Ev) : Ev := fun ρ => bnd (a ρ) fun x => bnd (b ρ) fun y => g x y
def eUn (g : Vl → M Vl) (a : Ev) : Ev := fun ρ => bnd (a ρ) g
def asB (x : Vl) : M Bool := match x with
  | .bl b => ret b
  | _ => stuck
abbrev Tv := Rho → M Bool
def tVal (a : Ev) : Tv := fun ρ => bnd (a ρ) asB
def tAnd (a b : Tv) : Tv := fun ρ => bnd (a ρ) fun c => if c = true then b ρ else ret false
def tOr (a b : Tv) : Tv := fun ρ => bnd (a ρ) fun c => if c = true then ret true else b ρ
def tNot (a : Tv) : Tv := fun ρ => bnd (a ρ) fun c => ret (!c)
def eAnd (a b : Ev) : Ev := fun ρ => bnd (a ρ) fun x => bnd (asB x) fun c => if c = true then b ρ else ret (.bl false)
def eOr (a b : Ev) : Ev := fun ρ => bnd (a ρ) fun x => bnd (asB x) fun c => if c = true then ret (.bl true) else b ρ
def eNot (a : Ev) : Ev := fun ρ => bnd (a ρ) fun x => bnd (asB x) fun c => ret (.bl (!c))
def eIf (t : Tv) (a b : Ev) : Ev := fun ρ => bnd (t ρ) fun c => if c = true then a ρ else b ρ
def eChain (f g : Vl → Vl → M Vl) (a b c : Ev) : Ev := fun ρ => bnd (a ρ) fun x => bnd (b ρ) fun y => bnd (f x y) fun z => bnd (asB z) fun k => if k = true then bnd (c ρ) fun w => g y w else ret (.bl false)
abbrev Evs := Rho → M (List Vl)
def aNil : Evs := fun _ => ret []
def aCons (a : Ev) (r : Evs) : Evs := fun ρ => bnd (a ρ) fun x => bnd (r ρ) fun xs => ret (x :: xs)
def eTup (r : Evs) : Ev := fun ρ => bnd (r ρ) fun xs => if xs.length ≤ line then ret (.tup xs) else stuck
def newL (xs : List Vl) : M Vl := fun S => if xs.length ≤ line then some (.ok (.loc S.length) (S ++ [.lst xs])) else none
def eLst (r : Evs) : Ev := fun ρ => bnd (r ρ) newL
def eDct : Ev := fun _ S => some (.ok (.loc S.length) (S ++ [.dct]))
def eCall (f : List Vl → M Vl) (r : Evs) : Ev := fun ρ => bnd (r ρ) f

/-! ### operators -/
/-- the items of a list or a tuple -/
def getL (x : Vl) : M (List Vl) := fun S => match x with
  | .frz xs => some (.ok xs S)
  | .loc n => match S[n]? with
    | some (.lst xs) => some (.ok xs S)
    | _ => none
  | _ => none
def oAdd : Vl → Vl → M Vl
  | .int i, .int j => ret (.int (i + j))
  | .tup a, .tup b => if a.length + b.length ≤ line then ret (.tup (a ++ b)) else stuck
  | .loc m, .loc n => fun S => match S[m]?, S[n]? with
    | some (.lst a), some (.lst b) => if a.length + b.length ≤ line then newL (a ++ b) S else none
    | _, _ => none
  | _, _ => stuck
def oSub : Vl → Vl → M Vl
  | .int i, .int j => ret (.int (i - j))
  | _, _ => stuck
def oMul : Vl → Vl → M Vl
  | .int i, .int j => if i.natAbs.log2 + j.natAbs.log2 < 1000000 then ret (.int (i * j)) else stuck
  | .tup a, .int k => if a ≠ [] ∧ 2 ≤ k ∧ k ≤ 1000 ∧ a.length ≤ 1000 then ret (.tup (List.replicate k.toNat a).flatten) else stuck
  | .loc m, .int k => fun S => match S[m]? with
    | some (.lst a) => if -(2 ^ 63) ≤ k ∧ k < 2 ^ 63 ∧ a.length * k.toNat ≤ line then newL (List.replicate k.toNat a).flatten S else none
    | _ => none
  | _, _ => stuck
def oDiv : Vl → Vl → M Vl
  | .int i, .int j => if j ≠ 0 ∧ j.natAbs.log2 < 9000 then ret (.int (i.fdiv j)) else stuck
  | _, _ => stuck
def oMod : Vl → Vl → M Vl
  | .int i, .int j => if j ≠ 0 then ret (.int (i.fmod j)) else stuck
  | _, _ => stuck
def oPow : Vl → Vl → M Vl
  | .int i, .int j => if 0 ≤ j ∧ j ≤ 1000000 ∧ i.natAbs < 2 ^ 64 then ret (.int (i ^ j.toNat)) else stuck
  | _, _ => stuck
def oNeg : Vl → M Vl
  | .int i => ret (.int (-i))
  | _ => stuck
def oCmp (p : Int → Int → Bool) : Vl → Vl → M Vl
  | .int i, .int j => ret (.bl (p i j))
  | _, _ => stuck
abbrev oLt := oCmp fun i j => decide (i < j)
abbrev oLe := oCmp fun i j => decide (i ≤ j)
abbrev oGt := oCmp fun i j => decide (j < i)
abbrev oGe := oCmp fun i j => decide (j ≤ i)
/-! data without changeable things -/
mutual
def pd0 : Vl → Option PyData
  | .non => some .none
  | .bl b => some (.bool b)
  | .int i => some (.int i)
  | .str s => some (.str s)
  | .tup xs => match pds0 xs with
    | some ds => some (.tuple ds)
    | none => none
  | .frz xs => match pds0 xs with
    | some ds => some (.list ds)
    | none => none
  | _ => none
def pds0 : List Vl → Option (List PyData)
  | [] => some []
  | x :: xs => match pd0 x, pds0 xs with
    | some d, some ds => some (d :: ds)
    | _, _ => none
end
def pd (S : Store) : Vl → Option PyData
  | .loc n => match S[n]? with
    | some (.lst xs) => match pds0 xs with
      | some ds => some (.list ds)
      | none => none
    | _ => none
  | x => pd0 x
def eqD (x y : Vl) : M Bool := fun S => match pd S x, pd S y with
  | some d, some e => if SeqAt.shaped d = true ∧ SeqAt.shaped e = true then some (.ok (PyData.eqv d e) S) else none
  | _, _ => none
def oEq : Vl → Vl → M Vl
  | .int i, .int j => ret (.bl (decide (i = j)))
  | .str a, .str b => ret (.bl (decide (a = b)))
  | x, y => bnd (eqD x y) fun b => ret (.bl b)
def oNe : Vl → Vl → M Vl
  | .int i, .int j => ret (.bl (!decide (i = j)))
  | .str a, .str b => ret (.bl (!decide (a = b)))
  | x, y => bnd (eqD x y) fun b => ret (.bl (!b))
/-- is, is not: of None and of truth values -/
def oIsN (x : Vl) : M Vl := ret (.bl (match x with | .non => true | _ => false))
def oNotN (x : Vl) : M Vl := ret (.bl (match x with | .non => false | _ => true))
def oIsB : Vl → Vl → M Vl
  | .bl a, .bl b => ret (.bl (decide (a = b)))
  | _, _ => stuck
def oNotB : Vl → Vl → M Vl
  | .bl a, .bl b => ret (.bl (!decide (a = b)))
  | _, _ => stuck
/-- x[i] -/
def oIx (x y : Vl) : M Vl := match x, y with
  | .tup xs, .int i => match atI xs i with
    | some v => ret v
    | none => stuck
  | x, .int i => bnd (getL x) fun xs => match atI xs i with
    | some v => ret v
    | none => stuck
  | _, _ => stuck
def cut (xs : List Vl) (lo hi : Option Int) : List Vl := (xs.drop (HT.sIx xs.length 0 lo)).take (HT.sIx xs.length xs.length hi - HT.sIx xs.length 0 lo)
def oSl (x : Vl) (lo hi : Option Int) : M Vl := match x with
  | .tup xs => ret (.tup (cut xs lo hi))
  | x => bnd (getL x) fun xs => newL (cut xs lo hi)
abbrev Evo := Rho → M (Option Int)
def pNone : Evo := fun _ => ret none
def asI (x : Vl) : M (Option Int) := match x with
  | .int i => ret (some i)
  | _ => stuck
def pSome (a : Ev) : Evo := fun ρ => bnd (a ρ) asI
def eSl (a : Ev) (lo hi : Evo) : Ev := fun ρ => bnd (a ρ) fun x => bnd (lo ρ) fun l => bnd (hi ρ) fun h => oSl x l h

/-! ## 5. Their rules -/
/-- an operation on values is the run g -/
def OpM (G : GG) (r : R2) (g : Vl → Vl → M Vl) : Prop := ∀ (μ : List Addr) (H : Hp) (S : Store) (x y : Vl) (v w : V) (Q : VK) (EQ : Str → List Addr → Hp → Store → Prop),
  RS G μ H S → Rv G μ H x v → Rv G μ H y w → Run G (Rv G) (g x y) μ H S Q EQ → r v w H Q
def UnM (G : GG) (r : V → Hp → VK → Prop) (g : Vl → M Vl) : Prop := ∀ (μ : List Addr) (H : Hp) (S : Store) (x : Vl) (v : V) (Q : VK) (EQ : Str → List Addr → Hp → Store → Prop),
  RS G μ H S → Rv G μ H x v → Run G (Rv G) (g x) μ H S Q EQ → r v H Q
def AsM (G : GG) (r : List V → Hp → VK → Prop) (g : List Vl → M Vl) : Prop := ∀ (μ : List Addr) (H : Hp) (S : Store) (x : List Vl) (v : List V) (Q : VK) (EQ : Str → List Addr → Hp → Store → Prop),
  RS G μ H S → Rvs G μ H x v → Run G (Rv G) (g x) μ H S Q EQ → r v H Q
theorem Run.no {α β : Type} {G : GG} {Rel : List Addr → Hp → α → β → Prop} {m : M α} {μ : List Addr} {H : Hp} {S : Store} {Q : β → Hp → Prop} {EQ : Str → List Addr → Hp → Store → Prop} {P : Prop}
    (h : Run G Rel m μ H S Q EQ) (e : m S = none) : P := by
  obtain ⟨r, q, _⟩ := h
  rw [e] at q; cases q
/-- the run ends in S1 -/
theorem Run.end_ {α β : Type} {G : GG} {Rel : List Addr → Hp → α → β → Prop} {m : M α} {μ : List Addr} {H : Hp} {S : Store} {Q : β → Hp → Prop} {EQ : Str → List Addr → Hp → Store → Prop} {a : α} {S1 : Store}
    (h : Run G Rel m μ H S Q EQ) (e : m S = some (.ok a S1)) : ∀ μ' H' v, Gr μ H μ' H' → Rel μ' H' a v → RS G μ' H' S1 → Q v H' := by
  obtain ⟨r, q, h⟩ := h
  rw [e] at q; cases q
  exact h
section
variable {G : GG} {W : WX} {X : Cx} {a b c : Expr} {fa fb fc : Ev} {pos : Pos} {σ : St} {H : Hp} {Q : VK}
/-- a reading, and what comes behind it -/
theorem T_bnd {γ δ : Type} {Rel : List Addr → Hp → γ → δ → Prop} {k : Vl → M γ} {Q : δ → Hp → Prop} {μ : List Addr} {ρ : Rho} {S : Store} {P : V → Hp → Prop} (rs : RS G μ H S) (rr : RR G μ H ρ σ) (run : Run G Rel (bnd (fa ρ) k) μ H S Q (EW G W σ))
    (h : ∀ v H1 μ1 x S1, Gr μ H μ1 H1 → Rv G μ1 H1 x v → RS G μ1 H1 S1 → RR G μ1 H1 ρ σ → Run G Rel (k x) μ1 H1 S1 Q (EW G W σ) → P v H1) : T G W fa σ H P :=
  ⟨μ, ρ, S, rs, rr, run.bnd.imp (fun v H1 ⟨μ1, x, S1, g, rx, rs1, r1⟩ => h v H1 μ1 x S1 g rx rs1 (rr.up g) r1) fun _ _ _ _ z => z⟩
theorem xe_op0 {e : Expr} {r : R2} {g : Vl → Vl → M Vl} (h : PE X e (tOp r (T G W fa) (T G W fb))) (hg : OpM G r g) : PE X e (T G W (eOp g fa fb)) := by
  refine PE.imp h ?_
  rintro σ H Q ⟨μ, ρ, S, rs, rr, run⟩
  refine T_bnd rs rr run fun v H1 μ1 x S1 g1 rx rs1 rr1 run1 => ?_
  exact T_bnd rs1 rr1 run1 fun w H2 μ2 y S2 g2 ry rs2 rr2 run2 => hg μ2 H2 S2 x y v w Q _ rs2 (rx.up g2) ry run2
theorem xe_op {op : Operator} {r : R2} {g : Vl → Vl → M Vl} (hg : OpM G r g) (ho : OpR X (binaryOp op) r) (ha : PE X a (T G W fa)) (hb : PE X b (T G W fb)) : PE X (.BinOp a op b pos) (T G W (eOp g fa fb)) := xe_op0 (pe_op ho ha hb) hg
theorem xe_cmp {op : CmpOp} {r : R2} {g : Vl → Vl → M Vl} (hg : OpM G r g) (ho : OpR X (compareOp op) r) (ha : PE X a (T G W fa)) (hb : PE X b (T G W fb)) (hm : behindInMarks op b = false) :
    PE X (.Compare a [op] [b] pos) (T G W (eOp g fa fb)) := xe_op0 (pe_cmpR ho ha hb hm) hg
theorem xe_un {op : UnaryOp} {r : V → Hp → VK → Prop} {g : Vl → M Vl} (hg : UnM G r g) (ho : UnR X (unaryOp op) r) (ha : PE X a (T G W fa)) : PE X (.UnaryOp op a pos) (T G W (eUn g fa)) := by
  refine PE.imp (pe_un ho ha) ?_
  rintro σ H Q ⟨μ, ρ, S, rs, rr, run⟩
  exact T_bnd rs rr run fun v H1 μ1 x S1 g1 rx rs1 rr1 run1 => hg μ1 H1 S1 x v Q _ rs1 rx run1
/-- names, constants -/
theorem xe_var (i : Nat) {x : Str} (hN : X.N[i]? = some x := by rfl) (hv : Vis X.env.scope x := by first | exact Or.inl rfl | exact Or.inr (Or.inl rfl) | exact Or.inr (Or.inr rfl)) (hd : (x == ("__debug__" : Str)) = false := by decide)
    (hcd : (x == ("__classdict__" : Str)) = false := by decide) : PE X (.Name x pos) (T G W (eVar i)) := by
  refine PE.imp (pv i hN hv hd hcd) ?_
  rintro σ H Q ⟨μ, ρ, S, rs, rr, run⟩
  unfold eVar at run
  split at run
  · rename_i x e
    obtain ⟨v, h1, h2⟩ := rr.at_ i x e
    exact ⟨v, h1, run.ret h2 rs⟩
  · exact run.no rfl
theorem xe_c {e : Expr} {v : V} {x : Vl} (h : PE X e (tC v)) (r : ∀ μ H, Rv G μ H x v) : PE X e (T G W (eC x)) := by
  refine PE.imp h ?_
  rintro σ H Q ⟨μ, ρ, S, rs, rr, run⟩
  exact run.ret (r μ H) rs
theorem xe_int {i : Int} {j : Nat} : PE X (.Constant (.int i) j pos) (T G W (eC (.int i))) := xe_c pe_int fun _ _ => .int i
theorem xe_bl {i : Bool} {j : Nat} : PE X (.Constant (.bool i) j pos) (T G W (eC (.bl i))) := xe_c pe_bl fun _ _ => .bl i
theorem xe_non {j : Nat} : PE X (.Constant .none j pos) (T G W (eC .non)) := xe_c pe_non fun _ _ => .non
theorem xe_str {i : Str} {j : Nat} : PE X (.Constant (.str i) j pos) (T G W (eC (.str i))) := xe_c pe_str fun _ _ => .str i
/-- a def, a class of the text as a value; a constant of a module -/
theorem xe_fn {x : Str} {f : Addr} (hK : G.mg = X.mg) (hm : X.mg x = some (.ref f)) (hg : Gl X x := by rfl) (hd : (x == ("__debug__" : Str)) = false := by decide) : PE X (.Name x pos) (T G W (eC (.fn x))) :=
  xe_c (v := .ref f) (pe_glob hg hm rfl hd) fun _ _ => .fn (by rw [hK]; exact hm)
theorem xe_cls {x : Str} {f : Addr} (hK : G.mg = X.mg) (hm : X.mg x = some (.ref f)) (hg : Gl X x := by rfl) (hd : (x == ("__debug__" : Str)) = false := by decide) : PE X (.Name x pos) (T G W (eC (.cls x))) :=
  xe_c (v := .ref f) (pe_glob hg hm rfl hd) fun _ _ => .cls (by rw [hK]; exact hm)
theorem xe_gint {x : Str} {i : Int} {t : Tok} (hm : X.mg x = some (.int i t)) (hg : Gl X x := by rfl) (hd : (x == ("__debug__" : Str)) = false := by decide) : PE X (.Name x pos) (T G W (eC (.int i))) :=
  xe_c (v := .int i) (pe_glob hg hm ⟨t, rfl⟩ hd) fun _ _ => .int i
theorem xe_ty {x : Str} {n : String} (hm : X.mg x = none) (hv : bootBuiltins x = some (.type n)) (hg : Gl X x := by rfl) (hn : x ≠ "__name__" := by decide) (hd : (x == ("__debug__" : Str)) = false := by decide) : PE X (.Name x pos) (T G W (eC (.ty n))) :=
  xe_c (v := .ty n) (pe_bltn hg hm hv rfl hn hd) fun _ _ => .ty n
/-- tests -/
theorem xt_val (ha : PE X a (T G W fa)) (he : ∀ whole, isTrue a X.env whole = (do let v ← whole; standAt a.pos; holding [v] (truthy v)) := by intro _; rfl) : PT X a (TTs G W (tVal fa)) := by
  refine PT.imp (pt_val ha he) ?_
  rintro σ H Q ⟨μ, ρ, S, rs, rr, run⟩
  refine T_bnd rs rr run fun v H1 μ1 x S1 g1 rx rs1 rr1 run1 => ?_
  cases rx with
  | bl c => exact ⟨c, rfl, run1.ret rfl rs1⟩
  | _ => exact run1.no rfl
theorem xt_cmp {op : CmpOp} {r : R2} {g : Vl → Vl → M Vl} (hg : OpM G r g) (ho : OpR X (compareOp op) r) (ha : PE X a (T G W fa)) (hb : PE X b (T G W fb)) (hm : behindInMarks op b = false) :
    PT X (.Compare a [op] [b] pos) (TTs G W (tVal (eOp g fa fb))) := by
  refine PT.imp (pt_cmpR ho ha hb hm) ?_
  rintro σ H Q ⟨μ, ρ, S, rs, rr, run⟩
  have run' : Run G (fun _ _ a b => a = b) (bnd (fa ρ) fun x => bnd (bnd (fb ρ) fun y => g x y) asB) μ H S Q (EW G W σ) := by
    obtain ⟨r, e, h⟩ := run
    refine ⟨r, ?_, h⟩
    rw [← e]
    unfold tVal eOp bnd
    dsimp only
    cases fa ρ S with
    | none => rfl
    | some q => cases q <;> rfl
  refine T_bnd rs rr run' fun v H1 μ1 x S1 g1 rx rs1 rr1 run1 => ?_
  have run2' : Run G (fun _ _ a b => a = b) (bnd (fb ρ) fun y => bnd (g x y) asB) μ1 H1 S1 Q (EW G W σ) := by
    obtain ⟨r, e, h⟩ := run1
    refine ⟨r, ?_, h⟩
    rw [← e]
    unfold bnd
    dsimp only
    cases fb ρ S1 with
    | none => rfl
    | some q => cases q <;> rfl
  refine T_bnd rs1 rr1 run2' fun w H2 μ2 y S2 g2 ry rs2 rr2 run2 => ?_
  refine hg μ2 H2 S2 x y v w _ (EW G W σ) rs2 (rx.up g2) ry (run2.bnd.imp (fun u H3 ⟨μ3, z, S3, g3, rz, rs3, run3⟩ => ?_) fun _ _ _ _ z => z)
  cases rz with
  | bl c => exact ⟨c, rfl, run3.ret rfl rs3⟩
  | _ => exact run3.no rfl
variable {ta tb : Tv} {rest : List Expr}
theorem TT_bnd {γ δ : Type} {Rel : List Addr → Hp → γ → δ → Prop} {k : Bool → M γ} {Q : δ → Hp → Prop} {μ : List Addr} {ρ : Rho} {S : Store} {P : Bool → Hp → Prop} (rs : RS G μ H S) (rr : RR G μ H ρ σ) (run : Run G Rel (bnd (ta ρ) k) μ H S Q (EW G W σ))
    (h : ∀ c H1 μ1 S1, Gr μ H μ1 H1 → RS G μ1 H1 S1 → RR G μ1 H1 ρ σ → Run G Rel (k c) μ1 H1 S1 Q (EW G W σ) → P c H1) : TTs G W ta σ H P :=
  ⟨μ, ρ, S, rs, rr, run.bnd.imp (fun v H1 ⟨μ1, x, S1, g, rx, rs1, r1⟩ => h v H1 μ1 S1 g rs1 (rr.up g) (rx ▸ r1)) fun _ _ _ _ z => z⟩
theorem xw_and1 (ha : PT X a (TTs G W ta)) : PW X (.BoolOp .And [a] pos) (TTs G W ta) := pw_and1 ha
theorem xw_or1 (ha : PT X a (TTs G W ta)) : PW X (.BoolOp .Or [a] pos) (TTs G W ta) := pw_or1 ha
theorem xw_and (ha : PT X a (TTs G W ta)) (hb : PW X (.BoolOp .And (b :: rest) pos) (TTs G W tb)) : PW X (.BoolOp .And (a :: b :: rest) pos) (TTs G W (tAnd ta tb)) := by
  refine PW.imp (pw_and ha hb) ?_
  rintro σ H Q ⟨μ, ρ, S, rs, rr, run⟩
  refine TT_bnd rs rr run fun c H1 μ1 S1 g1 rs1 rr1 run1 => ?_
  cases c with
  | true => exact iteT ⟨μ1, ρ, S1, rs1, rr1, run1⟩
  | false => exact iteF (run1.ret rfl rs1)
theorem xw_or (ha : PT X a (TTs G W ta)) (hb : PW X (.BoolOp .Or (b :: rest) pos) (TTs G W tb)) : PW X (.BoolOp .Or (a :: b :: rest) pos) (TTs G W (tOr ta tb)) := by
  refine PW.imp (pw_or ha hb) ?_
  rintro σ H Q ⟨μ, ρ, S, rs, rr, run⟩
  refine TT_bnd rs rr run fun c H1 μ1 S1 g1 rs1 rr1 run1 => ?_
  cases c with
  | true => exact iteT (run1.ret rfl rs1)
  | false => exact iteF ⟨μ1, ρ, S1, rs1, rr1, run1⟩
theorem xt_not (ha : PT X a (TTs G W ta)) : PT X (.UnaryOp .Not a pos) (TTs G W (tNot ta)) := by
  refine PT.imp (pt_not ha) ?_
  rintro σ H Q ⟨μ, ρ, S, rs, rr, run⟩
  exact TT_bnd rs rr run fun c H1 μ1 S1 g1 rs1 rr1 run1 => run1.ret rfl rs1
theorem xe_one {op : BoolOp} (h : PE X a (T G W fa)) : PE X (.BoolOp op [a] pos) (T G W fa) := pe_one h
theorem xe_and (ha : PE X a (T G W fa)) (hb : PE X (.BoolOp .And (b :: rest) pos) (T G W fb)) : PE X (.BoolOp .And (a :: b :: rest) pos) (T G W (eAnd fa fb)) := by
  refine PE.imp (pe_and ha hb) ?_
  rintro σ H Q ⟨μ, ρ, S, rs, rr, run⟩
  refine T_bnd rs rr run fun v H1 μ1 x S1 g1 rx rs1 rr1 run1 => ?_
  cases rx with
  | bl c =>
    refine ⟨c, rfl, ?_⟩
    cases c with
    | true => exact iteT ⟨μ1, ρ, S1, rs1, rr1, run1⟩
    | false => exact iteF (run1.ret (.bl false) rs1)
  | _ => exact run1.no rfl
theorem xe_or (ha : PE X a (T G W fa)) (hb : PE X (.BoolOp .Or (b :: rest) pos) (T G W fb)) : PE X (.BoolOp .Or (a :: b :: rest) pos) (T G W (eOr fa fb)) := by
  refine PE.imp (pe_or ha hb) ?_
  rintro σ H Q ⟨μ, ρ, S, rs, rr, run⟩
  refine T_bnd rs rr run fun v H1 μ1 x S1 g1 rx rs1 rr1 run1 => ?_
  cases rx with
  | bl c =>
    refine ⟨c, rfl, ?_⟩
    cases c with
    | true => exact iteT (run1.ret (.bl true) rs1)
    | false => exact iteF ⟨μ1, ρ, S1, rs1, rr1, run1⟩
  | _ => exact run1.no rfl
theorem xe_not (ha : PE X a (T G W fa)) : PE X (.UnaryOp .Not a pos) (T G W (eNot fa)) := by
  refine PE.imp (pe_not ha) ?_
  rintro σ H Q ⟨μ, ρ, S, rs, rr, run⟩
  refine T_bnd rs rr run fun v H1 μ1 x S1 g1 rx rs1 rr1 run1 => ?_
  cases rx with
  | bl c => exact ⟨c, rfl, run1.ret (.bl _) rs1⟩
  | _ => exact run1.no rfl
theorem xe_if (hc : PT X c (TTs G W ta)) (ha : PE X a (T G W fa)) (hb : PE X b (T G W fb)) : PE X (.IfExp c a b pos) (T G W (eIf ta fa fb)) := by
  refine PE.imp (pe_ifExp hc ha hb) ?_
  rintro σ H Q ⟨μ, ρ, S, rs, rr, run⟩
  refine TT_bnd rs rr run fun c H1 μ1 S1 g1 rs1 rr1 run1 => ?_
  cases c with
  | true => exact iteT ⟨μ1, ρ, S1, rs1, rr1, run1⟩
  | false => exact iteF ⟨μ1, ρ, S1, rs1, rr1, run1⟩
theorem xe_chain {op op' : CmpOp} {r r' : R2} {f g : Vl → Vl → M Vl} (hf : OpM G r f) (hg : OpM G r' g) (ho : OpR X (compareOp op) r) (ho' : OpR X (compareOp op') r') (ha : PE X a (T G W fa)) (hb : PE X b (T G W fb)) (hc : PE X c (T G W fc))
    (hm : lastMarks [op, op'] [b, c] = false := by with_unfolding_all rfl) : PE X (.Compare a [op, op'] [b, c] pos) (T G W (eChain f g fa fb fc)) := by
  refine PE.imp (pe_chain ho ho' ha hb hc hm) ?_
  rintro σ H Q ⟨μ, ρ, S, rs, rr, run⟩
  refine T_bnd rs rr run fun v H1 μ1 x S1 g1 rx rs1 rr1 run1 => ?_
  refine T_bnd rs1 rr1 run1 fun w H2 μ2 y S2 g2 ry rs2 rr2 run2 => ?_
  refine hf μ2 H2 S2 x y v w _ (EW G W σ) rs2 (rx.up g2) ry (run2.bnd.imp (fun u H3 ⟨μ3, z, S3, g3, rz, rs3, run3⟩ => ?_) fun _ _ _ _ z => z)
  cases rz with
  | bl k =>
    refine ⟨k, rfl, ?_⟩
    cases k with
    | true => exact iteT (T_bnd rs3 (rr2.up g3) run3 fun u4 H4 μ4 z4 S4 g4 rz4 rs4 rr4 run4 => hg μ4 H4 S4 y z4 w u4 Q _ rs4 (ry.up (g3.trans g4)) rz4 run4)
    | false => exact iteF (run3.ret (.bl false) rs3)
  | _ => exact run3.no rfl
variable {e : Expr} {es : List Expr} {fs : Evs}
theorem TA_bnd {γ δ : Type} {Rel : List Addr → Hp → γ → δ → Prop} {k : List Vl → M γ} {Q : δ → Hp → Prop} {μ : List Addr} {ρ : Rho} {S : Store} {P : List V → Hp → Prop} (rs : RS G μ H S) (rr : RR G μ H ρ σ) (run : Run G Rel (bnd (fs ρ) k) μ H S Q (EW G W σ))
    (h : ∀ v H1 μ1 x S1, Gr μ H μ1 H1 → Rvs G μ1 H1 x v → RS G μ1 H1 S1 → RR G μ1 H1 ρ σ → Run G Rel (k x) μ1 H1 S1 Q (EW G W σ) → P v H1) : TAs G W fs σ H P :=
  ⟨μ, ρ, S, rs, rr, run.bnd.imp (fun v H1 ⟨μ1, x, S1, g, rx, rs1, r1⟩ => h v H1 μ1 x S1 g rx rs1 (rr.up g) r1) fun _ _ _ _ z => z⟩
theorem xa_nil : PA X [] (TAs G W aNil) := by
  refine PA.imp pa_nil ?_
  rintro σ H Q ⟨μ, ρ, S, rs, rr, run⟩
  exact run.ret .nil rs
theorem xa_cons (ha : PE X e (T G W fa)) (hr : PA X es (TAs G W fs)) (hs : starEach (e :: es) X.env = (false, eval e X.env) :: starEach es X.env := by rfl) : PA X (e :: es) (TAs G W (aCons fa fs)) := by
  refine PA.imp (pa_cons ha hr hs) ?_
  rintro σ H Q ⟨μ, ρ, S, rs, rr, run⟩
  refine T_bnd rs rr run fun v H1 μ1 x S1 g1 rx rs1 rr1 run1 => ?_
  exact TA_bnd rs1 rr1 run1 fun vs H2 μ2 xs S2 g2 rxs rs2 rr2 run2 => run2.ret (.cons (rx.up g2) rxs) rs2
theorem xe_tup {k : Nat} (h : PA X es (TAs G W fs)) : PE X (.Tuple es k pos) (T G W (eTup fs)) := by
  refine PE.imp (pe_tup h) ?_
  rintro σ H Q ⟨μ, ρ, S, rs, rr, run⟩
  refine TA_bnd rs rr run fun vs H1 μ1 xs S1 g1 rx rs1 rr1 run1 => ?_
  have hl := rx.length
  by_cases hz : xs.length ≤ line
  · rw [if_pos hz] at run1
    refine ⟨by rw [← hl, ← line_eq]; exact hz, fun p hp => ?_⟩
    exact run1.end_ rfl μ1 _ _ (gr_laid hp) (.tup (.of upd_same) (rx.up (gr_laid hp))) (rs1.side hp)
  · rw [if_neg hz] at run1
    exact run1.no rfl
theorem Run.newL {xs : List Vl} {vs : List V} {μ : List Addr} {S : Store} {EQ : Str → List Addr → Hp → Store → Prop} (rs : RS G μ H S) (rx : Rvs G μ H xs vs) (run : Run G (Rv G) (newL xs) μ H S Q EQ) :
    vs.length ≤ sizeLine ∧ ∀ p, H p = none → Q (.ref p) (upd H p (.lst vs)) := by
  unfold Tw.newL at run
  by_cases hz : xs.length ≤ line
  · refine ⟨by rw [← rx.length, ← line_eq]; exact hz, fun p hp => ?_⟩
    have g : Gr μ H (μ ++ [p]) (upd H p (.lst vs)) := ⟨fun n a e => by
      rw [List.getElem?_append_left (List.getElem?_eq_some_iff.mp e).1]; exact e, (gr_laid (μ := μ) hp).tup, (gr_laid (μ := μ) hp).frz⟩
    obtain ⟨r1, _, r3⟩ := rs.new (o := .lst vs) (ob := .lst xs) hp ⟨vs, upd_same, rx.up g⟩
    exact run.end_ (a := .loc S.length) (S1 := S ++ [.lst xs]) (if_pos hz) _ _ _ g (.loc r3) r1
  · exact run.no (if_neg hz)
theorem xe_lst (h : PA X es (TAs G W fs)) : PE X (.List es pos) (T G W (eLst fs)) := by
  refine PE.imp (pe_lst h) ?_
  rintro σ H Q ⟨μ, ρ, S, rs, rr, run⟩
  exact TA_bnd rs rr run fun vs H1 μ1 xs S1 g1 rx rs1 rr1 run1 => Run.newL rs1 rx run1
/-- a call of a builtin by its name -/
theorem xe_callB {x : Str} {id : String} {p : Pos} {r : List V → Hp → VK → Prop} {g : List Vl → M Vl} (hg : AsM G r g) (hc : CallR X (.builtin id) r) (hm : X.mg x = none) (hv : bootBuiltins x = some (.builtin id)) (ha : PA X (e :: es) (TAs G W fs))
    (hgl : Gl X x := by rfl) (hn : x ≠ "__name__" := by decide) (hdb : (x == ("__debug__" : Str)) = false := by decide) (he : starEach (e :: es) X.env = (false, eval e X.env) :: starEach es X.env := by rfl)
    (hpl : (backTo pos (starEach es X.env)).any (·.1) = false := by rfl) : PE X (.Call (.Name x p) (e :: es) [] pos) (T G W (eCall g fs)) := by
  refine PE.imp (pe_callB hc hgl hm hv ha hn hdb he hpl) ?_
  rintro σ H Q ⟨μ, ρ, S, rs, rr, run⟩
  exact TA_bnd rs rr run fun vs H1 μ1 xs S1 g1 rx rs1 rr1 run1 => hg μ1 H1 S1 xs vs Q _ rs1 rx run1
theorem xe_callTy {x : Str} {Ty : String} {p : Pos} {r : List V → Hp → VK → Prop} {g : List Vl → M Vl} (hg : AsM G r g) (hc : CallR X (.type Ty) r) (hm : X.mg x = none) (hv : bootBuiltins x = some (.type Ty)) (ha : PA X (e :: es) (TAs G W fs))
    (hgl : Gl X x := by rfl) (hn : x ≠ "__name__" := by decide) (hdb : (x == ("__debug__" : Str)) = false := by decide) (he : starEach (e :: es) X.env = (false, eval e X.env) :: starEach es X.env := by rfl)
    (hpl : (backTo pos (starEach es X.env)).any (·.1) = false := by rfl) : PE X (.Call (.Name x p) (e :: es) [] pos) (T G W (eCall g fs)) := by
  refine PE.imp (pe_callTy hc hgl hm hv ha hn hdb he hpl) ?_
  rintro σ H Q ⟨μ, ρ, S, rs, rr, run⟩
  exact TA_bnd rs rr run fun vs H1 μ1 xs S1 g1 rx rs1 rr1 run1 => hg μ1 H1 S1 xs vs Q _ rs1 rx run1
end
end Tw
end

section
set_option Elab.async false
set_option maxRecDepth 100000
set_option maxHeartbeats 3000000
set_option autoImplicit true
set_option linter.all false
set_option relaxedAutoImplicit true
namespace Tw
open PySem L2
section
variable {G : GG} {X : Cx}
/-! ## 6. Operators -/
theorem om_add : OpM G (fun x y H Q => rI0 (fun i j => V.int (i + j)) x y H Q ∨ rCatA G.K x y H Q ∨ rCat x y H Q) oAdd := by
  intro μ H S x y v w Q EQ rs rx ry run
  cases rx <;> cases ry <;> first | exact run.no rfl | skip
  · rename_i i j
    exact .inl ⟨i, j, rfl, rfl, run.ret (.int _) rs⟩
  · rename_i xs vs a h r ys ws b h' r'
    refine .inr (.inl ⟨a, b, vs, ws, rfl, rfl, h, h', ?_⟩)
    have l1 := r.length
    have l2 := r'.length
    by_cases hz : xs.length + ys.length ≤ line
    · replace run : Run G (Rv G) (ret (.tup (xs ++ ys))) μ H S Q EQ := by simpa only [oAdd, if_pos hz] using run
      refine ⟨by rw [← l1, ← l2, ← line_eq]; exact hz, fun e => ?_, fun _ e => ?_, fun _ _ p hp => ?_⟩
      · subst e
        cases r
        exact run.ret (.tup h' r') rs
      · subst e
        cases r'
        rw [List.append_nil] at run
        exact run.ret (.tup h r) rs
      · exact run.end_ rfl μ _ _ (gr_laid hp) (.tup (.of upd_same) ((r.app r').up (gr_laid hp))) (rs.side hp)
    · replace run : Run G (Rv G) stuck μ H S Q EQ := by simpa only [oAdd, if_neg hz] using run
      exact run.no rfl
  · rename_i m a ha n b hb
    refine .inr (.inr ?_)
    have hr : oAdd (.loc m) (.loc n) S = match S[m]?, S[n]? with
      | some (.lst a), some (.lst b) => if a.length + b.length ≤ line then newL (a ++ b) S else none
      | _, _ => none := rfl
    cases em : S[m]? with
    | none => exact run.no (by rw [hr, em])
    | some o1 =>
      cases o1 with
      | dct => exact run.no (by rw [hr, em])
      | lst l1 =>
        cases en : S[n]? with
        | none => exact run.no (by rw [hr, em, en])
        | some o2 =>
          cases o2 with
          | dct => exact run.no (by rw [hr, em, en])
          | lst l2 =>
            by_cases hz : l1.length + l2.length ≤ line
            · obtain ⟨a1, e1, vs, h1, r1⟩ := rs.ob m _ em
              obtain ⟨b1, e2, ws, h2, r2⟩ := rs.ob n _ en
              rw [ha] at e1; cases e1
              rw [hb] at e2; cases e2
              have run' : Run G (Rv G) (newL (l1 ++ l2)) μ H S Q EQ := by
                obtain ⟨r, e, h⟩ := run
                refine ⟨r, ?_, h⟩
                rw [← e, hr, em, en]
                simp only [if_pos hz]
              refine ⟨a, b, vs, ws, rfl, rfl, h1, h2, ?_, (Run.newL rs (r1.app r2) run').2⟩
              rw [← r1.length, ← r2.length, ← line_eq]; exact hz
            · exact run.no (by rw [hr, em, en]; simp only [if_neg hz])
theorem om_sub : OpM G (rI0 fun i j => V.int (i - j)) oSub := by
  intro μ H S x y v w Q EQ rs rx ry run
  cases rx <;> cases ry <;> first | exact run.no rfl | skip
  exact ⟨_, _, rfl, rfl, run.ret (.int _) rs⟩
theorem om_mul : OpM G (fun x y H Q => rI CMulW (fun i j => V.int (i * j)) x y H Q ∨ rRepT G.K x y H Q ∨ rRep x y H Q) oMul := by
  intro μ H S x y v w Q EQ rs rx ry run
  cases rx <;> cases ry <;> first | exact run.no rfl | skip
  · rename_i i j
    by_cases hz : i.natAbs.log2 + j.natAbs.log2 < 1000000
    · replace run : Run G (Rv G) (ret (.int (i * j))) μ H S Q EQ := by simpa only [oMul, if_pos hz] using run
      exact .inl ⟨i, j, rfl, rfl, hz, run.ret (.int _) rs⟩
    · exact run.no (by simp only [oMul, if_neg hz]; rfl)
  · rename_i xs vs a h r k
    by_cases hz : xs ≠ [] ∧ 2 ≤ k ∧ k ≤ 1000 ∧ xs.length ≤ 1000
    · replace run : Run G (Rv G) (ret (.tup (List.replicate k.toNat xs).flatten)) μ H S Q EQ := by simpa only [oMul, if_pos hz] using run
      refine .inr (.inl ⟨a, k, vs, rfl, rfl, h, ?_, hz.2.1, hz.2.2.1, by rw [← r.length]; exact hz.2.2.2, fun p hp => ?_⟩)
      · rintro rfl
        cases r
        exact hz.1 rfl
      · exact run.end_ rfl μ _ _ (gr_laid hp) (.tup (.of upd_same) ((r.rep k.toNat).up (gr_laid hp))) (rs.side hp)
    · exact run.no (by simp only [oMul, if_neg hz]; rfl)
  · rename_i m a ha k
    refine .inr (.inr ?_)
    have hr : oMul (.loc m) (.int k) S = match S[m]? with
      | some (.lst a) => if -(2 ^ 63) ≤ k ∧ k < 2 ^ 63 ∧ a.length * k.toNat ≤ line then newL (List.replicate k.toNat a).flatten S else none
      | _ => none := rfl
    cases em : S[m]? with
    | none => exact run.no (by rw [hr, em])
    | some o1 =>
      cases o1 with
      | dct => exact run.no (by rw [hr, em])
      | lst l1 =>
        by_cases hz : -(2 ^ 63) ≤ k ∧ k < 2 ^ 63 ∧ l1.length * k.toNat ≤ line
        · obtain ⟨a1, e1, vs, h1, r1⟩ := rs.ob m _ em
          rw [ha] at e1; cases e1
          have run' : Run G (Rv G) (newL (List.replicate k.toNat l1).flatten) μ H S Q EQ := by
            obtain ⟨r, e, h⟩ := run
            refine ⟨r, ?_, h⟩
            rw [← e, hr, em]
            simp only [if_pos hz]
          exact ⟨a, k, vs, rfl, rfl, h1, hz.1, hz.2.1, by rw [← r1.length, ← line_eq]; exact hz.2.2, (Run.newL rs (r1.rep k.toNat) run').2⟩
        · exact run.no (by rw [hr, em]; simp only [if_neg hz])
def CDivA (_ j : Int) : Prop := j ≠ 0 ∧ j.natAbs.log2 < 9000
theorem op_fdivA : OpR X (binaryOp .FloorDiv) (rI CDivA fun i j => .int (i.fdiv j)) := opI fun i j _ _ _ _ _ hc q => PyProof.Rows.floordiv_int hc.1 q (.inl (PyProof.noPylong_of_log2 hc.2))
theorem om_div : OpM G (rI CDivA fun i j => V.int (i.fdiv j)) oDiv := by
  intro μ H S x y v w Q EQ rs rx ry run
  cases rx <;> cases ry <;> first | exact run.no rfl | skip
  rename_i i j
  by_cases hz : j ≠ 0 ∧ j.natAbs.log2 < 9000
  · replace run : Run G (Rv G) (ret (.int (i.fdiv j))) μ H S Q EQ := by simpa only [oDiv, if_pos hz] using run
    exact ⟨i, j, rfl, rfl, hz, run.ret (.int _) rs⟩
  · exact run.no (by simp only [oDiv, if_neg hz]; rfl)
theorem om_mod : OpM G (rI (fun _ j => j ≠ 0) fun i j => V.int (i.fmod j)) oMod := by
  intro μ H S x y v w Q EQ rs rx ry run
  cases rx <;> cases ry <;> first | exact run.no rfl | skip
  rename_i i j
  by_cases hz : j ≠ 0
  · replace run : Run G (Rv G) (ret (.int (i.fmod j))) μ H S Q EQ := by simpa only [oMod, if_pos hz] using run
    exact ⟨i, j, rfl, rfl, hz, run.ret (.int _) rs⟩
  · exact run.no (by simp only [oMod, if_neg hz]; rfl)
theorem om_pow : OpM G (rI CPow fun i j => V.int (i ^ j.toNat)) oPow := by
  intro μ H S x y v w Q EQ rs rx ry run
  cases rx <;> cases ry <;> first | exact run.no rfl | skip
  rename_i i j
  by_cases hz : 0 ≤ j ∧ j ≤ 1000000 ∧ i.natAbs < 2 ^ 64
  · replace run : Run G (Rv G) (ret (.int (i ^ j.toNat))) μ H S Q EQ := by simpa only [oPow, if_pos hz] using run
    exact ⟨i, j, rfl, rfl, hz, run.ret (.int _) rs⟩
  · exact run.no (by simp only [oPow, if_neg hz]; rfl)
theorem um_neg : UnM G (rU fun i => V.int (-i)) oNeg := by
  intro μ H S x v Q EQ rs rx run
  cases rx <;> first | exact run.no rfl | skip
  exact ⟨_, rfl, run.ret (.int _) rs⟩
theorem om_cmp {p : Int → Int → Bool} : OpM G (rI0 fun i j => V.bl (p i j)) (oCmp p) := by
  intro μ H S x y v w Q EQ rs rx ry run
  cases rx <;> cases ry <;> first | exact run.no rfl | skip
  exact ⟨_, _, rfl, rfl, run.ret (.bl _) rs⟩
mutual
theorem pd0_ok {μ H} : ∀ {x : Vl} {v : V} {d : PyData}, Rv G μ H x v → pd0 x = some d → Dp G.K H v d
  | _, _, _, .non, e => by cases e; exact .non
  | _, _, _, .bl b, e => by cases e; exact .bl b
  | _, _, _, .int i, e => by cases e; exact .int i
  | _, _, _, .str s, e => by cases e; exact .str s
  | .tup xs, _, d, .tup h r, e => by
    unfold pd0 at e
    split at e
    · rename_i ds es
      cases e
      exact .tup h (pds0_ok r es)
    · cases e
  | _, _, _, .loc h, e => by unfold pd0 at e; cases e
  | .frz xs, _, d, .frz h r, e => by
    unfold pd0 at e
    split at e
    · rename_i ds es
      cases e
      exact .lst h.sql (pds0_ok r es)
    · cases e
  | _, _, _, .fn h, e => by unfold pd0 at e; cases e
  | _, _, _, .ty n, e => by unfold pd0 at e; cases e
  | _, _, _, .cls h, e => by unfold pd0 at e; cases e
theorem pds0_ok {μ H} : ∀ {xs : List Vl} {vs : List V} {ds : List PyData}, Rvs G μ H xs vs → pds0 xs = some ds → DpAll G.K H vs ds
  | _, _, _, .nil, e => by unfold pds0 at e; cases e; exact .nil
  | x :: xs, _, ds, .cons h t, e => by
    unfold pds0 at e
    split at e
    · rename_i d ds' e1 e2
      cases e
      exact .cons (pd0_ok h e1) (pds0_ok t e2)
    · cases e
end
theorem pd_ok {μ H S} (rs : RS G μ H S) {x : Vl} {v : V} {d : PyData} (rx : Rv G μ H x v) (e : pd S x = some d) : Dp G.K H v d := by
  unfold pd at e
  split at e
  · rename_i n
    cases rx with
    | loc h =>
      split at e
      · rename_i xs en
        split at e
        · rename_i ds es
          cases e
          obtain ⟨a, e1, vs, h1, r1⟩ := rs.ob n _ en
          rw [h] at e1; cases e1
          exact .lst (.of h1) (pds0_ok r1 es)
        · cases e
      · cases e
  · exact pd0_ok rx e
theorem om_eqD {c : Bool → Bool} : OpM G (fun x y H Q => ∃ d e, Dp G.K H x d ∧ Dp G.K H y e ∧ SeqAt.shaped d = true ∧ SeqAt.shaped e = true ∧ Q (.bl (c (PyData.eqv d e))) H) (fun x y => bnd (eqD x y) fun b => ret (.bl (c b))) := by
  intro μ H S x y v w Q EQ rs rx ry run
  cases ex : pd S x with
  | none => exact run.no (by simp only [bnd, eqD, ex])
  | some d =>
    cases ey : pd S y with
    | none => exact run.no (by simp only [bnd, eqD, ex, ey])
    | some e =>
      by_cases hz : SeqAt.shaped d = true ∧ SeqAt.shaped e = true
      · refine ⟨d, e, pd_ok rs rx ex, pd_ok rs ry ey, hz.1, hz.2, ?_⟩
        exact run.end_ (a := .bl (c (PyData.eqv d e))) (S1 := S) (by simp only [bnd, eqD, ex, ey, if_pos hz]; rfl) μ H _ .refl (.bl _) rs
      · exact run.no (by simp only [bnd, eqD, ex, ey, if_neg hz])
theorem om_eq : OpM G (fun x y H Q => rEq x y H Q ∨ rEqD G.K x y H Q) oEq := by
  intro μ H S x y v w Q EQ rs rx ry run
  have gen : ∀ (run : Run G (Rv G) (bnd (eqD x y) fun b => ret (.bl b)) μ H S Q EQ), rEqD G.K v w H Q := fun run => om_eqD (c := fun b => b) μ H S x y v w Q EQ rs rx ry run
  cases rx <;> cases ry <;> first | exact .inr (gen run) | exact .inl ⟨rfl, by have := run.ret (.bl _) rs; simpa using this⟩
theorem om_ne : OpM G (fun x y H Q => rNe x y H Q ∨ rNeD G.K x y H Q) oNe := by
  intro μ H S x y v w Q EQ rs rx ry run
  have gen : ∀ (run : Run G (Rv G) (bnd (eqD x y) fun b => ret (.bl (!b))) μ H S Q EQ), rNeD G.K v w H Q := fun run => om_eqD (c := fun b => !b) μ H S x y v w Q EQ rs rx ry run
  cases rx <;> cases ry <;> first | exact .inr (gen run) | exact .inl ⟨rfl, by have := run.ret (.bl _) rs; simpa using this⟩
/-- x is None: the right side is written None -/
theorem om_isN : OpM G (fun x y H Q => y = V.non ∧ Q (.bl (decide (x = .non))) H) (fun x y => match y with | .non => oIsN x | _ => stuck) := by
  intro μ H S x y v w Q EQ rs rx ry run
  cases ry <;> first | exact run.no rfl | skip
  refine ⟨rfl, ?_⟩
  have := run.ret (.bl _) rs
  cases rx <;> simpa using this
theorem om_notN : OpM G (fun x y H Q => y = V.non ∧ Q (.bl (!decide (x = .non))) H) (fun x y => match y with | .non => oNotN x | _ => stuck) := by
  intro μ H S x y v w Q EQ rs rx ry run
  cases ry <;> first | exact run.no rfl | skip
  refine ⟨rfl, ?_⟩
  have := run.ret (.bl _) rs
  cases rx <;> simpa using this
theorem om_isB : OpM G rIsB oIsB := by
  intro μ H S x y v w Q EQ rs rx ry run
  cases rx <;> cases ry <;> first | exact run.no rfl | skip
  exact ⟨_, _, rfl, rfl, run.ret (.bl _) rs⟩
theorem om_notB : OpM G rNotB oNotB := by
  intro μ H S x y v w Q EQ rs rx ry run
  cases rx <;> cases ry <;> first | exact run.no rfl | skip
  exact ⟨_, _, rfl, rfl, run.ret (.bl _) rs⟩

/-! ## 7. Items, slices -/
theorem getL_ok {μ H S} (rs : RS G μ H S) {x : Vl} {v : V} {xs : List Vl} {S1 : Store} (rx : Rv G μ H x v) (e : getL x S = some (.ok xs S1)) : S1 = S ∧ ∃ a vs, v = .ref a ∧ SqL G.K H a vs ∧ Rvs G μ H xs vs := by
  unfold getL at e
  cases rx with
  | frz h r => cases e; exact ⟨rfl, _, _, rfl, h.sql, r⟩
  | loc h =>
    rename_i n a
    dsimp only at e
    split at e
    · rename_i l en
      cases e
      obtain ⟨b, e1, vs, h1, r1⟩ := rs.ob n _ en
      rw [h] at e1; cases e1
      exact ⟨rfl, a, vs, rfl, .of h1, r1⟩
    · cases e
  | _ => cases e
theorem getL_cases (x : Vl) (S : Store) : getL x S = none ∨ ∃ xs, getL x S = some (.ok xs S) := by
  unfold getL
  cases x with
  | frz xs => exact .inr ⟨xs, rfl⟩
  | loc n =>
    dsimp only
    split
    · exact .inr ⟨_, rfl⟩
    · exact .inl rfl
  | _ => exact .inl rfl
theorem atI_get {xs : List Vl} {vs : List V} {μ H i x} (r : Rvs G μ H xs vs) (e : atI xs i = some x) : ∃ v, atI vs i = some v ∧ Rv G μ H x v := by
  unfold atI at *
  rw [← r.length]
  cases q : ixN xs.length i with
  | none => rw [q] at e; cases e
  | some j =>
    rw [q] at e
    exact r.get e
theorem om_ix : OpM G (fun x y H Q => rIxL G.K x y H Q ∨ rIxT G.K x y H Q) oIx := by
  intro μ H S x y v w Q EQ rs rx ry run
  have gen : ∀ {i : Int}, w = .int i → Run G (Rv G) (bnd (getL x) fun xs => match atI xs i with | some v => ret v | none => stuck) μ H S Q EQ → rIxL G.K v w H Q := by
    intro i hi run
    rcases getL_cases x S with h | ⟨xs, h⟩
    · exact run.no (by simp only [bnd, h])
    · obtain ⟨_, a, vs, e1, h1, r1⟩ := getL_ok rs rx h
      cases e2 : atI xs i with
      | none => exact run.no (by simp only [bnd, h, e2]; rfl)
      | some z =>
        obtain ⟨u, h2, rz⟩ := atI_get r1 e2
        exact ⟨a, vs, i, u, e1, hi, h1, h2, run.end_ (a := z) (S1 := S) (by simp only [bnd, h, e2]; rfl) μ H _ .refl rz rs⟩
  cases ry with
  | int i =>
    cases rx with
    | tup h r =>
      rename_i xs vs a
      cases e2 : atI xs i with
      | none => exact run.no (by simp only [oIx, e2]; rfl)
      | some z =>
        obtain ⟨u, h2, rz⟩ := atI_get r e2
        exact .inr ⟨a, vs, i, u, rfl, rfl, h, h2, run.end_ (a := z) (S1 := S) (by simp only [oIx, e2]; rfl) μ H _ .refl rz rs⟩
    | _ => exact .inl (gen rfl run)
  | _ => exact run.no (by cases rx <;> rfl)
variable {W : WX} {a b : Expr} {fa fb : Ev} {pos : Pos}
theorem xe_ix (ha : PE X a (T G W fa)) (hb : PE X b (T G W fb)) (hK : G.K = X.K := by rfl) (hs : PlainIx b := by intro _ _; rfl) : PE X (.Subscript a b pos) (T G W (eOp oIx fa fb)) :=
  xe_op0 (pe_ix (ix_list.or ix_tup) ha hb hs) (by rw [← hK]; exact om_ix)
/-- parts of a slice -/
def TOs (G : GG) (W : WX) (f : Evo) : TO := fun σ H Q => ∃ μ ρ S, RS G μ H S ∧ RR G μ H ρ σ ∧ Run G (fun _ _ a b => a = b) (f ρ) μ H S Q (EW G W σ)
theorem PO.imp {e : Option Expr} {t t' : TO} (h : PO X e t) (i : ∀ σ H Q, t' σ H Q → t σ H Q) : PO X e t' := ⟨fun pins s σ H Q I q => h.run pins s σ H Q I (i _ _ _ q)⟩
theorem xo_none : PO X none (TOs G W pNone) := by
  refine PO.imp po_none ?_
  rintro σ H Q ⟨μ, ρ, S, rs, rr, run⟩
  exact run.ret rfl rs
theorem xo_some (h : PE X a (T G W fa)) : PO X (some a) (TOs G W (pSome fa)) := by
  refine PO.imp (po_some h) ?_
  rintro σ H Q ⟨μ, ρ, S, rs, rr, run⟩
  refine T_bnd rs rr run fun v H1 μ1 x S1 g1 rx rs1 rr1 run1 => ?_
  cases rx with
  | int i => exact ⟨i, rfl, run1.ret rfl rs1⟩
  | _ => exact run1.no rfl
theorem TO_bnd {γ δ : Type} {Rel : List Addr → Hp → γ → δ → Prop} {f : Evo} {k : Option Int → M γ} {Q : δ → Hp → Prop} {σ : St} {H : Hp} {μ : List Addr} {ρ : Rho} {S : Store} {P : Option Int → Hp → Prop} (rs : RS G μ H S) (rr : RR G μ H ρ σ) (run : Run G Rel (bnd (f ρ) k) μ H S Q (EW G W σ))
    (h : ∀ c H1 μ1 S1, Gr μ H μ1 H1 → RS G μ1 H1 S1 → RR G μ1 H1 ρ σ → Run G Rel (k c) μ1 H1 S1 Q (EW G W σ) → P c H1) : TOs G W f σ H P :=
  ⟨μ, ρ, S, rs, rr, run.bnd.imp (fun v H1 ⟨μ1, x, S1, g, rx, rs1, r1⟩ => h v H1 μ1 S1 g rs1 (rr.up g) (rx ▸ r1)) fun _ _ _ _ z => z⟩
theorem SlR.or {r r' : V → Option Int → Option Int → Hp → VK → Prop} (h : L2.SlR X r) (h' : L2.SlR X r') : L2.SlR X (fun x l u H Q => r x l u H Q ∨ r' x l u H Q) := by
  intro pins s σ H x v vl vu lo hi sl Q I rx hs pl pu q
  rcases q with q | q
  · exact h pins s σ H x v vl vu lo hi sl Q I rx hs pl pu q
  · exact h' pins s σ H x v vl vu lo hi sl Q I rx hs pl pu q
theorem Rvs.cut {μ H} {xs : List Vl} {vs : List V} (r : Rvs G μ H xs vs) (lo hi : Option Int) : Rvs G μ H (cut xs lo hi) (cutV vs lo hi) := by
  unfold Tw.cut cutV
  rw [← r.length]
  exact (r.drop _).take _
theorem cut_whole {xs : List Vl} {lo hi : Option Int} (h : HT.sIx xs.length 0 lo = 0 ∧ HT.sIx xs.length xs.length hi = xs.length) : cut xs lo hi = xs := by
  unfold cut
  rw [h.1, h.2]
  simp
theorem xe_sl {lo hi : Option Expr} {fl fh : Evo} {p2 : Pos} (ha : PE X a (T G W fa)) (hl : PO X lo (TOs G W fl)) (hh : PO X hi (TOs G W fh)) (hK : G.K = X.K := by rfl) :
    PE X (.Subscript a (.Slice lo hi none p2) pos) (T G W (eSl fa fl fh)) := by
  refine PE.imp (pe_slice (SlR.or sl_list sl_tupA) ha hl hh) ?_
  rintro σ H Q ⟨μ, ρ, S, rs, rr, run⟩
  refine T_bnd rs rr run fun v H1 μ1 x S1 g1 rx1 rs1 rr1 run1 => ?_
  refine TO_bnd rs1 rr1 run1 fun l H2 μ2 S2 g2 rs2 rr2 run2 => ?_
  refine TO_bnd rs2 rr2 run2 fun u H3 μ3 S3 g3 rs3 rr3 run3 => ?_
  have rx := rx1.up (g2.trans g3)
  rw [← hK]
  have gen : Run G (Rv G) (bnd (getL x) fun xs => newL (cut xs l u)) μ3 H3 S3 Q (EW G W σ) → rSlL G.K v l u H3 Q := fun run => by
    rcases getL_cases x S3 with h | ⟨xs, h⟩
    · exact run.no (by simp only [bnd, h])
    · obtain ⟨_, a, vs, e1, h1, r1⟩ := getL_ok rs3 rx h
      have run' : Run G (Rv G) (newL (cut xs l u)) μ3 H3 S3 Q (EW G W σ) := by
        obtain ⟨r, e, q⟩ := run
        exact ⟨r, by rw [← e]; simp only [bnd, h], q⟩
      exact ⟨a, vs, e1, h1, (Run.newL rs3 (r1.cut l u) run').2⟩
  cases rx with
  | tup h r =>
    rename_i xs vs a
    have hl := r.length
    refine .inr ⟨a, vs, rfl, h, fun e => ?_, fun e p hp => ?_⟩
    · rw [← hl] at e
      replace run3 : Run G (Rv G) (ret (.tup (cut xs l u))) μ3 H3 S3 Q (EW G W σ) := run3
      rw [cut_whole e] at run3
      exact run3.ret (.tup h r) rs3
    · exact run3.end_ rfl μ3 _ _ (gr_laid hp) (.tup (.of upd_same) ((r.cut l u).up (gr_laid hp))) (rs3.side hp)
  | _ => exact .inl (gen run3)

/-! ## 8. Builtins -/
def bLen : List Vl → M Vl
  | [.tup xs] => if xs.length ≤ line then ret (.int xs.length) else stuck
  | [x] => bnd (getL x) fun xs => ret (.int xs.length)
  | _ => stuck
theorem am_len : AsM G (fun xs H Q => ∃ x n, xs = [x] ∧ LenV G.K x H n ∧ Q (.int n) H) bLen := by
  intro μ H S x v Q EQ rs rx run
  cases rx with
  | nil => exact run.no rfl
  | cons r t =>
    cases t with
    | cons _ _ => exact run.no (by cases r <;> rfl)
    | nil =>
      have gen : ∀ {x : Vl} {v : V}, Rv G μ H x v → Run G (Rv G) (bnd (getL x) fun xs => ret (.int xs.length)) μ H S Q EQ → ∃ n, LenV G.K v H n ∧ Q (.int n) H := fun {x v} rx run => by
        rcases getL_cases x S with h | ⟨xs, h⟩
        · exact run.no (by simp only [bnd, h])
        · obtain ⟨_, a, vs, e1, h1, r1⟩ := getL_ok rs rx h
          subst e1
          refine ⟨vs.length, .inl ⟨vs, h1, rfl⟩, ?_⟩
          rw [← r1.length]
          exact run.end_ (a := .int xs.length) (S1 := S) (by simp only [bnd, h]; rfl) μ H _ .refl (.int _) rs
      cases r with
      | tup h r =>
        rename_i xs vs a
        refine ⟨_, vs.length, rfl, .inr ⟨vs, h, rfl⟩, ?_⟩
        rw [← r.length]
        by_cases hz : xs.length ≤ line
        · replace run : Run G (Rv G) (ret (.int xs.length)) μ H S Q EQ := by simpa only [bLen, if_pos hz] using run
          exact run.ret (.int _) rs
        · exact run.no (by simp only [bLen, if_neg hz]; rfl)
      | non => obtain ⟨n, h1, h2⟩ := gen .non run; exact ⟨_, n, rfl, h1, h2⟩
      | bl b => obtain ⟨n, h1, h2⟩ := gen (.bl b) run; exact ⟨_, n, rfl, h1, h2⟩
      | int i => obtain ⟨n, h1, h2⟩ := gen (.int i) run; exact ⟨_, n, rfl, h1, h2⟩
      | str s => obtain ⟨n, h1, h2⟩ := gen (.str s) run; exact ⟨_, n, rfl, h1, h2⟩
      | loc h => obtain ⟨n, h1, h2⟩ := gen (.loc h) run; exact ⟨_, n, rfl, h1, h2⟩
      | frz h r => obtain ⟨n, h1, h2⟩ := gen (.frz h r) run; exact ⟨_, n, rfl, h1, h2⟩
      | fn h => obtain ⟨n, h1, h2⟩ := gen (.fn h) run; exact ⟨_, n, rfl, h1, h2⟩
      | ty k => obtain ⟨n, h1, h2⟩ := gen (.ty k) run; exact ⟨_, n, rfl, h1, h2⟩
      | cls h => obtain ⟨n, h1, h2⟩ := gen (.cls h) run; exact ⟨_, n, rfl, h1, h2⟩
/-- the type's name -/
def tyN (S : Store) : Vl → Option String
  | .non => some "NoneType"
  | .bl _ => some "bool"
  | .int _ => some "int"
  | .str _ => some "str"
  | .tup _ => some "tuple"
  | .frz _ => some "list"
  | .loc n => match S[n]? with
    | some (.lst _) => some "list"
    | some .dct => some "dict"
    | none => none
  | _ => none
/-- isinstance(x, T), T a builtin type by its name -/
def bIsi : List Vl → M Vl
  | [x, .ty n] => fun S => match tyN S x with
    | some t => match kitB t n with
      | some b => some (.ok (.bl b) S)
      | none => none
    | none => none
  | _ => stuck
theorem tyN_ok {μ H S} (rs : RS G μ H S) {x : Vl} {v : V} {t : String} (r : Rv G μ H x v) (e : tyN S x = some t) : TyX G.K H v (.type t) := by
  cases r with
  | non => cases e; exact .base .non
  | bl b => cases e; exact .base (.bl b)
  | int i => cases e; exact .base (.int i)
  | str s => cases e; exact .base (.str s)
  | tup h r =>
    cases e
    rcases h with (h | ⟨o, h⟩) | ⟨o, its, n, h1, h2, _⟩
    · exact .base (.tup h)
    · exact .fTuple h
    · exact .kTuple h1 h2
  | frz h r =>
    cases e
    rcases h.sql with (h | ⟨o, h⟩) | ⟨o, its, n, h1, h2, _⟩
    · exact .base (.lst h)
    · exact .base (.frz h)
    · exact .kList h1 h2
  | loc h =>
    rename_i n a
    unfold tyN at e
    dsimp only at e
    split at e
    · rename_i l en
      cases e
      obtain ⟨b, e1, vs, h1, r1⟩ := rs.ob n _ en
      rw [h] at e1; cases e1
      exact .base (.lst h1)
    · rename_i en
      cases e
      obtain ⟨b, e1, h1⟩ := rs.ob n _ en
      rw [h] at e1; cases e1
      exact .base (.dK h1)
    · cases e
  | fn h => cases e
  | ty n => cases e
  | cls h => cases e
theorem am_isi : AsM G (rIsi G.K) bIsi := by
  intro μ H S x v Q EQ rs rx run
  cases rx with
  | nil => exact run.no rfl
  | cons r t =>
    rename_i x v xs vs
    cases t with
    | nil => exact run.no rfl
    | cons r2 t2 =>
      cases t2 with
      | cons _ _ => exact run.no (by cases r2 <;> rfl)
      | nil =>
        cases r2 <;> first | exact run.no rfl | skip
        rename_i n
        cases e1 : tyN S x with
        | none => exact run.no (by simp only [bIsi, e1])
        | some t =>
          cases e2 : kitB t n with
          | none => exact run.no (by simp only [bIsi, e1, e2])
          | some b =>
            refine ⟨_, _, .type t, .type n, b, rfl, .ty n, tyN_ok rs r e1, kit_ty e2, ?_⟩
            exact run.end_ (a := .bl b) (S1 := S) (by simp only [bIsi, e1, e2]) μ H _ .refl (.bl _) rs
/-- tuple(x), list(x) -/
def bTuple : List Vl → M Vl
  | [.tup xs] => ret (.tup xs)
  | [x] => bnd (getL x) fun xs => ret (.tup xs)
  | _ => stuck
theorem am_tuple : AsM G (fun xs H Q => ∃ p ys, xs = [V.ref p] ∧ ((SqL G.K H p ys ∧ ∀ l, H l = none → Q (.ref l) (upd H l (.tup ys))) ∨ (SqT G.K H p ys ∧ Q (.ref p) H))) bTuple := by
  intro μ H S x v Q EQ rs rx run
  cases rx with
  | nil => exact run.no rfl
  | cons r t =>
    cases t with
    | cons _ _ => exact run.no (by cases r <;> rfl)
    | nil =>
      have gen : ∀ {x : Vl} {v : V}, Rv G μ H x v → Run G (Rv G) (bnd (getL x) fun xs => ret (.tup xs)) μ H S Q EQ → ∃ p ys, [v] = [V.ref p] ∧ (SqL G.K H p ys ∧ ∀ l, H l = none → Q (.ref l) (upd H l (.tup ys))) := fun {x v} rx run => by
        rcases getL_cases x S with h | ⟨xs, h⟩
        · exact run.no (by simp only [bnd, h])
        · obtain ⟨_, a, vs, e1, h1, r1⟩ := getL_ok rs rx h
          subst e1
          refine ⟨a, vs, rfl, h1, fun p hp => ?_⟩
          exact run.end_ (a := .tup xs) (S1 := S) (by simp only [bnd, h]; rfl) μ _ _ (gr_laid hp) (.tup (.of upd_same) (r1.up (gr_laid hp))) (rs.side hp)
      cases r with
      | tup h r => exact ⟨_, _, rfl, .inr ⟨h, run.ret (.tup h r) rs⟩⟩
      | non => obtain ⟨p, ys, h1, h2⟩ := gen .non run; exact ⟨p, ys, h1, .inl h2⟩
      | bl b => obtain ⟨p, ys, h1, h2⟩ := gen (.bl b) run; exact ⟨p, ys, h1, .inl h2⟩
      | int i => obtain ⟨p, ys, h1, h2⟩ := gen (.int i) run; exact ⟨p, ys, h1, .inl h2⟩
      | str s => obtain ⟨p, ys, h1, h2⟩ := gen (.str s) run; exact ⟨p, ys, h1, .inl h2⟩
      | loc h => obtain ⟨p, ys, h1, h2⟩ := gen (.loc h) run; exact ⟨p, ys, h1, .inl h2⟩
      | frz h r => obtain ⟨p, ys, h1, h2⟩ := gen (.frz h r) run; exact ⟨p, ys, h1, .inl h2⟩
      | fn h => obtain ⟨p, ys, h1, h2⟩ := gen (.fn h) run; exact ⟨p, ys, h1, .inl h2⟩
      | ty k => obtain ⟨p, ys, h1, h2⟩ := gen (.ty k) run; exact ⟨p, ys, h1, .inl h2⟩
      | cls h => obtain ⟨p, ys, h1, h2⟩ := gen (.cls h) run; exact ⟨p, ys, h1, .inl h2⟩
def bList : List Vl → M Vl
  | [.tup xs] => if xs.length ≤ line then newL xs else stuck
  | [x] => bnd (getL x) fun xs => newL xs
  | _ => stuck
theorem am_list : AsM G (fun xs H Q => ∃ p ys, xs = [V.ref p] ∧ (SqL G.K H p ys ∨ SqT G.K H p ys) ∧ ∀ l, H l = none → Q (.ref l) (upd H l (.lst ys))) bList := by
  intro μ H S x v Q EQ rs rx run
  cases rx with
  | nil => exact run.no rfl
  | cons r t =>
    cases t with
    | cons _ _ => exact run.no (by cases r <;> rfl)
    | nil =>
      have gen : ∀ {x : Vl} {v : V}, Rv G μ H x v → Run G (Rv G) (bnd (getL x) fun xs => newL xs) μ H S Q EQ → ∃ p ys, [v] = [V.ref p] ∧ SqL G.K H p ys ∧ ∀ l, H l = none → Q (.ref l) (upd H l (.lst ys)) := fun {x v} rx run => by
        rcases getL_cases x S with h | ⟨xs, h⟩
        · exact run.no (by simp only [bnd, h])
        · obtain ⟨_, a, vs, e1, h1, r1⟩ := getL_ok rs rx h
          subst e1
          have run' : Run G (Rv G) (newL xs) μ H S Q EQ := by
            obtain ⟨r, e, q⟩ := run
            exact ⟨r, by rw [← e]; simp only [bnd, h], q⟩
          exact ⟨a, vs, rfl, h1, (Run.newL rs r1 run').2⟩
      cases r with
      | tup h r =>
        rename_i xs vs a
        by_cases hz : xs.length ≤ line
        · replace run : Run G (Rv G) (newL xs) μ H S Q EQ := by simpa only [bList, if_pos hz] using run
          exact ⟨_, _, rfl, .inr h, (Run.newL rs r run).2⟩
        · exact run.no (by simp only [bList, if_neg hz]; rfl)
      | non => obtain ⟨p, ys, h1, h2, h3⟩ := gen .non run; exact ⟨p, ys, h1, .inl h2, h3⟩
      | bl b => obtain ⟨p, ys, h1, h2, h3⟩ := gen (.bl b) run; exact ⟨p, ys, h1, .inl h2, h3⟩
      | int i => obtain ⟨p, ys, h1, h2, h3⟩ := gen (.int i) run; exact ⟨p, ys, h1, .inl h2, h3⟩
      | str s => obtain ⟨p, ys, h1, h2, h3⟩ := gen (.str s) run; exact ⟨p, ys, h1, .inl h2, h3⟩
      | loc h => obtain ⟨p, ys, h1, h2, h3⟩ := gen (.loc h) run; exact ⟨p, ys, h1, .inl h2, h3⟩
      | frz h r => obtain ⟨p, ys, h1, h2, h3⟩ := gen (.frz h r) run; exact ⟨p, ys, h1, .inl h2, h3⟩
      | fn h => obtain ⟨p, ys, h1, h2, h3⟩ := gen (.fn h) run; exact ⟨p, ys, h1, .inl h2, h3⟩
      | ty k => obtain ⟨p, ys, h1, h2, h3⟩ := gen (.ty k) run; exact ⟨p, ys, h1, .inl h2, h3⟩
      | cls h => obtain ⟨p, ys, h1, h2, h3⟩ := gen (.cls h) run; exact ⟨p, ys, h1, .inl h2, h3⟩
/-- abs, max, min of two ints -/
def bMax : List Vl → M Vl
  | [.int i, .int j] => ret (.int (if j > i then j else i))
  | _ => stuck
def bMin : List Vl → M Vl
  | [.int i, .int j] => ret (.int (if j < i then j else i))
  | _ => stuck
def bAbs : List Vl → M Vl
  | [.int i] => ret (.int (if i < 0 then -i else i))
  | _ => stuck
theorem am_max : AsM G (fun xs H Q => ∃ i j, xs = [V.int i, V.int j] ∧ Q (.int (if j > i then j else i)) H) bMax := by
  intro μ H S x v Q EQ rs rx run
  cases rx with
  | nil => exact run.no rfl
  | cons r t =>
    cases t with
    | nil => exact run.no (by cases r <;> rfl)
    | cons r2 t2 =>
      cases t2 with
      | cons _ _ => exact run.no (by cases r <;> cases r2 <;> rfl)
      | nil =>
        cases r <;> cases r2 <;> first | exact run.no rfl | skip
        exact ⟨_, _, rfl, run.ret (.int _) rs⟩
theorem am_min : AsM G (fun xs H Q => ∃ i j, xs = [V.int i, V.int j] ∧ Q (.int (if j < i then j else i)) H) bMin := by
  intro μ H S x v Q EQ rs rx run
  cases rx with
  | nil => exact run.no rfl
  | cons r t =>
    cases t with
    | nil => exact run.no (by cases r <;> rfl)
    | cons r2 t2 =>
      cases t2 with
      | cons _ _ => exact run.no (by cases r <;> cases r2 <;> rfl)
      | nil =>
        cases r <;> cases r2 <;> first | exact run.no rfl | skip
        exact ⟨_, _, rfl, run.ret (.int _) rs⟩
theorem am_abs : AsM G (fun xs H Q => ∃ i, xs = [V.int i] ∧ Q (.int (if i < 0 then -i else i)) H) bAbs := by
  intro μ H S x v Q EQ rs rx run
  cases rx with
  | nil => exact run.no rfl
  | cons r t =>
    cases t with
    | cons _ _ => exact run.no (by cases r <;> rfl)
    | nil =>
      cases r <;> first | exact run.no rfl | skip
      exact ⟨_, rfl, run.ret (.int _) rs⟩
/-- xs.append(e): the list is asked ahead of e -/
def isL (x : Vl) : M Unit := fun S => match x with
  | .loc n => match S[n]? with
    | some (.lst _) => some (.ok () S)
    | _ => none
  | _ => none
def mAppend : Vl → Vl → M Vl
  | .loc n, y => fun S => match S[n]? with
    | some (.lst xs) => if xs.length < line then some (.ok .non (S.set n (.lst (xs ++ [y])))) else none
    | _ => none
  | _, _ => stuck
def eApp (a b : Ev) : Ev := fun ρ => bnd (a ρ) fun x => bnd (isL x) fun _ => bnd (b ρ) fun y => mAppend x y
theorem Run.cong {α β : Type} {Rel : List Addr → Hp → α → β → Prop} {m m' : M α} {μ : List Addr} {H : Hp} {S : Store} {Q : β → Hp → Prop} {EQ : Str → List Addr → Hp → Store → Prop} (run : Run G Rel m μ H S Q EQ) (e : m' S = m S) : Run G Rel m' μ H S Q EQ := by
  obtain ⟨r, h, q⟩ := run
  exact ⟨r, e.trans h, q⟩
theorem isL_ok {μ H S} (rs : RS G μ H S) {x : Vl} {v : V} (rx : Rv G μ H x v) : isL x S = none ∨ isL x S = some (.ok () S) ∧ ∃ n a xs vs, x = .loc n ∧ v = .ref a ∧ μ[n]? = some a ∧ S[n]? = some (.lst xs) ∧ H a = some (.lst vs) ∧ Rvs G μ H xs vs := by
  cases rx with
  | loc h =>
    rename_i n a
    unfold isL
    dsimp only
    cases e : S[n]? with
    | none => exact .inl rfl
    | some o =>
      cases o with
      | dct => exact .inl rfl
      | lst xs =>
        obtain ⟨b, e1, vs, h1, r1⟩ := rs.ob n _ e
        rw [h] at e1; cases e1
        exact .inr ⟨rfl, n, a, xs, vs, rfl, rfl, h, e, h1, r1⟩
  | _ => exact .inl rfl
theorem xe_append {o e : Expr} {fo fe : Ev} {apos cpos : Pos} (ho : PE X o (T G W fo)) (he : PE X e (T G W fe)) (hK : G.K = X.K := by rfl)
    (hbase : attributeBase o "append" X.env (eval o X.env) = eval o X.env := by rfl)
    (hfew : ((backTo cpos (starEach [e] X.env)).all (fun x => !x.1) && (backToKw cpos (keywordEach [] X.env)).all (fun x => x.1.isSome)
      && decide ([e].length + ([] : List Keyword).length + (if ([] : List Keyword).isEmpty then 0 else 1) < 30)) = true := by rfl)
    (hline : (apos.endLine == cpos.line) = true := by rfl) (hs : starEach [e] X.env = (false, eval e X.env) :: starEach [] X.env := by rfl) (hplain : (backTo cpos (starEach [] X.env)).any (·.1) = false := by rfl) :
    PE X (.Call (.Attribute o "append" apos) [e] [] cpos) (T G W (eApp fo fe)) := by
  refine PE.imp (pe_bm PySem.F.plainAttrs_list PySem.F.slot_list_append PySem.F.type_list_append mt_append ho (pa_cons he pa_nil hs) hbase hfew hline hs hplain) ?_
  rintro σ H Q ⟨μ, ρ, S, rs, rr, run⟩
  refine T_bnd rs rr run fun v H1 μ1 x S1 g1 rx rs1 rr1 run1 => ?_
  rcases isL_ok rs1 rx with h | ⟨h, n, a, xs, vs, rfl, rfl, hn, hS, ha, rv⟩
  · exact run1.no (by simp only [bnd, h])
  · refine ⟨.inl ⟨rfl, vs, by rw [← hK]; exact .of ha⟩, ?_⟩
    have run1' : Run G (Rv G) (bnd (fe ρ) fun y => mAppend (.loc n) y) μ1 H1 S1 Q (EW G W σ) := run1.cong (by simp only [bnd, h])
    refine T_bnd rs1 rr1 run1' fun w H2 μ2 y S2 g2 ry rs2 rr2 run2 => ?_
    have hn2 := g2.pre _ _ hn
    cases e2 : S2[n]? with
    | none => exact run2.no (by simp only [mAppend, e2])
    | some ob =>
      cases ob with
      | dct => exact run2.no (by simp only [mAppend, e2])
      | lst ys =>
        obtain ⟨b, e3, ws, h3, r3⟩ := rs2.ob n _ e2
        rw [hn2] at e3; cases e3
        by_cases hz : ys.length < line
        · obtain ⟨rs3, g3⟩ := rs2.put e2 hn2 h3 (r3.app (.cons ry .nil))
          refine ⟨a, ws, w, rfl, rfl, h3, by rw [← r3.length, ← line_eq]; exact hz, ?_⟩
          exact run2.end_ (a := .non) (S1 := S2.set n (.lst (ys ++ [y]))) (by simp only [mAppend, e2, if_pos hz]) μ2 _ _ g3 .non rs3
        · exact run2.no (by simp only [mAppend, e2, if_neg hz])
end
end Tw
end

section
set_option Elab.async false
set_option maxRecDepth 100000
set_option maxHeartbeats 3000000
set_option autoImplicit true
set_option linter.all false
set_option relaxedAutoImplicit true
namespace Tw
open PySem L2
/-! ## 9. Statements: the runs -/
inductive Fl where
  | nx (ρ : Rho) | rt (v : Vl) | bk (ρ : Rho) | ct (ρ : Rho)
inductive SR where
  | ok (f : Fl) (S : Store)
  | er (c : Str) (ρ : Rho) (S : Store)
abbrev Sv := Rho → Store → Option SR
def sBnd {α : Type} (m : M α) (ρ : Rho) (k : α → Store → Option SR) : Store → Option SR := fun S => match m S with
  | some (.ok a S1) => k a S1
  | some (.er c S1) => some (.er c ρ S1)
  | none => none
def sNext : Sv := fun ρ S => some (.ok (.nx ρ) S)
def sBrk : Sv := fun ρ S => some (.ok (.bk ρ) S)
def sCont : Sv := fun ρ S => some (.ok (.ct ρ) S)
def sSeq (a b : Sv) : Sv := fun ρ S => match a ρ S with
  | some (.ok (.nx ρ1) S1) => b ρ1 S1
  | r => r
def sExpr (f : Ev) : Sv := fun ρ => sBnd (f ρ) ρ fun _ S => some (.ok (.nx ρ) S)
def sRet (f : Ev) : Sv := fun ρ => sBnd (f ρ) ρ fun v S => some (.ok (.rt v) S)
def sRetN : Sv := fun ρ S => some (.ok (.rt .non) S)
def sIf (t : Tv) (a b : Sv) : Sv := fun ρ => sBnd (t ρ) ρ fun c => if c = true then a ρ else b ρ
/-- a target: a slot; a tuple of targets -/
abbrev Tg := Vl → Rho → Option Rho
def gSlot (i : Nat) : Tg := fun x ρ => some (ρ.set i (some x))
def gsNil : List Vl → Rho → Option Rho := fun xs ρ => match xs with
  | [] => some ρ
  | _ => none
def gsCons (g : Tg) (r : List Vl → Rho → Option Rho) : List Vl → Rho → Option Rho := fun xs ρ => match xs with
  | x :: xs => match g x ρ with
    | some ρ1 => r xs ρ1
    | none => none
  | [] => none
def gPair (n : Nat) (r : List Vl → Rho → Option Rho) : Tg := fun x ρ => match x with
  | .tup xs => if xs.length = n then r xs ρ else none
  | _ => none
def sAsg (f : Ev) (g : Tg) : Sv := fun ρ => sBnd (f ρ) ρ fun v S => match g v ρ with
  | some ρ1 => some (.ok (.nx ρ1) S)
  | none => none
def sSet (i : Nat) (f : Ev) : Sv := sAsg f (gSlot i)
/-- o[i] = e -/
def mPut : Vl → Vl → Vl → M Unit
  | .loc n, .int k, v => fun S => match S[n]? with
    | some (.lst xs) => match ixN xs.length k with
      | some j => some (.ok () (S.set n (.lst (xs.set j v))))
      | none => none
    | _ => none
  | _, _, _ => stuck
def sPut (fo fi fe : Ev) : Sv := fun ρ => sBnd (fe ρ) ρ fun v => sBnd (fo ρ) ρ fun o => sBnd (fi ρ) ρ fun i => sBnd (mPut o i v) ρ fun _ S => some (.ok (.nx ρ) S)
def sAug (i : Nat) (g : Vl → Vl → M Vl) (f : Ev) : Sv := fun ρ => match ρ[i]? with
  | some (some x) => sBnd (f ρ) ρ fun y => sBnd (g x y) ρ fun z S => some (.ok (.nx (ρ.set i (some z))) S)
  | _ => fun _ => none
def sRaise (c : Str) : Sv := fun ρ S => some (.er c ρ S)
/-- no error comes out of it -/
def noEr : Option SR → Option SR
  | some (.ok f S) => some (.ok f S)
  | _ => none
/-- the clauses of a try: which errors each takes, and its suite -/
def hand : List ((Str → Option Bool) × Sv) → Str → Sv
  | [], c, ρ, S => some (.er c ρ S)
  | (t, h) :: r, c, ρ, S => match t c with
    | some true => noEr (h ρ S)
    | some false => hand r c ρ S
    | none => none
def sTry (b : Sv) (cs : List ((Str → Option Bool) × Sv)) : Sv := fun ρ S => match b ρ S with
  | some (.er c ρ1 S1) => hand cs c ρ1 S1
  | r => r
/-- the items one by one -/
def loop (g : Tg) (b : Sv) : List Vl → Sv
  | [], ρ, S => some (.ok (.nx ρ) S)
  | x :: xs, ρ, S => match g x ρ with
    | none => none
    | some ρ0 => match b ρ0 S with
      | some (.ok (.nx ρ1) S1) => loop g b xs ρ1 S1
      | some (.ok (.ct ρ1) S1) => loop g b xs ρ1 S1
      | some (.ok (.bk ρ1) S1) => some (.ok (.nx ρ1) S1)
      | some (.ok (.rt v) S1) => some (.ok (.rt v) S1)
      | some (.er c ρ1 S1) => some (.er c ρ1 S1)
      | none => none
open Classical in
/-- .. of a list that stays as it is -/
noncomputable def loopL (n : Nat) (o : Ob) (g : Tg) (b : Sv) : List Vl → Sv
  | [], ρ, S => if S[n]? = some o then some (.ok (.nx ρ) S) else none
  | x :: xs, ρ, S => if S[n]? = some o then match g x ρ with
    | none => none
    | some ρ0 => match b ρ0 S with
      | some (.ok (.nx ρ1) S1) => loopL n o g b xs ρ1 S1
      | some (.ok (.ct ρ1) S1) => loopL n o g b xs ρ1 S1
      | some (.ok (.bk ρ1) S1) => some (.ok (.nx ρ1) S1)
      | some (.ok (.rt v) S1) => some (.ok (.rt v) S1)
      | some (.er c ρ1 S1) => some (.er c ρ1 S1)
      | none => none
    else none
noncomputable def sFor (f : Ev) (g : Tg) (b : Sv) : Sv := fun ρ => sBnd (f ρ) ρ fun x => match x with
  | .tup xs => loop g b xs ρ
  | .frz xs => loop g b xs ρ
  | .loc n => fun S => match S[n]? with
    | some (.lst xs) => loopL n (.lst xs) g b xs ρ S
    | _ => none
  | _ => fun _ => none
def irange (lo : Int) (n : Nat) : List Vl := (List.range n).map fun k => .int (lo + (k : Nat))
def sForR1 (f : Ev) (g : Tg) (b : Sv) : Sv := fun ρ => sBnd (f ρ) ρ fun x => match x with
  | .int j => if -(2 ^ 62) ≤ j ∧ j < 2 ^ 62 then loop g b (irange 0 j.toNat) ρ else fun _ => none
  | _ => fun _ => none
def sForR2 (f f2 : Ev) (g : Tg) (b : Sv) : Sv := fun ρ => sBnd (f ρ) ρ fun x => sBnd (f2 ρ) ρ fun y => match x, y with
  | .int i, .int j => if -(2 ^ 62) ≤ i ∧ i < 2 ^ 62 ∧ -(2 ^ 62) ≤ j ∧ j < 2 ^ 62 then loop g b (irange i (j - i).toNat) ρ else fun _ => none
  | _, _ => fun _ => none
/-- a def of ar parameters and n names -/
def fnM (ar n : Nat) (b : Sv) : List Vl → M Vl := fun xs S => if xs.length = ar then
    match b (xs.map some ++ List.replicate (n - xs.length) none) S with
    | some (.ok (.nx _) S1) => some (.ok .non S1)
    | some (.ok (.rt v) S1) => some (.ok v S1)
    | some (.er c _ S1) => some (.er c S1)
    | _ => none
  else none

/-! ## 10. Held against a reading -/
def RunS (G : GG) (W : WX) (m : Store → Option SR) (μ : List Addr) (H : Hp) (S : Store) (D : Ends) : Prop :=
  ∃ r, m S = some r ∧ match r with
    | .ok (.nx ρ') S' => ∀ μ' H' σ', Gr μ H μ' H' → RS G μ' H' S' → RR G μ' H' ρ' σ' → D.nx σ' H'
    | .ok (.rt x) S' => ∀ μ' H' v, Gr μ H μ' H' → RS G μ' H' S' → Rv G μ' H' x v → D.rt v H'
    | .ok (.bk ρ') S' => ∀ μ' H' σ', Gr μ H μ' H' → RS G μ' H' S' → RR G μ' H' ρ' σ' → D.bk σ' H'
    | .ok (.ct ρ') S' => ∀ μ' H' σ', Gr μ H μ' H' → RS G μ' H' S' → RR G μ' H' ρ' σ' → D.ct σ' H'
    | .er c ρ' S' => ∀ μ' H' σ', Gr μ H μ' H' → RS G μ' H' S' → RR G μ' H' ρ' σ' → ∃ C, G.mg c = some (.ref C) ∧ W (.ref C) none σ' H'
def TSt (G : GG) (W : WX) (f : Sv) : TS := fun D σ H => ∃ μ ρ S, RS G μ H S ∧ RR G μ H ρ σ ∧ RunS G W (f ρ) μ H S D
theorem RunS.no {G W m μ H S D} {P : Prop} (h : RunS G W m μ H S D) (e : m S = none) : P := by
  obtain ⟨r, q, _⟩ := h
  rw [e] at q; cases q
theorem RunS.cong {G W m m' μ H S D} (h : RunS G W m μ H S D) (e : m' S = m S) : RunS G W m' μ H S D := by
  obtain ⟨r, q, z⟩ := h
  exact ⟨r, e.trans q, z⟩
/-- from a later place -/
theorem RunS.later {G W m μ H S D μ0 H0} (h : RunS G W m μ0 H0 S D) (g : Gr μ0 H0 μ H) : RunS G W m μ H S D := by
  obtain ⟨r, q, z⟩ := h
  refine ⟨r, q, ?_⟩
  cases r with
  | ok f S1 =>
    cases f with
    | nx ρ => exact fun μ' H' σ' g' => z μ' H' σ' (g.trans g')
    | rt v => exact fun μ' H' σ' g' => z μ' H' σ' (g.trans g')
    | bk ρ => exact fun μ' H' σ' g' => z μ' H' σ' (g.trans g')
    | ct ρ => exact fun μ' H' σ' g' => z μ' H' σ' (g.trans g')
  | er c ρ S1 => exact fun μ' H' σ' g' => z μ' H' σ' (g.trans g')
theorem Run.sbnd {α β : Type} {G W} {Rel : List Addr → Hp → α → β → Prop} {m : M α} {ρ : Rho} {k : α → Store → Option SR} {μ H S D σ} (rr : RR G μ H ρ σ) (h : RunS G W (sBnd m ρ k) μ H S D) :
    Run G Rel m μ H S (fun v H1 => ∃ μ1 a S1, Gr μ H μ1 H1 ∧ Rel μ1 H1 a v ∧ RS G μ1 H1 S1 ∧ RR G μ1 H1 ρ σ ∧ RunS G W (k a) μ1 H1 S1 D) (EW G W σ) := by
  obtain ⟨r, e, h⟩ := h
  unfold sBnd at e
  cases q : m S with
  | none => rw [q] at e; cases e
  | some r1 =>
    rw [q] at e
    cases r1 with
    | ok a S1 => exact ⟨_, q, fun μ1 H1 v g rel rs => ⟨μ1, a, S1, g, rel, rs, rr.up g, RunS.later ⟨r, e, h⟩ g⟩⟩
    | er c S1 =>
      cases e
      exact ⟨_, q, fun μ1 H1 g rs => h μ1 H1 σ g rs (rr.up g)⟩
section
variable {G : GG} {W : WX} {X : Cx} {σ : St} {H : Hp}
theorem Ts_bnd {fa : Ev} {μ ρ S D} {k : Vl → Store → Option SR} {P : V → Hp → Prop} (rs : RS G μ H S) (rr : RR G μ H ρ σ) (run : RunS G W (sBnd (fa ρ) ρ k) μ H S D)
    (h : ∀ v H1 μ1 x S1, Gr μ H μ1 H1 → Rv G μ1 H1 x v → RS G μ1 H1 S1 → RR G μ1 H1 ρ σ → RunS G W (k x) μ1 H1 S1 D → P v H1) : T G W fa σ H P :=
  ⟨μ, ρ, S, rs, rr, (Run.sbnd rr run).imp (fun v H1 ⟨μ1, x, S1, g, rx, rs1, rr1, r1⟩ => h v H1 μ1 x S1 g rx rs1 rr1 r1) fun _ _ _ _ z => z⟩
end
end Tw
end

section
set_option Elab.async false
set_option maxRecDepth 100000
set_option maxHeartbeats 3000000
set_option autoImplicit true
set_option linter.all false
set_option relaxedAutoImplicit true
namespace Tw
open PySem L2
/-! ## 11. Statements: their rules -/
/-- where a piece of the program stands -/
structure At (X : Cx) (G : GG) (W : WX) (k : Nat) : Prop where
  K : G.K = X.K
  mg : G.mg = X.mg
  room : Room k X.A
  calm : X.calm = true
  tk : Takes X W
  own : PassesOwn (model X.prog X.w) X.A X.env X.xe
  nd : X.N.Nodup
  gd : X.A.guards = some []
section
variable {G : GG} {W : WX} {X : Cx} {k : Nat} {e : Expr} {f : Ev} {fs : Evs} {pos : Pos} {st : Stmt} {rest : List Stmt} {a b : Sv}
theorem xs_nil : PSs X [] (TSt G W sNext) := by
  refine PSs.imp pss_nil ?_
  rintro D σ H ⟨μ, ρ, S, rs, rr, r, e, h⟩
  cases e
  exact h μ H σ .refl rs rr
theorem RunS.seq {μ H S D} {m : Store → Option SR} {b : Sv} (h : RunS G W (fun S => match m S with | some (.ok (.nx ρ1) S1) => b ρ1 S1 | r => r) μ H S D) :
    RunS G W m μ H S { D with nx := TSt G W b D } := by
  obtain ⟨r, e, h⟩ := h
  cases q : m S with
  | none => simp only [q] at e; cases e
  | some r1 =>
    refine ⟨r1, q, ?_⟩
    simp only [q] at e
    cases r1 with
    | er c ρ S1 => cases e; exact h
    | ok fl S1 =>
      cases fl with
      | nx ρ => exact fun μ' H' σ' g rs rr => ⟨μ', ρ, S1, rs, rr, RunS.later ⟨r, e, h⟩ g⟩
      | rt v => cases e; exact h
      | bk ρ => cases e; exact h
      | ct ρ => cases e; exact h
theorem xs_cons (h1 : PS X st (TSt G W a)) (h2 : PSs X rest (TSt G W b)) : PSs X (st :: rest) (TSt G W (sSeq a b)) := by
  refine PSs.imp (pss_cons h1 h2) ?_
  rintro D σ H ⟨μ, ρ, S, rs, rr, run⟩
  exact ⟨μ, ρ, S, rs, rr, RunS.seq run⟩
theorem xs_one (h1 : PS X st (TSt G W a)) : PSs X [st] (TSt G W a) := pss_one h1
theorem xs_pass : PS X (.Pass pos) (TSt G W sNext) := by
  refine PS.imp ps_pass ?_
  rintro D σ H ⟨μ, ρ, S, rs, rr, r, e, h⟩
  cases e
  exact h μ H σ .refl rs rr
theorem xs_break : PS X (.Break pos) (TSt G W sBrk) := by
  refine PS.imp ps_break ?_
  rintro D σ H ⟨μ, ρ, S, rs, rr, r, e, h⟩
  cases e
  exact h μ H σ .refl rs rr
theorem xs_continue : PS X (.Continue pos) (TSt G W sCont) := by
  refine PS.imp ps_continue ?_
  rintro D σ H ⟨μ, ρ, S, rs, rr, r, e, h⟩
  cases e
  exact h μ H σ .refl rs rr
theorem xs_expr (he : PE X e (T G W f)) (hs : swapsWith e none pos.line X.env = pure false := by rfl) : PS X (.Expr e pos) (TSt G W (sExpr f)) := by
  refine PS.imp (ps_expr he hs) ?_
  rintro D σ H ⟨μ, ρ, S, rs, rr, run⟩
  refine Ts_bnd rs rr run fun v H1 μ1 x S1 g1 rx rs1 rr1 run1 => ?_
  obtain ⟨r, e, h⟩ := run1
  cases e
  exact h μ1 H1 σ .refl rs1 rr1
theorem xs_ret (he : PE X e (T G W f)) : PS X (.Return (some e) pos) (TSt G W (sRet f)) := by
  refine PS.imp (ps_ret he) ?_
  rintro D σ H ⟨μ, ρ, S, rs, rr, run⟩
  refine Ts_bnd rs rr run fun v H1 μ1 x S1 g1 rx rs1 rr1 run1 => ?_
  obtain ⟨r, e, h⟩ := run1
  cases e
  exact h μ1 H1 v .refl rs1 rx
theorem xs_retN : PS X (.Return none pos) (TSt G W sRetN) := by
  refine PS.imp ps_retN ?_
  rintro D σ H ⟨μ, ρ, S, rs, rr, r, e, h⟩
  cases e
  exact h μ H .non .refl rs .non
theorem xs_if {c : Expr} {t : Tv} {as bs : List Stmt} (hc : PT X c (TTs G W t)) (ha : PSs X as (TSt G W a)) (hb : PSs X bs (TSt G W b)) : PS X (.If c as bs pos) (TSt G W (sIf t a b)) := by
  refine PS.imp (ps_if hc ha hb) ?_
  rintro D σ H ⟨μ, ρ, S, rs, rr, run⟩
  refine ⟨μ, ρ, S, rs, rr, (Run.sbnd (Rel := fun _ _ a b => a = b) rr run).imp (fun c H1 ⟨μ1, c', S1, g, rc, rs1, rr1, run1⟩ => ?_) fun _ _ _ _ z => z⟩
  subst rc
  cases c' with
  | true => exact iteT ⟨μ1, ρ, S1, rs1, rr1, run1⟩
  | false => exact iteF ⟨μ1, ρ, S1, rs1, rr1, run1⟩
/-- targets -/
def TGm (G : GG) (g : Tg) : TG := fun v σ H Q => ∃ μ ρ S x ρ', RS G μ H S ∧ RR G μ H ρ σ ∧ Rv G μ H x v ∧ g x ρ = some ρ' ∧ ∀ σ', RR G μ H ρ' σ' → Q σ' H
def TGsm (G : GG) (g : List Vl → Rho → Option Rho) : TGs := fun v σ H Q => ∃ μ ρ S x ρ', RS G μ H S ∧ RR G μ H ρ σ ∧ Rvs G μ H x v ∧ g x ρ = some ρ' ∧ ∀ σ', RR G μ H ρ' σ' → Q σ' H
theorem PG.imp {t t' : TG} (h : PG X e t) (i : ∀ v σ H Q, t' v σ H Q → t v σ H Q) : PG X e t' := ⟨fun pins s σ H v u Q I r q => h.run pins s σ H v u Q I r (i _ _ _ _ q)⟩
theorem PGs.imp {es : List Expr} {t t' : TGs} (h : PGs X es t) (i : ∀ v σ H Q, t' v σ H Q → t v σ H Q) : PGs X es t' := ⟨fun pins s σ H v u Q I r q => h.run pins s σ H v u Q I r (i _ _ _ _ q)⟩
theorem xg_slot (i : Nat) {x : Str} (hN : X.N.Nodup) (hi : X.N[i]? = some x := by rfl) (hx : Loc X.env.scope x := by first | exact Or.inl rfl | exact Or.inr rfl)
    (hf : X.fn x = true ∨ X.env.scope.names.lookup x = some .local := by first | exact .inl rfl | exact .inr rfl) : PG X (.Name x pos) (TGm G (gSlot i)) := by
  refine PG.imp (pg_name hN hi hx hf) ?_
  rintro v σ H Q ⟨μ, ρ, S, x, ρ', rs, rr, rx, e, h⟩
  cases e
  exact h _ (rr.set rx i)
theorem xgs_nil : PGs X [] (TGsm G gsNil) := by
  refine PGs.imp pgs_nil ?_
  rintro v σ H Q ⟨μ, ρ, S, x, ρ', rs, rr, rx, e, h⟩
  cases rx with
  | nil => cases e; exact ⟨rfl, h _ rr⟩
  | cons _ _ => cases e
theorem xgs_cons {es : List Expr} {g : Tg} {r : List Vl → Rho → Option Rho} (h1 : PG X e (TGm G g)) (h2 : PGs X es (TGsm G r))
    (hs : (assignEach (e :: es) X.env).map (·.2) = assign e X.env :: (assignEach es X.env).map (·.2) := by rfl) : PGs X (e :: es) (TGsm G (gsCons g r)) := by
  refine PGs.imp (pgs_cons h1 h2 hs) ?_
  rintro v σ H Q ⟨μ, ρ, S, x, ρ', rs, rr, rx, e, h⟩
  cases rx with
  | nil => cases e
  | cons rx rt =>
    rename_i x v xs vs
    unfold gsCons at e
    dsimp only at e
    cases q : g x ρ with
    | none => rw [q] at e; cases e
    | some ρ1 =>
      rw [q] at e
      exact ⟨v, vs, rfl, μ, ρ, S, x, ρ1, rs, rr, rx, q, fun σ1 rr1 => ⟨μ, ρ1, S, xs, ρ', rs, rr1, rt, e, h⟩⟩
theorem xg_pair {es : List Expr} {j n : Nat} {r : List Vl → Rho → Option Rho} (hK : G.K = X.K) (hc : X.calm = true) (h : PGs X es (TGsm G r)) (hn : (assignEach es X.env).length = n := by rfl)
    (hst : (assignEach es X.env).findIdx? (·.1) = none := by rfl) : PG X (.Tuple es j pos) (TGm G (gPair n r)) := by
  refine PG.imp (pg_tup hc h hn hst) ?_
  rintro v σ H Q ⟨μ, ρ, S, x, ρ', rs, rr, rx, e, h⟩
  unfold gPair at e
  cases rx with
  | tup ht rt =>
    rename_i xs vs a
    dsimp only at e
    by_cases hl : xs.length = n
    · rw [if_pos hl] at e
      exact ⟨a, vs, rfl, by rw [← hK]; exact ht, by rw [← rt.length]; exact hl, μ, ρ, S, xs, ρ', rs, rr, rt, e, h⟩
    · rw [if_neg hl] at e; cases e
  | _ => cases e
theorem TGm.nx {g : Tg} {μ ρ S D x v} (rs : RS G μ H S) (rr : RR G μ H ρ σ) (rx : Rv G μ H x v) (run : RunS G W (fun S => match g x ρ with | some ρ1 => some (.ok (.nx ρ1) S) | none => none) μ H S D) : TGm G g v σ H D.nx := by
  obtain ⟨r, e, h⟩ := run
  cases q : g x ρ with
  | none => simp only [q] at e; cases e
  | some ρ1 =>
    simp only [q] at e
    cases e
    exact ⟨μ, ρ, S, x, ρ1, rs, rr, rx, q, fun σ' rr' => h μ H σ' .refl rs rr'⟩
theorem xs_asg {tg : Expr} {g : Tg} (he : PE X e (T G W f)) (hg : PG X tg (TGm G g)) (hs : swapsWithSole [tg] e pos.line X.env = pure false := by rfl) (hw : swappedStores [tg] e X.env = pure none := by rfl)
    (h1 : (assignEach [tg] X.env).map (·.2) = [assign tg X.env] := by rfl) : PS X (.Assign [tg] e pos) (TSt G W (sAsg f g)) := by
  refine PS.imp (ps_asg he hg hs hw h1) ?_
  rintro D σ H ⟨μ, ρ, S, rs, rr, run⟩
  refine Ts_bnd rs rr run fun v H1 μ1 x S1 g1 rx rs1 rr1 run1 => ?_
  exact TGm.nx rs1 rr1 rx run1
theorem xs_set (i : Nat) {x : Str} {pos' : Pos} (hN : X.N.Nodup) (he : PE X e (T G W f)) (hi : X.N[i]? = some x := by rfl) (hx : Loc X.env.scope x := by first | exact Or.inl rfl | exact Or.inr rfl)
    (hs : swapsWith e (some (.Name x pos')) pos.line X.env = pure false := by rfl) (hf : X.fn x = true ∨ X.env.scope.names.lookup x = some .local := by first | exact .inl rfl | exact .inr rfl) :
    PS X (.Assign [.Name x pos'] e pos) (TSt G W (sSet i f)) := by
  refine PS.imp (ps_set hN hi hx he hs hf) ?_
  rintro D σ H ⟨μ, ρ, S, rs, rr, run⟩
  refine Ts_bnd rs rr run fun v H1 μ1 x S1 g1 rx rs1 rr1 run1 => ?_
  obtain ⟨r, e, h⟩ := run1
  cases e
  exact h μ1 H1 _ .refl rs1 (rr1.set rx i)
theorem xs_put {o i : Expr} {fo fi : Ev} {pos2 : Pos} (ho : PE X o (T G W fo)) (hi : PE X i (T G W fi)) (he : PE X e (T G W f))
    (ha : ∀ v, assign (.Subscript o i pos2) X.env v = (do
      let ov ← holding [v] (eval o X.env)
      let iv ← holding [v, ov] (eval i X.env)
      standAt pos2; holding [v, ov, iv] (setItem ov iv v)
      release [v, ov, iv] []) := by intro _; rfl)
    (hs : swapsWithSole [.Subscript o i pos2] e pos.line X.env = pure false := by rfl) (hw : swappedStores [.Subscript o i pos2] e X.env = pure none := by rfl)
    (h1 : (assignEach [.Subscript o i pos2] X.env).map (·.2) = [assign (.Subscript o i pos2) X.env] := by rfl) : PS X (.Assign [.Subscript o i pos2] e pos) (TSt G W (sPut fo fi f)) := by
  refine PS.imp (ps_asg he (pg_sub ho hi set_list ha) hs hw h1) ?_
  rintro D σ H ⟨μ, ρ, S, rs, rr, run⟩
  refine Ts_bnd rs rr run fun v H1 μ1 x S1 g1 rx rs1 rr1 run1 => ?_
  refine Ts_bnd rs1 rr1 run1 fun ov H2 μ2 y S2 g2 ry rs2 rr2 run2 => ?_
  refine Ts_bnd rs2 rr2 run2 fun iv H3 μ3 z S3 g3 rz rs3 rr3 run3 => ?_
  have ry3 := ry.up g3
  have rx3 := rx.up (g2.trans g3)
  cases ry3 <;> first | exact run3.no rfl | skip
  rename_i n a hn
  cases rz <;> first | exact run3.no rfl | skip
  rename_i j
  have hm : mPut (.loc n) (.int j) x S3 = match S3[n]? with
      | some (.lst xs) => match ixN xs.length j with
        | some i => some (.ok () (S3.set n (.lst (xs.set i x))))
        | none => none
      | _ => none := rfl
  cases e3 : S3[n]? with
  | none => exact run3.no (by simp only [sBnd, hm, e3])
  | some ob =>
    cases ob with
    | dct => exact run3.no (by simp only [sBnd, hm, e3])
    | lst xs =>
      obtain ⟨b, q, vs, h3, r3⟩ := rs3.ob n _ e3
      rw [hn] at q; cases q
      cases e4 : ixN xs.length j with
      | none => exact run3.no (by simp only [sBnd, hm, e3, e4])
      | some i =>
        refine ⟨a, vs, j, i, rfl, rfl, h3, by rw [← r3.length]; exact e4, ?_⟩
        obtain ⟨rs4, g4⟩ := rs3.put e3 hn h3 (r3.set rx3 i)
        obtain ⟨r, e, h⟩ := run3
        simp only [sBnd, hm, e3, e4] at e
        cases e
        exact h μ3 _ σ g4 rs4 (rr3.up g4)
/-- name op= e, ints -/
def IpM (G : GG) (r : TIp) (g : Vl → Vl → M Vl) : Prop := ∀ (μ : List Addr) (H : Hp) (S : Store) (x y : Vl) (v w : V) (Q : VK) (EQ : Str → List Addr → Hp → Store → Prop),
  RS G μ H S → Rv G μ H x v → Rv G μ H y w → Run G (Rv G) (g x y) μ H S Q EQ → r v w H Q
def iAdd : Vl → Vl → M Vl
  | .int i, .int j => ret (.int (i + j))
  | _, _ => stuck
theorem im_add : IpM G (ipI fun i j => i + j) iAdd := by
  intro μ H S x y v w Q EQ rs rx ry run
  cases rx <;> cases ry <;> first | exact run.no rfl | skip
  exact ⟨_, _, rfl, rfl, run.ret (.int _) rs⟩
theorem im_sub : IpM G (ipI fun i j => i - j) oSub := by
  intro μ H S x y v w Q EQ rs rx ry run
  cases rx <;> cases ry <;> first | exact run.no rfl | skip
  exact ⟨_, _, rfl, rfl, run.ret (.int _) rs⟩
theorem xs_aug (i : Nat) {x : Str} {op : Operator} {ti : TIp} {g : Vl → Vl → M Vl} {pos' : Pos} (hm : IpM G ti g) (ho : PIp X op ti) (hN : X.N.Nodup) (he : PE X e (T G W f)) (hi : X.N[i]? = some x := by rfl) (hx : Loc X.env.scope x := by first | exact Or.inl rfl | exact Or.inr rfl)
    (hf : X.fn x = true ∨ X.env.scope.names.lookup x = some .local := by first | exact .inl rfl | exact .inr rfl) : PS X (.AugAssign (.Name x pos') op e pos) (TSt G W (sAug i g f)) := by
  refine PS.imp (ps_aug hN hi hx he ho hf) ?_
  rintro D σ H ⟨μ, ρ, S, rs, rr, run⟩
  unfold sAug at run
  split at run
  · rename_i x0 e0
    obtain ⟨v, h1, h2⟩ := rr.at_ i x0 e0
    refine ⟨v, h1, Ts_bnd rs rr run fun w H1 μ1 y S1 g1 ry rs1 rr1 run1 => ?_⟩
    have rx1 := h2.up g1
    refine hm μ1 H1 S1 x0 y v w _ (EW G W σ) rs1 rx1 ry ((Run.sbnd rr1 run1).imp (fun z H2 ⟨μ2, z', S2, g2, rz, rs2, rr2, run2⟩ => ?_) fun _ _ _ _ z => z)
    obtain ⟨r, e, h⟩ := run2
    cases e
    exact h μ2 H2 _ .refl rs2 (rr2.set rz i)
  · exact run.no rfl

/-! ## 12. Calls of the text's own defs, errors -/
/-- a def's promise: it is the run f -/
def spM (G : GG) (f : List Vl → M Vl) : Sp := fun vs H Q E => ∃ μ xs S, RS G μ H S ∧ Rvs G μ H xs vs ∧ Run G (Rv G) (f xs) μ H S Q (fun c _ H' _ => ∃ C, G.mg c = some (.ref C) ∧ E (.ref C) none H')
theorem start_rr {ps : List Str} {N : List Str} {μ xs vs} (r : Rvs G μ H xs vs) : RR G μ H (xs.map some ++ List.replicate (N.length - xs.length) none) (L2.start N vs) := by
  have hl := r.length
  refine ⟨by unfold L2.start; simp [hl], fun i x e => ?_⟩
  unfold L2.start
  by_cases hi : i < xs.length
  · rw [List.getElem?_append_left (by simpa using hi), List.getElem?_map] at e
    cases q : xs[i]? with
    | none => rw [q] at e; cases e
    | some y =>
      rw [q] at e
      cases e
      obtain ⟨v, h1, h2⟩ := r.get q
      refine ⟨v, ?_, h2⟩
      rw [List.getElem?_append_left (by simpa [← hl] using hi), List.getElem?_map, h1]
      rfl
  · rw [List.getElem?_append_right (by simpa using hi)] at e
    rw [List.getElem?_replicate] at e
    split at e <;> cases e
/-- a def keeps its promise, where no repr runs around it -/
structure FnG (P : Program) (w : PySem.World) (K : PySem.W.Frag) (mg : Str → Option Value) (base : Heap) (k : Nat) (f : Addr) (fd : FuncData) (ps : List Str) (sp : Sp) : Prop where
  len : ∀ vs H Q E, sp vs H Q E → vs.length = ps.length
  run : ∀ (A : Around) (outer : List Env) (s : Shared) (H : Hp) (args : Args) (us : List Value) (vs : List V) (Q : VK) (E : XK), Room k A → A.guards = some [] → Env0 P w K mg base A outer s H →
    BindsTo s fd args (ps.zip us) → Vals vs us → sp vs H Q E → codeAny (model P w) A (.call (.ref f) args) (CR (L2.CX P w) outer P w H s Q E) s
theorem FnG.mono {P : Program} {w : PySem.World} {K : PySem.W.Frag} {mg : Str → Option Value} {base : Heap} {i j : Nat} {f : Addr} {fd : FuncData} {ps : List Str} {sp : Sp} (F : FnG P w K mg base i f fd ps sp) (h : i ≤ j) : FnG P w K mg base j f fd ps sp :=
  ⟨F.len, fun A outer s H args us vs Q E hr => F.run A outer s H args us vs Q E (hr.mono h)⟩
/-- how the call's end is told by the body's -/
theorem end_cr {P : Program} {w : PySem.World} {outer : List Env} {H : Hp} {s s' : Shared} {Q : VK} {E : XK} {X : Cx} (hp : X.prog = P) (hw : X.w = w) (ho : X.outer = outer) (he : X.ex = []) (h0 : X.H_0 = H) (s0 : X.s_0 = s) {fl : Flow}
    (h : SP X [] { nx := fun _ H' => Q .non H', rt := Q } fl s') : CR (L2.CX P w) outer P w H s Q E (.ok (match fl with | .ret u => .ret u | .next => .ret .none | .brk => .brk | .cont => .cont)) s' := by
  have fin : ∀ (σ : St) (H' : Hp) (v : V) (u : Value), Inv X [] σ H' s' → RelV v u → Q v H' → CE outer P w H s Q u s' := fun σ H' v u J rv q => by
    have hb := J.base
    have hk := J.hok
    have h1 := J.os
    rw [he, h0, s0] at hb
    rw [hp, hw] at hk
    rw [s0] at h1
    have hf : X.fs = frs outer := by show frs X.outer = _; rw [ho]
    rw [hf] at hb
    exact ⟨v, H', h1, J.bare, hb, hk, rv, q⟩
  cases fl with
  | ret u => obtain ⟨v, σ, H', J, rv, q⟩ := h; exact fin σ H' v u J rv q
  | next => obtain ⟨σ, H', J, q⟩ := h; exact fin σ H' .non .none J rfl q
  | brk => obtain ⟨_, _, _, q⟩ := h; exact q.elim
  | cont => obtain ⟨_, _, _, q⟩ := h; exact q.elim
theorem fn_ok {P : Program} {w : PySem.World} {K : PySem.W.Frag} {mg : Str → Option Value} {base : Heap} {tabs : List Addr} {qual : Str} {N ps : List Str} {ad : Addr} {b : Sv} {name : Str} {params : Arguments} {body : List Stmt} {scope : Scope} {dV kV doc pm cdv ct oc : Value} {an od : Option Addr}
    {osl : Array (Option Value)} (lk : K.lookup ad = some ⟨oc, od, .func (PySem.W.fnOf name qual params body scope dV kV doc pm an cdv ct), osl⟩) (hcd : PySem.W.codeIn K cdv qual = true) (sc : FnScope N ps scope)
    (hbody : ∀ (X : Cx) (W : WX) (A : Around) (outer : List Env) (s : Shared) (H : Hp) (E : XK), X = cxOf (L2.CX P w) P w K mg base N qual scope ad cdv A outer s H E → At X ⟨K, mg, tabs⟩ W k →
      PSs X body (TSt ⟨K, mg, tabs⟩ W b)) : FnG P w K mg base (k + 1) ad (PySem.W.fnOf name qual params body scope dV kV doc pm an cdv ct) ps (spM ⟨K, mg, tabs⟩ (fnM ps.length N.length b)) := by
  have hlen : ∀ vs H Q E, spM ⟨K, mg, tabs⟩ (fnM ps.length N.length b) vs H Q E → vs.length = ps.length := fun vs H Q E h => by
    obtain ⟨μ, xs, S, rs, rx, r, e, _⟩ := h
    rw [← rx.length]
    unfold fnM at e
    by_cases hl : xs.length = ps.length
    · exact hl
    · rw [if_neg hl] at e; cases e
  refine ⟨hlen, fun A outer s H args us vs Q E hr hgd e0 hb r hsp => ?_⟩
  have hl0 := hlen vs H Q E hsp
  have keepB : ∀ b o, base.get? b = some o → s.heap.get? b = some o := fun b o e => (e0.bs b o e).1
  refine codeAny_call_function hr.depth ((e0.mod.kin.keeps keepB) _ _ lk) rfl sc.co sc.gen rfl (PySem.W.codeRec_of (e0.mod.kin.keeps keepB) hcd) (hb _ _ _ _ (wpAny_newFunctionEnv_cells sc.kind (fun y hy => ?_) fun env he s1 x => ?_))
  · rcases sc.par y.1 (List.of_mem_zip (show (y.1, y.2) ∈ ps.zip us from hy)).1 with q | q
    · exact .inl q
    · exact .inr ⟨q, PySem.W.cellsFrom_some _ _ _ (.inl q)⟩
  subst he
  refine ⟨(e0.mod.nolimit.keeps keepB).keeps x.toInCall.keep, codeAny_func ?_⟩
  have hbd := hbody _ (fun cls d _ H' => E cls d H') A outer s H E rfl ⟨rfl, rfl, hr.deeper _, rfl, takes_of rfl rfl rfl rfl, passes_of (X := cxOf (L2.CX P w) P w K mg base N qual scope ad cdv A outer s H E) (K := fun e s'' => L2.CX P w outer H s E e s'') rfl, sc.nd, hgd⟩
  have hst : TSt ⟨K, mg, tabs⟩ (fun cls d _ H' => E cls d H') b { nx := fun _ H' => Q .non H', rt := Q } (L2.start N vs) H := by
    obtain ⟨μ, xs, S, rs, rx, r, e, h⟩ := hsp
    refine ⟨μ, _, S, rs, start_rr (ps := ps) (N := N) rx, ?_⟩
    unfold fnM at e
    by_cases hl : xs.length = ps.length
    · rw [if_pos hl] at e
      cases q : b (xs.map some ++ List.replicate (N.length - xs.length) none) S with
      | none => rw [q] at e; cases e
      | some r1 =>
        refine ⟨r1, q, ?_⟩
        rw [q] at e
        cases r1 with
        | er c ρ S1 => cases e; exact fun μ' H' σ' g rs' _ => h μ' H' g rs'
        | ok fl S1 =>
          cases fl with
          | nx ρ => cases e; exact fun μ' H' σ' g rs' _ => h μ' H' .non g .non rs'
          | rt v => cases e; exact fun μ' H' v' g rs' rv => h μ' H' v' g rv rs'
          | bk ρ => cases e
          | ct ρ => cases e
    · rw [if_neg hl] at e; cases e
  have I0 := inv_start (CX := L2.CX P w) (E := E) sc hr.hd e0 hl0 r x
  refine wpAny_mono (hbd.run [] s1 (L2.start N vs) H _ I0 hst) (fun fl s' hs => ?_) fun e s' hs => hs
  have hx := end_cr (P := P) (w := w) (outer := outer) (H := H) (s := s) (E := E) rfl rfl rfl rfl rfl rfl hs
  cases fl with
  | ret u => exact hx
  | next => exact hx
  | brk => obtain ⟨_, _, _, q⟩ := hs; exact q.elim
  | cont => obtain ⟨_, _, _, q⟩ := hs; exact q.elim
/-- a def that may be called: name, parameters, what it runs -/
def Def (P : Program) (w : PySem.World) (K : PySem.W.Frag) (mg : Str → Option Value) (base : Heap) (tabs : List Addr) (k : Nat) (x : Str) (ps : List Str) (g : List Vl → M Vl) : Prop :=
  ∃ f fd, mg x = some (.ref f) ∧ PySem.W.keepIn K (.ref f) = true ∧ Binds K fd ps [] ∧ FnG P w K mg base k f fd ps (spM ⟨K, mg, tabs⟩ g)
theorem passes_at {W : WX} (tk : Takes X W) (σ : St) : PassesAt (L2.CX X.prog X.w) X σ (WE W σ) := passAt tk σ
theorem run_def {pins : List (Addr × Obj)} {s : Shared} {Q : VK} {us : List Value} {vs : List V} {f0 : Addr} {fd : FuncData} {ps : List Str} {sp : Sp} {j : Nat} {σ : St} {H : Hp} (at_ : At X G W k) (F : FnG X.prog X.w X.K X.mg X.base j f0 fd ps sp) (hj : j ≤ k) (hb : Binds X.K fd ps [])
    (I : Inv X pins σ H s) (r : Vals vs us) (h : sp vs H Q (WE W σ)) : wpAny (model X.prog X.w) X.A (call (.ref f0) us) (EP X pins σ Q) X.xe s := by
  have hl : us.length = ps.length := r.length.symm.trans (F.len _ _ _ _ h)
  have hbt := hb s us I.kIn (by rw [List.append_nil]; exact hl)
  rw [List.append_nil] at hbt
  refine wpAny_call (codeAny_mono (F.run X.A X.stack s H ⟨us, []⟩ us vs Q (WE W σ) (at_.room.mono hj) at_.gd I.env0 hbt r h) fun res s' hq => ?_)
  match res, hq with
  | .error e, hq => exact passes_at at_.tk σ pins H s e s' I hq
  | .ok (.ret u), hq => exact I.after hq
theorem xe_call {x : Str} {ps : List Str} {g : List Vl → M Vl} {p : Pos} {es : List Expr} {j : Nat} (at_ : At X G W k) (D : Def X.prog X.w X.K X.mg X.base G.tabs j x ps g) (hj : j ≤ k)
    (ha : PA X (e :: es) (TAs G W fs)) (hg : Gl X x := by rfl) (hdb : (x == ("__debug__" : Str)) = false := by decide)
    (he : starEach (e :: es) X.env = (false, eval e X.env) :: starEach es X.env := by rfl) (hpl : (backTo pos (starEach es X.env)).any (·.1) = false := by rfl) : PE X (.Call (.Name x p) (e :: es) [] pos) (T G W (eCall g fs)) := by
  obtain ⟨f0, fd, hm, hk, hb, F⟩ := D
  have hG : (⟨X.K, X.mg, G.tabs⟩ : GG) = G := by
    obtain ⟨K, mg, tabs⟩ := G
    have e1 : K = X.K := at_.K
    have e2 : mg = X.mg := at_.mg
    rw [e1, e2]
  rw [hG] at F
  refine ⟨fun pins s σ H Q I h => wpAny_Call_Name_kw (ld_glob I hg hm ?_ hdb)⟩
  obtain ⟨μ, ρ, S, rs, rr, run⟩ := h
  have hargs : TAs G W fs σ H (fun vs H1 => spM G g vs H1 Q (WE W σ)) := TA_bnd rs rr run fun vs H1 μ1 xs S1 g1 rx rs1 rr1 run1 => ⟨μ1, xs, S1, rs1, rx, run1⟩
  refine PySem.W.callWith_K (h₀ := X.base) I.ok.mod.kin hk (thn (ha.run pos pins s σ H _ I hargs) fun us s1 hv => ?_) he hpl
  obtain ⟨vs, H1, I1, r, q⟩ := hv
  exact ⟨I1.kIn, run_def at_ F hj hb I1 r q⟩
/-- .. called by a local name that holds it -/
theorem xe_callL (i : Nat) {x : Str} {ps : List Str} {g : Str → List Vl → M Vl} {p : Pos} {es : List Expr} {j : Nat} {names : List Str} (at_ : At X G W k) (D : ∀ y ∈ names, Def X.prog X.w X.K X.mg X.base G.tabs j y ps (g y)) (hj : j ≤ k)
    (ha : PA X (e :: es) (TAs G W fs)) (hN : X.N[i]? = some x := by rfl) (hv : Vis X.env.scope x := by first | exact Or.inl rfl | exact Or.inr (Or.inl rfl) | exact Or.inr (Or.inr rfl)) (hdb : (x == ("__debug__" : Str)) = false := by decide) (hcd : (x == ("__classdict__" : Str)) = false := by decide)
    (he : starEach (e :: es) X.env = (false, eval e X.env) :: starEach es X.env := by rfl) (hpl : (backTo pos (starEach es X.env)).any (·.1) = false := by rfl) : PE X (.Call (.Name x p) (e :: es) [] pos) (T G W (fun ρ => match ρ[i]? with
      | some (some (.fn y)) => if y ∈ names then eCall (g y) fs ρ else stuck
      | _ => stuck)) := by
  have hG : (⟨X.K, X.mg, G.tabs⟩ : GG) = G := by
    obtain ⟨K, mg, tabs⟩ := G
    have e1 : K = X.K := at_.K
    have e2 : mg = X.mg := at_.mg
    rw [e1, e2]
  refine ⟨fun pins s σ H Q I h => wpAny_Call_Name_kw ?_⟩
  obtain ⟨μ, ρ, S, rs, rr, run⟩ := h
  dsimp only at run
  split at run
  · rename_i y e0
    by_cases hy : y ∈ names
    · rw [if_pos hy] at run
      obtain ⟨f0, fd, hm, hk, hb, F⟩ := D y hy
      rw [hG] at F
      obtain ⟨v, h1, h2⟩ := rr.at_ i _ e0
      cases h2 with
      | fn hf =>
        rename_i f1
        rw [at_.mg, hm] at hf
        cases hf
        refine thn ((pv (X := X) i hN hv hdb hcd).run pins s σ H (fun u H1 => u = .ref f0 ∧ H1 = H) I ⟨_, h1, rfl, rfl⟩) fun u s1 hu => ?_
        obtain ⟨v1, H1, I1, r1, q1, q2⟩ := hu
        subst q1
        subst q2
        cases r1
        have hargs : TAs G W fs σ H1 (fun vs H2 => spM G (g y) vs H2 Q (WE W σ)) := TA_bnd rs rr run fun vs H2 μ1 xs S1 g1 rx rs1 rr1 run1 => ⟨μ1, xs, S1, rs1, rx, run1⟩
        refine PySem.W.callWith_K (h₀ := X.base) I1.ok.mod.kin hk (thn (ha.run pos pins s1 σ H1 _ I1 hargs) fun us s2 hv => ?_) he hpl
        obtain ⟨vs, H2, I2, r, q⟩ := hv
        exact ⟨I2.kIn, run_def at_ F hj hb I2 r q⟩
    · rw [if_neg hy] at run
      exact run.no rfl
  · exact run.no rfl
theorem xs_raise {x m : Str} {C : Addr} {B newId initId : String} {bmB : List Value} {j : Nat} {p p2 pos2 : Pos} (at_ : At X G W k) (F : ExcBaseFacts B newId initId bmB) (q : PySem.W.excIn X.K C bmB newId = true) (gC : X.mg x = some (.ref C)) (kC : PySem.W.keepIn X.K (.ref C) = true)
    (r : Raises X (.ref C)) (hg : Gl X x := by rfl) (hdb : (x == ("__debug__" : Str)) = false := by decide) : PS X (.Raise (some (.Call (.Name x p) [.Constant (.str m) j p2] [] pos)) none pos2) (TSt G W (sRaise x)) := by
  refine PS.imp (ps_raise at_.calm at_.tk (pmk_own F q gC kC r hg hdb)) ?_
  rintro D σ H ⟨μ, ρ, S, rs, rr, r, e, h⟩
  cases e
  obtain ⟨C', h1, h2⟩ := h μ H σ .refl rs rr
  rw [at_.mg, gC] at h1
  cases h1
  exact h2
theorem RunS.noEr {μ H S D} {m : Store → Option SR} {W' : WX} (h : RunS G W (fun S => noEr (m S)) μ H S D) : RunS G W' m μ H S D := by
  obtain ⟨r, e, h⟩ := h
  cases q : m S with
  | none => simp only [q] at e; cases e
  | some r1 =>
    simp only [q] at e
    cases r1 with
    | ok fl S1 =>
      cases e
      exact ⟨_, q, by cases fl <;> exact h⟩
    | er c ρ S1 => cases e
/-- what a clause takes -/
def Clause (G : GG) (c : Value) (t : Str → Option Bool) : Prop := ∀ x b, t x = some b → ∃ C, G.mg x = some (.ref C) ∧ PySem.W.exmOne G.K (.ref C) c = some b
inductive XHs (X : Cx) (G : GG) : List ExceptHandler → List ((Str → Option Bool) × Sv) → Prop
  | nil : XHs X G [] []
  | cons {x : Str} {c : Value} {t : Str → Option Bool} {fh : Sv} {b0 : Stmt} {suite : List Stmt} {np pos' : Pos} {hds : List ExceptHandler} {cs : List ((Str → Option Bool) × Sv)} (hc : Names X x c) (ht : Clause G c t)
      (hsu : ∀ (a : Addr) (pn : List (Addr × Obj)), PSs (X.suite a pn) (b0 :: suite) (TSt G (fun _ _ _ _ => False) fh)) (r : XHs X G hds cs) : XHs X G (.ExceptHandler (some (.Name x np)) none (b0 :: suite) pos' :: hds) ((t, fh) :: cs)
theorem XHs.ok {hds : List ExceptHandler} {cs : List ((Str → Option Bool) × Sv)} (hK : G.K = X.K) (h : XHs X G hds cs) : ∃ l, HdsOk X hds l ∧
    ∀ (W : WX) (D : Ends) (c : Str) (μ : List Addr) (ρ : Rho) (S : Store) (σ : St) (H : Hp), RS G μ H S → RR G μ H ρ σ → RunS G W (hand cs c ρ) μ H S D → ∃ C, G.mg c = some (.ref C) ∧ wMany X.K W D l (.ref C) none σ H := by
  induction h with
  | nil =>
    refine ⟨[], .nil, fun W D c μ ρ S σ H rs rr run => ?_⟩
    obtain ⟨r, e, h⟩ := run
    cases e
    exact h μ H σ .refl rs rr
  | cons hc ht hsu r ih =>
    rename_i x c0 t fh b0 suite np pos' hds cs
    obtain ⟨l, h1, h2⟩ := ih
    refine ⟨(c0, fun _ _ _ => TSt G (fun _ _ _ _ => False) fh) :: l, .cons hc (fun a oe _ _ pn _ _ => hsu a ((a, oe) :: pn)) h1, fun W D c μ ρ S σ H rs rr run => ?_⟩
    cases tc : t c with
    | none => exact run.no (by simp only [hand, tc])
    | some bb =>
      obtain ⟨C, h3, h4⟩ := ht c bb tc
      rw [hK] at h4
      cases bb with
      | true => exact ⟨C, h3, true, h4, fun _ _ _ => ⟨μ, ρ, S, rs, rr, RunS.noEr (run.cong (by simp only [hand, tc]))⟩, fun z => Bool.noConfusion z⟩
      | false =>
        obtain ⟨C', h5, h6⟩ := h2 W D c μ ρ S σ H rs rr (run.cong (by simp only [hand, tc]))
        rw [h3] at h5
        cases h5
        exact ⟨C, h3, false, h4, fun z => Bool.noConfusion z, fun _ => h6⟩
theorem xs_try {body : List Stmt} {h0 : ExceptHandler} {hds : List ExceptHandler} {fb : Sv} {cs : List ((Str → Option Bool) × Sv)} (at_ : At X G W k) (hs : X.stack = X.env :: X.outer) (hf : X.env.frame = some X.env.locals)
    (hb : ∀ (W' : WX) (pn : List (Addr × Obj)) (xe : Value → Shared → Prop), At (X.tr pn xe) G W' k → PSs (X.tr pn xe) body (TSt G W' fb)) (hh : XHs X G (h0 :: hds) cs) :
    PS X (.Try body (h0 :: hds) [] [] pos) (TSt G W (sTry fb cs)) := by
  obtain ⟨l, h1, h2⟩ := hh.ok at_.K
  refine PS.imp (ps_try_many (Wout := W) (tb := fun W' => TSt G W' fb) hs hf at_.tk (fun W' pn xe tk ow => hb W' pn xe ⟨at_.K, at_.mg, at_.room, at_.calm, tk, ow, at_.nd, at_.gd⟩) h1) ?_
  rintro D σ H ⟨μ, ρ, S, rs, rr, r, e, h⟩
  refine ⟨μ, ρ, S, rs, rr, ?_⟩
  unfold sTry at e
  cases q : fb ρ S with
  | none => rw [q] at e; cases e
  | some r1 =>
    refine ⟨r1, q, ?_⟩
    rw [q] at e
    cases r1 with
    | ok fl S1 => cases e; cases fl <;> exact h
    | er c' ρ1 S1 => exact fun μ1 H1 σ1 g1 rs1 rr1 => h2 W D c' μ1 ρ1 S1 σ1 H1 rs1 rr1 (RunS.later ⟨r, e, h⟩ g1)
end

/-! ## 13. Loops -/
section
variable {G : GG} {W : WX} {X : Cx} {k : Nat} {e : Expr} {f f2 : Ev} {pos : Pos} {b : Sv} {tg : Expr} {g : Tg}
def iSeq (K : PySem.W.Frag) (tl : TE) : TI := fun σ H R => tl σ H fun x H1 => (∃ a, x = .ref a ∧ (∃ xs, SqL K H1 a xs) ∧ R (Itl K a) H1) ∨ ∃ a, x = .ref a ∧ (∃ xs, SqT K H1 a xs) ∧ R (Itt K a) H1
theorem pi_seq {l : Expr} {tl : TE} (hl : PE X l tl) : PI X tg l (iSeq X.K tl) := by
  refine ⟨fun pins s σ H R I h => thn (hl.run pins s σ H _ I h) fun v s1 hh => ?_⟩
  obtain ⟨x, H1, I1, r1, q1 | q1⟩ := hh
  · obtain ⟨a, rfl, ⟨xs, hq⟩, q⟩ := q1
    cases r1
    obtain ⟨its, rv, p, hz⟩ := I1.list hq
    refine PySem.wpAny_pyIter_list p.isList ⟨s1.heap.objs.size, [s1.heap.objs.size], _, _, H1, rfl, I1.kept (t' := s1.toks) (fun b o e => Heap.get?_push_of_some _ e), turn_list a _, ⟨_, Heap.get?_push_size _ rfl, rfl, rfl⟩, ?_, q⟩
    intro b hb
    obtain rfl : b = s1.heap.objs.size := by simpa using hb
    exact I1.fpOk (Nat.le_refl _) (I1.hok.fresh (Nat.le_refl _))
  · obtain ⟨a, rfl, ⟨xs, hq⟩, q⟩ := q1
    cases r1
    obtain ⟨its, rv, p, hz⟩ := I1.tuple hq
    refine PySem.wpAny_pyIter_tuple (show s1.heap.IsTuple a its.toArray from p) ⟨s1.heap.objs.size, [s1.heap.objs.size], _, _, H1, rfl, I1.kept (t' := s1.toks) (fun b o e => Heap.get?_push_of_some _ e), turn_tuple a _, ⟨_, Heap.get?_push_size _ rfl, rfl, rfl⟩, ?_, q⟩
    intro b hb
    obtain rfl : b = s1.heap.objs.size := by simpa using hb
    exact I1.fpOk (Nat.le_refl _) (I1.hok.fresh (Nat.le_refl _))
/-- one turn of a loop -/
theorem turn_ok {D : Ends} {μ ρ S H σ} {x : Vl} {v : V} {rest : Rho → Store → Option SR} {N : St → Hp → Prop} (rs : RS G μ H S) (rr : RR G μ H ρ σ) (rx : Rv G μ H x v)
    (run : RunS G W (fun S => match g x ρ with
      | none => none
      | some ρ0 => match b ρ0 S with
        | some (.ok (.nx ρ1) S1) => rest ρ1 S1
        | some (.ok (.ct ρ1) S1) => rest ρ1 S1
        | some (.ok (.bk ρ1) S1) => some (.ok (.nx ρ1) S1)
        | some (.ok (.rt v) S1) => some (.ok (.rt v) S1)
        | some (.er c ρ1 S1) => some (.er c ρ1 S1)
        | none => none) μ H S D)
    (hN : ∀ μ1 ρ1 S1 σ1 H1, Gr μ H μ1 H1 → RS G μ1 H1 S1 → RR G μ1 H1 ρ1 σ1 → RunS G W (rest ρ1) μ1 H1 S1 D → N σ1 H1) :
    TGm G g v σ H fun σ2 H2 => TSt G W b { D with nx := N, ct := N, bk := D.nx } σ2 H2 := by
  obtain ⟨r, e, h⟩ := run
  cases q : g x ρ with
  | none => simp only [q] at e; cases e
  | some ρ0 =>
    simp only [q] at e
    refine ⟨μ, ρ, S, x, ρ0, rs, rr, rx, q, fun σ2 rr2 => ⟨μ, ρ0, S, rs, rr2, ?_⟩⟩
    cases q2 : b ρ0 S with
    | none => simp only [q2] at e; cases e
    | some r1 =>
      refine ⟨r1, q2, ?_⟩
      simp only [q2] at e
      cases r1 with
      | er c ρ1 S1 => cases e; exact h
      | ok fl S1 =>
        cases fl with
        | nx ρ1 => exact fun μ1 H1 σ1 g1 rs1 rr1 => hN μ1 ρ1 S1 σ1 H1 g1 rs1 rr1 (RunS.later ⟨r, e, h⟩ g1)
        | ct ρ1 => exact fun μ1 H1 σ1 g1 rs1 rr1 => hN μ1 ρ1 S1 σ1 H1 g1 rs1 rr1 (RunS.later ⟨r, e, h⟩ g1)
        | bk ρ1 => cases e; exact h
        | rt v1 => cases e; exact h
/-- what is left of the loop from the i-th item on -/
def Left (G : GG) (W : WX) (g : Tg) (b : Sv) (xs : List Vl) (D : Ends) (μ0 : List Addr) (H0 : Hp) (i : Nat) (σ : St) (H : Hp) : Prop :=
  ∃ μ ρ S, Gr μ0 H0 μ H ∧ RS G μ H S ∧ RR G μ H ρ σ ∧ RunS G W (loop g b (xs.drop i) ρ) μ H S D
theorem Left.turn {D : Ends} {xs : List Vl} {vs : List V} {μ0 H0 i v σ H} (rv : Rvs G μ0 H0 xs vs) (hv : vs[i]? = some v) (h : Left G W g b xs D μ0 H0 i σ H) :
    TGm G g v σ H fun σ2 H2 => TSt G W b { D with nx := Left G W g b xs D μ0 H0 (i + 1), ct := Left G W g b xs D μ0 H0 (i + 1), bk := D.nx } σ2 H2 := by
  obtain ⟨μ, ρ, S, g0, rs, rr, run⟩ := h
  obtain ⟨x, hx, rx⟩ := (rv.up g0).get' hv
  have hlt : i < xs.length := (List.getElem?_eq_some_iff.mp hx).1
  have ed : xs.drop i = x :: xs.drop (i + 1) := by
    rw [List.drop_eq_getElem_cons hlt]
    rw [List.getElem?_eq_getElem hlt] at hx
    cases hx
    rfl
  rw [ed] at run
  exact turn_ok (rest := fun ρ1 S1 => loop g b (xs.drop (i + 1)) ρ1 S1) rs rr rx run fun μ1 ρ1 S1 σ1 H1 g1 rs1 rr1 run1 => ⟨μ1, ρ1, S1, g0.trans g1, rs1, rr1, run1⟩
theorem Left.end_ {D : Ends} {xs : List Vl} {μ0 H0 i σ H} (hi : xs.length ≤ i) (h : Left G W g b xs D μ0 H0 i σ H) : D.nx σ H := by
  obtain ⟨μ, ρ, S, g0, rs, rr, run⟩ := h
  rw [List.drop_of_length_le hi] at run
  obtain ⟨r, e, h⟩ := run
  cases e
  exact h μ H σ .refl rs rr
/-- .. of a list of the store -/
def LeftL (G : GG) (W : WX) (n : Nat) (g : Tg) (b : Sv) (xs : List Vl) (D : Ends) (μ0 : List Addr) (H0 : Hp) (i : Nat) (σ : St) (H : Hp) : Prop :=
  ∃ μ ρ S, Gr μ0 H0 μ H ∧ RS G μ H S ∧ RR G μ H ρ σ ∧ RunS G W (loopL n (.lst xs) g b (xs.drop i) ρ) μ H S D
theorem loopL_here {n o xs ρ S} (h : S[n]? ≠ some o) : loopL n o g b xs ρ S = none := by
  cases xs <;> (unfold loopL; rw [if_neg h])
theorem LeftL.here {D : Ends} {n : Nat} {xs : List Vl} {μ0 H0 i σ H} (h : LeftL G W n g b xs D μ0 H0 i σ H) : ∃ μ ρ S, Gr μ0 H0 μ H ∧ RS G μ H S ∧ RR G μ H ρ σ ∧ S[n]? = some (.lst xs) ∧ RunS G W (loopL n (.lst xs) g b (xs.drop i) ρ) μ H S D := by
  obtain ⟨μ, ρ, S, g0, rs, rr, run⟩ := h
  by_cases hS : S[n]? = some (.lst xs)
  · exact ⟨μ, ρ, S, g0, rs, rr, hS, run⟩
  · exact run.no (loopL_here hS)
theorem LeftL.turn {D : Ends} {n : Nat} {xs : List Vl} {μ0 H0 i v σ H a ws} (hn : μ0[n]? = some a) (h : LeftL G W n g b xs D μ0 H0 i σ H) (hl : H a = some (.lst ws)) (hv : ws[i]? = some v) :
    TGm G g v σ H fun σ2 H2 => TSt G W b { D with nx := LeftL G W n g b xs D μ0 H0 (i + 1), ct := LeftL G W n g b xs D μ0 H0 (i + 1), bk := D.nx } σ2 H2 := by
  obtain ⟨μ, ρ, S, g0, rs, rr, hS, run⟩ := h.here
  obtain ⟨a', e1, ws', h1, r1⟩ := rs.ob n _ hS
  rw [g0.pre _ _ hn] at e1
  cases e1
  rw [hl] at h1
  cases h1
  obtain ⟨x, hx, rx⟩ := r1.get' hv
  have hlt : i < xs.length := (List.getElem?_eq_some_iff.mp hx).1
  have ed : xs.drop i = x :: xs.drop (i + 1) := by
    rw [List.drop_eq_getElem_cons hlt]
    rw [List.getElem?_eq_getElem hlt] at hx
    cases hx
    rfl
  rw [ed] at run
  refine turn_ok (rest := fun ρ1 S1 => loopL n (.lst xs) g b (xs.drop (i + 1)) ρ1 S1) rs rr rx (run.cong ?_) fun μ1 ρ1 S1 σ1 H1 g1 rs1 rr1 run1 => ⟨μ1, ρ1, S1, g0.trans g1, rs1, rr1, run1⟩
  symm
  rw [loopL]
  refine (if_pos hS).trans ?_
  cases g x ρ with
  | none => rfl
  | some ρ0 =>
    dsimp only
    all_goals
      cases b ρ0 S with
      | none => rfl
      | some r =>
        cases r with
        | er c ρ1 S1 => rfl
        | ok fl S1 => cases fl <;> rfl
theorem LeftL.end_ {D : Ends} {n : Nat} {xs : List Vl} {μ0 H0 i σ H} (hi : xs.length ≤ i) (h : LeftL G W n g b xs D μ0 H0 i σ H) : D.nx σ H := by
  obtain ⟨μ, ρ, S, g0, rs, rr, hS, run⟩ := h.here
  rw [List.drop_of_length_le hi] at run
  obtain ⟨r, e, h⟩ := run
  unfold loopL at e
  rw [if_pos hS] at e
  cases e
  exact h μ H σ .refl rs rr
theorem LeftL.lst {D : Ends} {n : Nat} {xs : List Vl} {μ0 H0 i σ H a} (hn : μ0[n]? = some a) (h : LeftL G W n g b xs D μ0 H0 i σ H) : ∃ ws, H a = some (.lst ws) ∧ ws.length = xs.length := by
  obtain ⟨μ, ρ, S, g0, rs, rr, hS, run⟩ := h.here
  obtain ⟨a', e1, ws', h1, r1⟩ := rs.ob n _ hS
  rw [g0.pre _ _ hn] at e1
  cases e1
  exact ⟨ws', h1, r1.length.symm⟩
theorem xs_for {bs : List Stmt} {l : Expr} (at_ : At X G W k) (ha : PE X l (T G W f)) (hg : PG X tg (TGm G g)) (hb : PSs X bs (TSt G W b)) (hs : ∀ x, foldedSetIterable l X.env x = pure x := by intro _; rfl) :
    PS X (.For tg l bs [] pos) (TSt G W (sFor f g b)) := by
  refine PS.imp (ps_for at_.own at_.calm (pi_seq ha) hg hb hs) ?_
  rintro D σ H ⟨μ, ρ, S, rs, rr, run⟩
  refine Ts_bnd rs rr run fun v H1 μ1 x S1 g1 rx rs1 rr1 run1 => ?_
  rw [← at_.K]
  cases rx <;> first | exact run1.no rfl | skip
  · rename_i xs vs a ht rt
    refine .inr ⟨a, rfl, ⟨vs, ht⟩, for_tup (K := G.K) (a := a) (xs := vs) (fun i σ H => SqT G.K H a vs ∧ Left G W g b xs D μ1 H1 i σ H) ⟨ht, μ1, ρ, S1, .refl, rs1, rr1, run1⟩ (fun _ _ _ _ h => h.1) (fun i v σ2 H2 hv h => ?_) fun σ2 H2 h => h.2.end_ (by rw [rt.length]; exact Nat.le_refl _)⟩
    have up : ∀ {i σ H}, Left G W g b xs D μ1 H1 i σ H → SqT G.K H a vs ∧ Left G W g b xs D μ1 H1 i σ H := fun {i σ H} h => by
      obtain ⟨μ, ρ, S, g0, q⟩ := id h
      exact ⟨g0.sqt ht, h⟩
    obtain ⟨μ3, ρ3, S3, x3, ρ4, z1, z2, z3, z4, z5⟩ := Left.turn rt hv h.2
    refine ⟨μ3, ρ3, S3, x3, ρ4, z1, z2, z3, z4, fun σ' q => ?_⟩
    obtain ⟨μ5, ρ5, S5, y1, y2, r, y3, y4⟩ := z5 σ' q
    refine ⟨μ5, ρ5, S5, y1, y2, r, y3, ?_⟩
    cases r with
    | er c ρ S => exact y4
    | ok fl S =>
      cases fl with
      | nx ρ => exact fun μ' H' σ' u1 u2 u3 => up (y4 μ' H' σ' u1 u2 u3)
      | ct ρ => exact fun μ' H' σ' u1 u2 u3 => up (y4 μ' H' σ' u1 u2 u3)
      | bk ρ => exact y4
      | rt v => exact y4
  · rename_i n a hn
    cases e1 : S1[n]? with
    | none => exact run1.no (by simp only [e1])
    | some ob =>
      cases ob with
      | dct => exact run1.no (by simp only [e1])
      | lst xs =>
        have run2 : RunS G W (loopL n (.lst xs) g b xs ρ) μ1 H1 S1 D := run1.cong (by simp only [e1])
        have h0 : LeftL G W n g b xs D μ1 H1 0 σ H1 := ⟨μ1, ρ, S1, .refl, rs1, rr1, run2⟩
        obtain ⟨ws0, hw, _⟩ := h0.lst hn
        refine .inl ⟨a, rfl, ⟨ws0, .of hw⟩, fun i m σ H => m = xs.length - i ∧ i ≤ xs.length ∧ LeftL G W n g b xs D μ1 H1 i σ H, ⟨_, rfl, Nat.zero_le _, h0⟩, fun i m σ2 H2 hh => ?_⟩
        obtain ⟨rfl, hi, h⟩ := hh
        obtain ⟨ws, hw2, hlen⟩ := h.lst hn
        by_cases hlt : i < xs.length
        · refine .inr ⟨⟨ws, ws[i]'(by rw [hlen]; exact hlt), .of hw2, List.getElem?_eq_getElem _⟩, LeftL G W n g b xs D μ1 H1 (i + 1), fun σ' H' q => ⟨xs.length - (i + 1), by omega, rfl, hlt, q⟩, fun v H' hy => ?_⟩
          obtain ⟨rfl, hy⟩ := hy
          exact LeftL.turn hn h hw2 (hy ws (.of hw2))
        · exact .inl ⟨⟨ws, .of hw2, by omega⟩, h.end_ (by omega)⟩
  · rename_i xs vs a hf rt
    refine .inl ⟨a, rfl, ⟨vs, hf.sql⟩, for_list (K := G.K) (a := a) (xs := vs) (fun i σ H => SqL G.K H a vs ∧ Left G W g b xs D μ1 H1 i σ H) ⟨hf.sql, μ1, ρ, S1, .refl, rs1, rr1, run1⟩ (fun _ _ _ _ h => h.1) (fun i v σ2 H2 hv h => ?_) fun σ2 H2 h => h.2.end_ (by rw [rt.length]; exact Nat.le_refl _)⟩
    have up : ∀ {i σ H}, Left G W g b xs D μ1 H1 i σ H → SqL G.K H a vs ∧ Left G W g b xs D μ1 H1 i σ H := fun {i σ H} h => by
      obtain ⟨μ, ρ, S, g0, q⟩ := id h
      exact ⟨(hf.up g0).sql, h⟩
    obtain ⟨μ3, ρ3, S3, x3, ρ4, z1, z2, z3, z4, z5⟩ := Left.turn rt hv h.2
    refine ⟨μ3, ρ3, S3, x3, ρ4, z1, z2, z3, z4, fun σ' q => ?_⟩
    obtain ⟨μ5, ρ5, S5, y1, y2, r, y3, y4⟩ := z5 σ' q
    refine ⟨μ5, ρ5, S5, y1, y2, r, y3, ?_⟩
    cases r with
    | er c ρ S => exact y4
    | ok fl S =>
      cases fl with
      | nx ρ => exact fun μ' H' σ' u1 u2 u3 => up (y4 μ' H' σ' u1 u2 u3)
      | ct ρ => exact fun μ' H' σ' u1 u2 u3 => up (y4 μ' H' σ' u1 u2 u3)
      | bk ρ => exact y4
      | rt v => exact y4
theorem xs_for_range1 {bs : List Stmt} {a : Expr} {p pos1 : Pos} (at_ : At X G W k) (hm : X.mg "range" = none) (ha : PE X a (T G W f)) (hg : PG X tg (TGm G g)) (hb : PSs X bs (TSt G W b)) (hgl : Gl X "range" := by rfl)
    (he : starEach [a] X.env = (false, eval a X.env) :: starEach [] X.env := by rfl) (hs1 : starEach [a] X.env = [(false, eval a X.env)] := by rfl)
    (hs : ∀ x, foldedSetIterable (.Call (.Name "range" p) [a] [] pos1) X.env x = pure x := by intro _; rfl) : PS X (.For tg (.Call (.Name "range" p) [a] [] pos1) bs [] pos) (TSt G W (sForR1 f g b)) := by
  refine PS.imp (ps_for at_.own at_.calm (pi_range1 hgl hm (pa_cons ha pa_nil he) hs1) hg hb hs) ?_
  rintro D σ H ⟨μ, ρ, S, rs, rr, run⟩
  refine Ts_bnd rs rr run fun v H1 μ1 x S1 g1 rx rs1 rr1 run1 => ?_
  cases rx <;> first | exact run1.no rfl | skip
  rename_i j
  by_cases hz : -(2 ^ 62) ≤ j ∧ j < 2 ^ 62
  · replace run1 : RunS G W (loop g b (irange 0 j.toNat) ρ) μ1 H1 S1 D := by simpa only [if_pos hz] using run1
    have hlen : (irange 0 j.toNat).length = j.toNat := by simp [irange]
    refine ⟨j, rfl, hz.1, hz.2, for_range (lo := 0) (n := j.toNat) (Left G W g b (irange 0 j.toNat) D μ1 H1) ⟨μ1, ρ, S1, .refl, rs1, rr1, run1⟩ (fun i σ2 H2 hi h => ?_) fun σ2 H2 h => h.end_ (by rw [hlen]; exact Nat.le_refl _)⟩
    have rv : Rvs G μ1 H1 (irange 0 j.toNat) ((List.range j.toNat).map fun k => V.int (0 + (k : Nat))) := by
      unfold irange
      generalize List.range j.toNat = l
      induction l with
      | nil => exact .nil
      | cons y ys ih => exact .cons (.int _) ih
    exact Left.turn rv (by rw [List.getElem?_map, List.getElem?_range hi]; rfl) h
  · exact run1.no (by simp only [if_neg hz])
theorem xs_for_range2 {bs : List Stmt} {a a2 : Expr} {p pos1 : Pos} (at_ : At X G W k) (hm : X.mg "range" = none) (ha : PE X a (T G W f)) (ha2 : PE X a2 (T G W f2)) (hg : PG X tg (TGm G g)) (hb : PSs X bs (TSt G W b)) (hgl : Gl X "range" := by rfl)
    (he : starEach [a, a2] X.env = (false, eval a X.env) :: starEach [a2] X.env := by rfl) (he2 : starEach [a2] X.env = (false, eval a2 X.env) :: starEach [] X.env := by rfl) (hs1 : starEach [a, a2] X.env = [(false, eval a X.env), (false, eval a2 X.env)] := by rfl) (hs3 : starEach [a2] X.env = [(false, eval a2 X.env)] := by rfl)
    (hs : ∀ x, foldedSetIterable (.Call (.Name "range" p) [a, a2] [] pos1) X.env x = pure x := by intro _; rfl) : PS X (.For tg (.Call (.Name "range" p) [a, a2] [] pos1) bs [] pos) (TSt G W (sForR2 f f2 g b)) := by
  refine PS.imp (ps_for at_.own at_.calm (pi_range2 (hs2 := hs3) hgl hm (pa_cons ha (pa_cons ha2 pa_nil he2) he) hs1) hg hb hs) ?_
  rintro D σ H ⟨μ, ρ, S, rs, rr, run⟩
  refine Ts_bnd rs rr run fun v H1 μ1 x S1 g1 rx1 rs1 rr1 run1 => ?_
  refine Ts_bnd rs1 rr1 run1 fun w H2 μ2 y S2 g2 ry rs2 rr2 run2 => ?_
  have rx := rx1.up g2
  cases rx <;> cases ry <;> first | exact run2.no rfl | skip
  rename_i i j
  by_cases hz : -(2 ^ 62) ≤ i ∧ i < 2 ^ 62 ∧ -(2 ^ 62) ≤ j ∧ j < 2 ^ 62
  · replace run2 : RunS G W (loop g b (irange i (j - i).toNat) ρ) μ2 H2 S2 D := by simpa only [if_pos hz] using run2
    have hlen : (irange i (j - i).toNat).length = (j - i).toNat := by simp [irange]
    refine ⟨i, j, rfl, hz, for_range (lo := i) (n := (j - i).toNat) (Left G W g b (irange i (j - i).toNat) D μ2 H2) ⟨μ2, ρ, S2, .refl, rs2, rr2, run2⟩ (fun q σ3 H3 hi h => ?_) fun σ3 H3 h => h.end_ (by rw [hlen]; exact Nat.le_refl _)⟩
    have rv : Rvs G μ2 H2 (irange i (j - i).toNat) ((List.range (j - i).toNat).map fun k => V.int (i + (k : Nat))) := by
      unfold irange
      generalize List.range (j - i).toNat = l
      induction l with
      | nil => exact .nil
      | cons y ys ih => exact .cons (.int _) ih
    exact Left.turn rv (by rw [List.getElem?_map, List.getElem?_range hi]; rfl) h
  · exact run2.no (by simp only [if_neg hz])
end
end Tw
end

section
set_option Elab.async false
set_option maxRecDepth 100000
set_option maxHeartbeats 3000000
set_option autoImplicit true
set_option linter.all false
set_option relaxedAutoImplicit true
namespace Tw
open PySem L2
/-! ## 14. any, all: what they do with a generator -/
section
variable {prog : Program} {w : PySem.World} {A : Around} {E : Value → Shared → Prop} {s : Shared} {a : Addr} {St : Nat → Shared → Prop} {n : Nat} {Q : Value → Shared → Prop}
theorem all_loop (turn : ∀ i s, i ≤ n → St i s → wpAny (model prog w) A.in1 (pyNext (.ref a)) (fun r s' => match r with
      | none => Q (.bool true) s'
      | some v => ∃ b, v = .bool b ∧ (b = true → i < n ∧ St (i + 1) s') ∧ (b = false → Q (.bool false) s')) E s) : ∀ (k i : Nat) (s : Shared), n - i = k → i ≤ n → St i s →
    codeAny (model prog w) A (.builtin "all.loop" ⟨[.ref a], []⟩) (fun r s' => match r with | .ok (.ret v) => Q v s' | .ok _ => False | .error e => E e s') s := by
  intro k
  induction k with
  | zero =>
    intro i s hk hi hst
    refine codeAny_builtin F.entry_all_loop ?_
    rw [Around.under_plainId F.plain_all_loop _]
    show wpAny _ A.in1 (pyNext (.ref a) >>= _) _ _ s
    refine wpAny_bind (wpAny_mono (turn i s hi hst) (fun r s' h => ?_) fun _ _ e => e)
    cases r with
    | none => exact wpAny_bind (wpAny_rule (wpAny_pure h))
    | some v =>
      obtain ⟨b, rfl, h1, h2⟩ := h
      refine wpAny_bind (wpAny_holding (wpAny_truthy_bool (wpAny_bind (wpAny_letGo ?_))))
      cases b with
      | true => exact absurd (h1 rfl).1 (by omega)
      | false =>
        simp only [Bool.false_eq_true, if_false]
        exact wpAny_bind (wpAny_rule (wpAny_pure (h2 rfl)))
  | succ k ih =>
    intro i s hk hi hst
    refine codeAny_builtin F.entry_all_loop ?_
    rw [Around.under_plainId F.plain_all_loop _]
    show wpAny _ A.in1 (pyNext (.ref a) >>= _) _ _ s
    refine wpAny_bind (wpAny_mono (turn i s hi hst) (fun r s' h => ?_) fun _ _ e => e)
    cases r with
    | none => exact wpAny_bind (wpAny_rule (wpAny_pure h))
    | some v =>
      obtain ⟨b, rfl, h1, h2⟩ := h
      refine wpAny_bind (wpAny_holding (wpAny_truthy_bool (wpAny_bind (wpAny_letGo ?_))))
      cases b with
      | true =>
        simp only [if_true]
        exact wpAny_pure ⟨plainId_quiet F.plain_all_loop _, ih (i + 1) s' (by omega) (h1 rfl).1 (h1 rfl).2⟩
      | false =>
        simp only [Bool.false_eq_true, if_false]
        exact wpAny_bind (wpAny_rule (wpAny_pure (h2 rfl)))
theorem any_loop (turn : ∀ i s, i ≤ n → St i s → wpAny (model prog w) A.in1 (pyNext (.ref a)) (fun r s' => match r with
      | none => Q (.bool false) s'
      | some v => ∃ b, v = .bool b ∧ (b = false → i < n ∧ St (i + 1) s') ∧ (b = true → Q (.bool true) s')) E s) : ∀ (k i : Nat) (s : Shared), n - i = k → i ≤ n → St i s →
    codeAny (model prog w) A (.builtin "any.loop" ⟨[.ref a], []⟩) (fun r s' => match r with | .ok (.ret v) => Q v s' | .ok _ => False | .error e => E e s') s := by
  intro k
  induction k with
  | zero =>
    intro i s hk hi hst
    refine codeAny_builtin F.entry_any_loop ?_
    rw [Around.under_plainId F.plain_any_loop _]
    show wpAny _ A.in1 (pyNext (.ref a) >>= _) _ _ s
    refine wpAny_bind (wpAny_mono (turn i s hi hst) (fun r s' h => ?_) fun _ _ e => e)
    cases r with
    | none => exact wpAny_bind (wpAny_rule (wpAny_pure h))
    | some v =>
      obtain ⟨b, rfl, h1, h2⟩ := h
      refine wpAny_bind (wpAny_holding (wpAny_truthy_bool (wpAny_bind (wpAny_letGo ?_))))
      cases b with
      | false => exact absurd (h1 rfl).1 (by omega)
      | true =>
        simp only [if_true]
        exact wpAny_bind (wpAny_rule (wpAny_pure (h2 rfl)))
  | succ k ih =>
    intro i s hk hi hst
    refine codeAny_builtin F.entry_any_loop ?_
    rw [Around.under_plainId F.plain_any_loop _]
    show wpAny _ A.in1 (pyNext (.ref a) >>= _) _ _ s
    refine wpAny_bind (wpAny_mono (turn i s hi hst) (fun r s' h => ?_) fun _ _ e => e)
    cases r with
    | none => exact wpAny_bind (wpAny_rule (wpAny_pure h))
    | some v =>
      obtain ⟨b, rfl, h1, h2⟩ := h
      refine wpAny_bind (wpAny_holding (wpAny_truthy_bool (wpAny_bind (wpAny_letGo ?_))))
      cases b with
      | false =>
        simp only [Bool.false_eq_true, if_false]
        exact wpAny_pure ⟨plainId_quiet F.plain_any_loop _, ih (i + 1) s' (by omega) (h1 rfl).1 (h1 rfl).2⟩
      | true =>
        simp only [if_true]
        exact wpAny_bind (wpAny_rule (wpAny_pure (h2 rfl)))
theorem call_all_gen {g : Nat} (hg : s.heap.IsGen a g) (turn : ∀ i s, i ≤ n → St i s → wpAny (model prog w) A.in1 (pyNext (.ref a)) (fun r s' => match r with
      | none => Q (.bool true) s'
      | some v => ∃ b, v = .bool b ∧ (b = true → i < n ∧ St (i + 1) s') ∧ (b = false → Q (.bool false) s')) E s) (h0 : St 0 s) : wpAny (model prog w) A (call (.builtin "all") [.ref a]) Q E s := by
  refine call_function_tree F.kind_all F.plain_all F.entry_all (F.args_all1 _) ?_
  unfold Builtin.«all»
  refine wpAny_bind (m := oneArg "all" _) (wpAny_pure ?_)
  refine wpAny_bind (wpAny_pyIter_gen hg ?_)
  exact wpAny_pure ⟨plainId_quiet F.plain_all_loop _, all_loop turn n 0 s (Nat.sub_zero _) (Nat.zero_le _) h0⟩
theorem call_any_gen {g : Nat} (hg : s.heap.IsGen a g) (turn : ∀ i s, i ≤ n → St i s → wpAny (model prog w) A.in1 (pyNext (.ref a)) (fun r s' => match r with
      | none => Q (.bool false) s'
      | some v => ∃ b, v = .bool b ∧ (b = false → i < n ∧ St (i + 1) s') ∧ (b = true → Q (.bool true) s')) E s) (h0 : St 0 s) : wpAny (model prog w) A (call (.builtin "any") [.ref a]) Q E s := by
  refine call_function_tree F.kind_any F.plain_any F.entry_any (F.args_any1 _) ?_
  unfold Builtin.«any»
  refine wpAny_bind (m := oneArg "any" _) (wpAny_pure ?_)
  refine wpAny_bind (wpAny_pyIter_gen hg ?_)
  exact wpAny_pure ⟨plainId_quiet F.plain_any_loop _, any_loop turn n 0 s (Nat.sub_zero _) (Nat.zero_le _) h0⟩
end

/-! ## 15. The generator's frame -/
/-- the names of a generator expression's frame: those of the def, x behind them -/
def hideN (N : List Str) (x : Str) : List Str := (N.map fun y => if y = x ∨ y = (".0" : Str) then ("" : Str) else y) ++ [x]
structure GSc (N : List Str) (sc scope : Scope) (x : Str) : Prop where
  kind : scope.kind = .function
  co : scope.isCoroutine = false
  uniq : ∀ y ∈ scope.names, scope.names.lookup y.1 = some y.2
  nocell : ∀ y ∈ scope.names, y.2 ≠ .cell
  dot : scope.names.lookup (".0" : Str) = some NameKind.local
  loc : scope.names.lookup x = some .local
  own : ∀ y ∈ scope.names, y.2 = .local → y.1 = ".0" ∨ y.1 = x
  free : ∀ y ∈ scope.names, y.2 = .free → sc.names.lookup y.1 = some .cell ∨ sc.names.lookup y.1 = some .free
  non : scope.names.lookup ("" : Str) = none
def gcx (X : Cx) (s : Shared) (H : Hp) (cenv : Env) (A' : Around) (N' : List Str) (pn : List (Addr × Obj)) (fp : List Addr) : Cx :=
  { X with A := A', N := N', s_0 := s, H_0 := H, env := cenv, outer := X.stack, stack := cenv :: X.stack, ex := fp, fn := fun _ => false, calm := true, pn := pn, xe := fun _ _ => False }
section
variable {X : Cx} {pins : List (Addr × Obj)} {σ : St} {H : Hp} {s s5 : Shared} {scope : Scope} {x : Str} {C bi : Addr} {code : Value} {A' : Around} {pn : List (Addr × Obj)} {fp : List Addr}
theorem gen_start {m : Str → Option Value} (I : Inv X pins σ H s) (g : GSc X.N X.env.scope scope x) (hbi : bi = builtinsNs) (hC : s.heap.objs.size ≤ C) (hA : A'.handled = none)
    (hfr : A'.frames = some (genEnv scope (cloFrom X.env.cells scope.names []) C code bi X.env :: X.stack)) (hfp : ∀ b ∈ fp, FpOk X pins H b ∧ b < s.heap.objs.size)
    (os : s5.os = s.os) (bare : PyProof.Rows.AllBare s5.gens) (kp : ∀ b o, s.heap.get? b = some o → s5.heap.get? b = some o) (hn : s5.heap.Ns C m)
    (hpn : ∀ p ∈ pn, s5.heap.get? p.1 = some p.2 ∧ s.heap.objs.size ≤ p.1 ∧ p.1 ≠ C ∧ ∀ v, p.2.data ≠ .cell v) :
    Inv (gcx X s H (genEnv scope (cloFrom X.env.cells scope.names []) C code bi X.env) A' (hideN X.N x) pn fp) [] (σ ++ [none]) H s5 := by
  have hfree : ∀ y ∈ scope.names, y.2 = .free → ∃ c, X.env.cells.lookup y.1 = some c := fun y hy e => by
    rcases g.free y hy e with k | k
    · exact I.ok.has _ (.inl k)
    · exact I.ok.has _ (.inr k)
  have cm : ∀ {y c}, (y, c) ∈ cloFrom X.env.cells scope.names [] → X.env.cells.lookup y = some c ∧ (y, NameKind.free) ∈ scope.names ∧ ∃ v, s.heap.IsCell c v := fun {y c} hm => by
    rcases cloFrom_mem hm with hm | ⟨h1, rfl⟩
    · cases hm
    · obtain ⟨c, hc⟩ := hfree _ h1 rfl
      rw [hc]
      exact ⟨rfl, h1, I.cell _ _ hc⟩
  have cl : ∀ {y c}, (cloFrom X.env.cells scope.names []).lookup y = some c → X.env.cells.lookup y = some c ∧ (y, NameKind.free) ∈ scope.names ∧ ∃ v, s.heap.IsCell c v := fun e => cm (PySem.mem_of_lookup e)
  have fresh : ∀ b, s.heap.objs.size ≤ b → H b = none := fun b hb => I.hok.fresh hb
  have cne : ∀ {y c}, (cloFrom X.env.cells scope.names []).lookup y = some c → c < s.heap.objs.size := fun e => let ⟨_, _, v, z⟩ := cl e; z.lt
  have kindOf : ∀ y, (genEnv scope (cloFrom X.env.cells scope.names []) C code bi X.env).kindOf y = scope.names.lookup y := fun _ => rfl
  have look : ∀ {y}, scope.names.lookup y = some .free → ∃ c, (cloFrom X.env.cells scope.names []).lookup y = some c ∧ X.env.cells.lookup y = some c := fun {y} hl => by
    have hy : (y, NameKind.free) ∈ scope.names := PySem.mem_of_lookup hl
    obtain ⟨c', e'⟩ := mem_lookup (cloFrom_has (cells := X.env.cells) (acc := []) hy)
    exact ⟨c', e', (cl e').1⟩
  refine ⟨?ok, os, bare, Un.kept kp, ⟨m, hn, ?loc⟩, fun y c e => ?cell, fresh C hC, fun y c e => ?freeC, fun p hp => ?pin, I.hok.kept kp, ?len⟩
  case ok =>
    refine ⟨I.ok.mod, g.kind, I.ok.glob, hbi, hC, fun y z c e1 e2 => I.ok.inj y z c (cl e1).1 (cl e2).1, fun y hy => ?_, fun y c z => absurd (show false = true from z) Bool.false_ne_true, fun _ => hA, hfr, .inr ⟨rfl, rfl⟩,
      fun b hb => ⟨Nat.ne_of_lt (Nat.lt_of_lt_of_le (hfp b hb).2 hC), fun y c e => (hfp b hb).1.2.2.2.2.1 y c (cl e).1⟩, I.bs, Nat.le_trans I.ok.bsz I.sz, fun b o e hb => ?_, fun b hb z => ?_, I.stack, I.stkFree⟩
    · have hy : scope.names.lookup y = some .cell ∨ scope.names.lookup y = some .free := hy
      rcases hy with hy | hy
      · exact absurd rfl (g.nocell _ (PySem.mem_of_lookup hy))
      · obtain ⟨c, h1, _⟩ := look hy
        exact ⟨c, h1⟩
    · rcases (hfp b hb).1.2.2.2.1 with z | z
      · exact I.ok.noex b o e z
      · have h1 := Heap.lt_size (I.ok.bs b o e).1
        exact absurd (Nat.lt_of_lt_of_le h1 z) (Nat.lt_irrefl _)
    · have hk := (hfp b hb).1
      rcases List.mem_cons.mp (I.stkSub b z) with q | q
      · exact hk.2.1 q
      · exact hk.2.2.1 q
  case loc =>
    intro i y v e1 e2 e3
    have hlen : i < X.N.length := by
      by_cases h : i < X.N.length
      · exact h
      · have hl := I.len
        have : (σ ++ [none])[i]? ≠ some (some v) := by
          rw [List.getElem?_append_right (by omega)]
          intro q
          have : i - σ.length = 0 := by
            have := (List.getElem?_eq_some_iff.mp q).1
            simp at this; omega
          rw [this] at q
          simp at q
        exact absurd e2 this
    have e1' : (hideN X.N x)[i]? = some y := e1
    unfold hideN at e1'
    rw [List.getElem?_append_left (by simpa using hlen), List.getElem?_map, List.getElem?_eq_getElem hlen] at e1'
    have e2' : σ[i]? = some (some v) := by
      rw [List.getElem?_append_left (by rw [I.len]; exact hlen)] at e2
      exact e2
    have hy : scope.names.lookup y = some .free ∧ X.N[i]? = some y := by
      have e3' : scope.names.lookup y = some .local ∨ scope.names.lookup y = some .cell ∨ scope.names.lookup y = some .free := e3
      have e4 : (if X.N[i] = x ∨ X.N[i] = ".0" then ("" : Str) else X.N[i]) = y := Option.some.inj e1'
      by_cases hx : X.N[i] = x ∨ X.N[i] = ".0"
      · rw [if_pos hx] at e4
        rw [← e4, g.non] at e3'
        rcases e3' with h | h | h <;> cases h
      · rw [if_neg hx] at e4
        rcases e3' with h | h | h
        · rw [← e4] at h
          exact absurd ((g.own _ (PySem.mem_of_lookup h) rfl).symm) hx
        · exact absurd rfl (g.nocell _ (PySem.mem_of_lookup h))
        · exact ⟨h, by rw [List.getElem?_eq_getElem hlen, e4]⟩
    obtain ⟨hf, hN⟩ := hy
    have hsc : X.env.kindOf y = some .cell ∨ X.env.kindOf y = some .free := g.free _ (PySem.mem_of_lookup hf) rfl
    obtain ⟨m0, _, hl0⟩ := I.loc
    obtain ⟨u, ru, lu⟩ := hl0 i y v hN e2' (by rcases hsc with q | q; exact .inr (.inl q); exact .inr (.inr q))
    refine ⟨u, ru, .inr ⟨.inr hf, ?_⟩⟩
    rcases lu with ⟨q, _⟩ | ⟨_, c, q1, q2⟩
    · rcases hsc with z | z <;> (rw [q] at z; cases z)
    · obtain ⟨c', h1, h2⟩ := look hf
      rw [q1] at h2
      cases h2
      obtain ⟨o, ho, hd⟩ := q2
      exact ⟨c, h1, o, kp _ _ ho, hd⟩
  case cell =>
    obtain ⟨_, _, v, o, ho, hd⟩ := cl e
    exact ⟨v, o, kp _ _ ho, hd⟩
  case freeC => exact I.freeC y c (cl e).1
  case pin =>
    have hp' : p ∈ pn := by
      rcases List.mem_append.mp hp with z | z
      · exact z
      · cases z
    obtain ⟨h1, h2, h3, h4⟩ := hpn p hp'
    exact ⟨h1, fresh _ h2, h3, fun hm => by
      rcases List.mem_cons.mp (I.stkSub p.1 hm) with q | q
      · exact absurd (Nat.lt_of_lt_of_le I.lt (by rw [← q]; exact h2)) (Nat.lt_irrefl _)
      · exact I.nofs h2 q, h4⟩
  case len =>
    show (σ ++ [none]).length = (hideN X.N x).length
    simp [hideN, I.len]
end
end Tw
end

section
set_option Elab.async false
set_option maxRecDepth 100000
set_option maxHeartbeats 3000000
set_option autoImplicit true
set_option linter.all false
set_option relaxedAutoImplicit true
namespace Tw
open PySem L2
/-! ## 16. any, all of a generator expression: the run -/
def okS (o : Option (Nat × Ob)) (S : Store) : Prop := match o with
  | none => True
  | some (n, ob) => S[n]? = some ob
/-- no error comes out -/
def nr {α : Type} (m : M α) : M α := fun S => match m S with
  | some (.ok a S1) => some (.ok a S1)
  | _ => none
open Classical in
noncomputable def quant (stop : Bool) (o : Option (Nat × Ob)) (fe : Ev) (ρ : Rho) : List Vl → M Vl
  | [] => fun S => if okS o S then some (.ok (.bl (!stop)) S) else none
  | x :: xs => fun S => if okS o S then bnd (nr (fe (ρ ++ [some x]))) (fun y => bnd (asB y) fun c => if c = stop then ret (.bl stop) else quant stop o fe ρ xs) S else none
noncomputable def eQuant (stop : Bool) (fi fe : Ev) : Ev := fun ρ => bnd (fi ρ) fun x => match x with
  | .tup xs => quant stop none fe ρ xs
  | .frz xs => quant stop none fe ρ xs
  | .loc n => fun S => match S[n]? with
    | some (.lst xs) => quant stop (some (n, .lst xs)) fe ρ xs S
    | _ => none
  | _ => stuck
abbrev W0 : WX := fun _ _ _ _ => False
theorem Run.nr {α β : Type} {G : GG} {Rel : List Addr → Hp → α → β → Prop} {m : M α} {μ : List Addr} {H : Hp} {S : Store} {Q : β → Hp → Prop} {EQ EQ' : Str → List Addr → Hp → Store → Prop} (h : Run G Rel (nr m) μ H S Q EQ) : Run G Rel m μ H S Q EQ' := by
  obtain ⟨r, e, h⟩ := h
  unfold Tw.nr at e
  cases q : m S with
  | none => rw [q] at e; cases e
  | some r1 =>
    rw [q] at e
    cases r1 with
    | ok a S1 => cases e; exact ⟨_, q, h⟩
    | er c S1 => cases e
/-- what is walked has the items xs -/
structure Wlk (G : GG) (J : It) (μ0 : List Addr) (H0 : Hp) (o : Option (Nat × Ob)) (xs : List Vl) : Prop where
  go : ∀ i μ H S, Gr μ0 H0 μ H → RS G μ H S → okS o S → i < xs.length → J.go i H ∧ ∀ v H', J.yld i H v H' → H' = H ∧ ∃ x, xs[i]? = some x ∧ Rv G μ H x v
  stop : ∀ i μ H S, Gr μ0 H0 μ H → RS G μ H S → okS o S → xs.length ≤ i → J.stop i H
section
variable {G : GG} {μ0 : List Addr} {H0 : Hp} {xs : List Vl} {vs : List V} {a : Addr}
theorem wlk_tup (h : SqT G.K H0 a vs) (r : Rvs G μ0 H0 xs vs) : Wlk G (Itt G.K a) μ0 H0 none xs := by
  refine ⟨fun i μ H S g rs _ hi => ⟨⟨vs, vs[i]'(by rw [← r.length]; exact hi), g.sqt h, List.getElem?_eq_getElem _⟩, fun v H' hy => ?_⟩, fun i μ H S g rs _ hi => ⟨vs, g.sqt h, by rw [← r.length]; exact hi⟩⟩
  obtain ⟨rfl, hy⟩ := hy
  exact ⟨rfl, (r.up g).get' (hy vs (g.sqt h))⟩
theorem wlk_frz (h : SqC G.K H0 a vs) (r : Rvs G μ0 H0 xs vs) : Wlk G (Itl G.K a) μ0 H0 none xs := by
  have sq : ∀ {μ H}, Gr μ0 H0 μ H → SqL G.K H a vs := fun g => (h.up g).sql
  refine ⟨fun i μ H S g rs _ hi => ⟨⟨vs, vs[i]'(by rw [← r.length]; exact hi), sq g, List.getElem?_eq_getElem _⟩, fun v H' hy => ?_⟩, fun i μ H S g rs _ hi => ⟨vs, sq g, by rw [← r.length]; exact hi⟩⟩
  obtain ⟨rfl, hy⟩ := hy
  exact ⟨rfl, (r.up g).get' (hy vs (sq g))⟩
theorem wlk_loc {n : Nat} (h : μ0[n]? = some a) : Wlk G (Itl G.K a) μ0 H0 (some (n, .lst xs)) xs := by
  have sq : ∀ {μ H S}, Gr μ0 H0 μ H → RS G μ H S → okS (some (n, .lst xs)) S → ∃ ws, H a = some (.lst ws) ∧ Rvs G μ H xs ws := fun {μ H S} g rs ok => by
    obtain ⟨b, e1, ws, h1, r1⟩ := rs.ob n _ ok
    rw [g.pre _ _ h] at e1
    cases e1
    exact ⟨ws, h1, r1⟩
  refine ⟨fun i μ H S g rs ok hi => ?_, fun i μ H S g rs ok hi => ?_⟩
  · obtain ⟨ws, h1, r1⟩ := sq g rs ok
    refine ⟨⟨ws, ws[i]'(by rw [← r1.length]; exact hi), .of h1, List.getElem?_eq_getElem _⟩, fun v H' hy => ?_⟩
    obtain ⟨rfl, hy⟩ := hy
    exact ⟨rfl, r1.get' (hy ws (.of h1))⟩
  · obtain ⟨ws, h1, r1⟩ := sq g rs ok
    exact ⟨ws, .of h1, by rw [← r1.length]; exact hi⟩
end
/-- what is left of the run behind i items -/
def GL (G : GG) (stop : Bool) (o : Option (Nat × Ob)) (fe : Ev) (ρ : Rho) (xs : List Vl) (σ : St) (μ0 : List Addr) (H0 : Hp) (Q : VK) (EQ : Str → List Addr → Hp → Store → Prop) (i : Nat) (H : Hp) : Prop :=
  ∃ μ S, Gr μ0 H0 μ H ∧ RS G μ H S ∧ RR G μ H ρ σ ∧ Run G (Rv G) (quant stop o fe ρ (xs.drop i)) μ H S Q EQ
theorem quant_here {stop o fe ρ xs S} (h : ¬ okS o S) : quant stop o fe ρ xs S = none := by
  cases xs <;> (unfold quant; rw [if_neg h])
/-- asleep, i items being out -/
def GJ (X' : Cx) (fp : List Addr) (tn : Nat → Heap → Prop) (σ : St) (L : Nat → Hp → Prop) (i : Nat) (s : Shared) : Prop :=
  ∃ H w, Inv X' [] (σ ++ [w]) H s ∧ tn i s.heap ∧ (∀ b ∈ fp, FpOk X' [] H b) ∧ L i H
def GF (X' : Cx) (σ : St) (Q : VK) (v : V) (s : Shared) : Prop := ∃ H w, Inv X' [] (σ ++ [w]) H s ∧ Q v H
/-- nothing but the table of generators may have changed -/
def Slp (s s' : Shared) : Prop := s'.heap = s.heap ∧ s'.os = s.os ∧ PyProof.Rows.AllBare s'.gens
theorem Inv.slp {X : Cx} {pins : List (Addr × Obj)} {σ : St} {H : Hp} {s s' : Shared} (I : Inv X pins σ H s) (h : Slp s s') : Inv X pins σ H s' := by
  obtain ⟨h1, h2, h3⟩ := h
  refine I.call' (ch := []) h2 (Un.kept fun b o e => by rw [h1]; exact e) (I.hok.kept fun b o e => by rw [h1]; exact e) h3 fun b z => ?_
  cases z
def YG (X' : Cx) (fp : List Addr) (tn : Nat → Heap → Prop) (σ : St) (L : Nat → Hp → Prop) (Q : VK) (stop : Bool) (n0 : Nat) : Protocol := fun n _ v s kap =>
  ∃ b i, v = .bool b ∧ n + (i + 1) = n0 ∧ (b = stop → GF X' σ Q (.bl stop) s) ∧ (b ≠ stop → GJ X' fp tn σ L (i + 1) s) ∧ PyProof.Rows.AllBare s.gens ∧ (b ≠ stop → ∀ s', Slp s s' → kap (.send .none) s')
def RG (X' : Cx) (σ : St) (Q : VK) (stop : Bool) : Nat → Shared → Shared → Prop := fun _ _ s => GF X' σ Q (.bl (!stop)) s
section
variable {X : Cx} {G : GG} {sc : Shared} {Hc : Hp} {scope : Scope} {x : Str} {C : Addr} {code : Value} {Ao : Around} {pn : List (Addr × Obj)} {fp : List Addr} {J : It} {it : Addr} {tn : Nat → Heap → Prop}
  {stop : Bool} {o : Option (Nat × Ob)} {fe : Ev} {ρ : Rho} {xs : List Vl} {σ : St} {μ0 : List Addr} {H0 : Hp} {Q : VK} {EQ : Str → List Addr → Hp → Store → Prop} {elt iter : Expr} {px gpos : Pos} {cl : List (Str × Addr)} {bi : Addr}
theorem gen_seg (g : GSc X.N X.env.scope scope x) (Tn : Turn X.prog X.w X.K (.Name x px) J fp it tn) (wk : Wlk G J μ0 H0 o xs) (hN : (hideN X.N x).Nodup ∨ True)
    (hel : PE (gcx X sc Hc (genEnv scope cl C code bi X.env) (Ao.deeper (genEnv scope cl C code bi X.env)) (hideN X.N x) pn fp) elt (T G W0 fe))
    (hst : PG (gcx X sc Hc (genEnv scope cl C code bi X.env) (Ao.deeper (genEnv scope cl C code bi X.env)) (hideN X.N x) pn fp) (.Name x px) (gName X.N.length)) (hσ : σ.length = X.N.length) :
    ∀ (k i : Nat) (s0 s : Shared), xs.length - i = k → i ≤ xs.length →
      GJ (gcx X sc Hc (genEnv scope cl C code bi X.env) (Ao.deeper (genEnv scope cl C code bi X.env)) (hideN X.N x) pn fp) fp tn σ (GL G stop o fe ρ xs σ μ0 H0 Q EQ) i s →
      Seg (model X.prog X.w) Ao (fun n s0 r s1 => r = .ok .next ∧ RG (gcx X sc Hc (genEnv scope cl C code bi X.env) (Ao.deeper (genEnv scope cl C code bi X.env)) (hideN X.N x) pn fp) σ Q stop n s0 s1)
        (YG (gcx X sc Hc (genEnv scope cl C code bi X.env) (Ao.deeper (genEnv scope cl C code bi X.env)) (hideN X.N x) pn fp) fp tn σ (GL G stop o fe ρ xs σ μ0 H0 Q EQ) Q stop xs.length) k s0
        (.compLoop (.GeneratorExp elt [⟨.Name x px, iter, [], 0⟩] scope gpos) 0 (.ref it) .none (genEnv scope cl C code bi X.env))
        ((model X.prog X.w).den (.compLoop (.GeneratorExp elt [⟨.Name x px, iter, [], 0⟩] scope gpos) 0 (.ref it) .none (genEnv scope cl C code bi X.env))) [] s := by
  generalize hX' : gcx X sc Hc (genEnv scope cl C code bi X.env) (Ao.deeper (genEnv scope cl C code bi X.env)) (hideN X.N x) pn fp = X' at hel hst ⊢
  have e1 : X'.prog = X.prog := by rw [← hX']; rfl
  have e2 : X'.w = X.w := by rw [← hX']; rfl
  have e3 : X'.K = X.K := by rw [← hX']; rfl
  have e4 : X'.calm = true := by rw [← hX']; rfl
  have e5 : X'.A = Ao.deeper (genEnv scope cl C code bi X.env) := by rw [← hX']; rfl
  have e6 : X'.env = genEnv scope cl C code bi X.env := by rw [← hX']; rfl
  have e7 : X'.xe = fun _ _ => False := by rw [← hX']; rfl
  have over : Ao.over (.compLoop (.GeneratorExp elt [⟨.Name x px, iter, [], 0⟩] scope gpos) 0 (.ref it) .none (genEnv scope cl C code bi X.env)) [] = X'.A := by rw [e5]; rfl
  have here : ∀ {i H}, GL G stop o fe ρ xs σ μ0 H0 Q EQ i H → ∃ μ S, Gr μ0 H0 μ H ∧ RS G μ H S ∧ RR G μ H ρ σ ∧ okS o S ∧ Run G (Rv G) (quant stop o fe ρ (xs.drop i)) μ H S Q EQ := fun {i H} h => by
    obtain ⟨μ, S, h1, h2, h3, run⟩ := h
    by_cases ok : okS o S
    · exact ⟨μ, S, h1, h2, h3, ok, run⟩
    · exact run.no (quant_here ok)
  intro k
  induction k with
  | zero =>
    intro i s0 s hk hi hj
    obtain ⟨H, w, I, st, fpo, gl⟩ := hj
    obtain ⟨μ, S, g0, rs, rr, ok, run⟩ := here gl
    have hil : xs.length ≤ i := by omega
    show Seg _ Ao _ _ _ s0 _ ((compTurn (.GeneratorExp elt [⟨.Name x px, iter, [], 0⟩] scope gpos) 0 (.ref it) .none (genEnv scope cl C code bi X.env)).onRaise (leaving (genEnv scope cl C code bi X.env))) [] s
    rw [compTurn_gen, Sem.onRaise_eq_wrap]
    refine seg_bind_wrap (wpAny_standAt ?_)
    refine seg_bind_wrap ?_
    rw [over]
    refine thn (Tn.done X' e1 e2 e3 e4 i [] s _ H _ I fpo st (wk.stop i μ H S g0 rs ok hil)) fun r s1 ⟨hr, I1⟩ => ?_
    subst hr
    refine seg_end (.ok .next) ⟨rfl, H, w, I1, ?_⟩
    rw [List.drop_of_length_le hil] at run
    refine run.end_ (a := .bl (!stop)) (S1 := S) ?_ μ H _ .refl (.bl _) rs
    unfold quant
    exact if_pos ok
  | succ k ih =>
    intro i s0 s hk hi hj
    obtain ⟨H, w, I, st, fpo, gl⟩ := hj
    obtain ⟨μ, S, g0, rs, rr, ok, run⟩ := here gl
    have hil : i < xs.length := by omega
    obtain ⟨go, yld⟩ := wk.go i μ H S g0 rs ok hil
    show Seg _ Ao _ _ _ s0 _ ((compTurn (.GeneratorExp elt [⟨.Name x px, iter, [], 0⟩] scope gpos) 0 (.ref it) .none (genEnv scope cl C code bi X.env)).onRaise (leaving (genEnv scope cl C code bi X.env))) [] s
    rw [compTurn_gen, Sem.onRaise_eq_wrap]
    refine seg_bind_wrap (wpAny_standAt ?_)
    refine seg_bind_wrap ?_
    rw [over]
    refine thn (Tn.item X' e1 e2 e3 e4 i [] s _ H _ I fpo st go) fun r s1 ⟨u, hr, h4⟩ => ?_
    subst hr
    refine seg_bind_wrap ?_
    rw [over]
    refine thn h4 fun _ s5 ⟨v, H5, I5, r5, y5, st5, fr5⟩ => ?_
    obtain ⟨rfl, xi, hxi, rxi⟩ := yld v H5 y5
    have stat : ∀ {H' : Hp}, (∀ b ∈ fp, H' b = none) → ∀ b ∈ fp, FpOk X' [] H' b := fun hn b hb => ⟨hn b hb, (fpo b hb).2⟩
    have I5' := I5.pinned (stat fr5) (Tn.obj _ _ st5)
    refine seg_bind_wrap ?_
    rw [over, ← e6]
    have zst := hst.run _ s5 _ H5 v u (fun σ' H' => σ' = (σ ++ [w]).set X.N.length (some v) ∧ H' = H5) I5' r5 ⟨rfl, rfl⟩
    rw [e1, e2] at zst
    refine wpAny_mono zst (fun _ s6 ⟨σ6, H6, I6, q1, q2⟩ => ?_) (fun _ _ z => by rw [e7] at z; exact z.elim)
    subst q2
    have q1' : σ6 = σ ++ [some v] := by rw [q1, List.set_append_right _ _ (by omega), hσ, Nat.sub_self]; rfl
    subst q1'
    refine seg_bind_wrap (wpAny_of_eq (a := true) (by first | rfl | simp only [List.forIn_nil]) ?_)
    simp only [if_true]
    have hy : ∀ v, yieldOut X'.env v = yieldValue v := fun v => by
      rw [e6]
      simp only [yieldOut, genEnv, g.co, Bool.false_eq_true, if_false]
    simp only [hy]
    rw [Sem.bind_eq_wrap', Sem.bind_eq_wrap', Sem.wrap_wrap, Sem.wrap_wrap]
    refine seg_wrap ?_
    rw [e6, over, ← e6]
    have ed : xs.drop i = xi :: xs.drop (i + 1) := by
      rw [List.drop_eq_getElem_cons hil]
      rw [List.getElem?_eq_getElem hil] at hxi
      cases hxi
      rfl
    have run1 : Run G (Rv G) (bnd (nr (fe (ρ ++ [some xi]))) (fun y => bnd (asB y) fun c => if c = stop then ret (.bl stop) else quant stop o fe ρ (xs.drop (i + 1)))) μ H6 S Q EQ := by
      refine run.cong ?_
      rw [ed]
      symm
      rw [quant]
      exact if_pos ok
    have rr6 : RR G μ H6 (ρ ++ [some xi]) (σ ++ [some v]) := by
      refine ⟨by simp [rr.len], fun j z e => ?_⟩
      by_cases hj : j < ρ.length
      · rw [List.getElem?_append_left hj] at e
        obtain ⟨v', h1, h2⟩ := rr.at_ j z e
        exact ⟨v', by rw [List.getElem?_append_left (by rw [← rr.len]; exact hj)]; exact h1, h2⟩
      · have hl : j = ρ.length := by
          have := (List.getElem?_eq_some_iff.mp e).1
          simp at this; omega
        subst hl
        simp at e
        subst e
        exact ⟨v, by rw [rr.len]; simp, rxi⟩
    have zel := hel.run _ s6 _ H6 _ I6 ⟨μ, ρ ++ [some xi], S, rs, rr6, Run.nr (run1.bnd)⟩
    rw [e1, e2] at zel
    refine wpAny_mono zel (fun y s7 h7 => ?_) (fun _ _ z => by rw [e7] at z; exact z.elim)
    obtain ⟨yv, H7, I7, ry, μ7, yl, S7, g7, ryl, rs7, run7⟩ := h7
    have keep7 : tn (i + 1) s7.heap ∧ ∀ b ∈ fp, H7 b = none := by
      refine ⟨Tn.keep _ _ _ st5 fun b hb ob e => (I7.pin (b, ob) (List.mem_append_right _ (List.mem_append_right _ (mem_pinsAt hb e)))).1, fun b hb => ?_⟩
      obtain ⟨ob, e, d⟩ := Tn.obj _ _ st5 b hb
      exact (I7.pin (b, ob) (List.mem_append_right _ (List.mem_append_right _ (mem_pinsAt hb e)))).2.1
    have I7' : Inv X' [] (σ ++ [some v]) H7 s7 := I7.unpinned
    cases ryl with
    | bl c =>
      cases ry
      have run8 : Run G (Rv G) (if c = stop then ret (.bl stop) else quant stop o fe ρ (xs.drop (i + 1))) μ7 H7 S7 Q EQ := run7
      have fin : c = stop → GF X' σ Q (.bl stop) s7 := fun e => by
        rw [if_pos e] at run8
        exact ⟨H7, some v, I7', run8.ret (.bl _) rs7⟩
      have nxt : c ≠ stop → GJ X' fp tn σ (GL G stop o fe ρ xs σ μ0 H0 Q EQ) (i + 1) s7 := fun e => by
        rw [if_neg e] at run8
        exact ⟨H7, some v, I7', keep7.1, stat keep7.2, μ7, S7, g0.trans g7, rs7, rr.up g7, run8⟩
      refine seg_at (seg_yield rfl rfl rfl ⟨c, i, rfl, by omega, fin, nxt, I7'.bare, fun e s' hs => ?_⟩)
      have ih1 := ih (i + 1) s' s' (by omega) hil
      rw [← e6] at ih1
      refine seg_again rfl (ih1 ?_)
      obtain ⟨H8, w8, I8, st8, fpo8, gl8⟩ := nxt e
      exact ⟨H8, w8, Inv.slp I8 hs, by rw [hs.1]; exact st8, fpo8, gl8⟩
    | _ => exact run7.no rfl
end
end Tw
end

section
set_option Elab.async false
set_option maxRecDepth 100000
set_option maxHeartbeats 3000000
set_option autoImplicit true
set_option linter.all false
set_option relaxedAutoImplicit true
namespace Tw
open PySem L2
/-! ## 17. any, all of a generator expression: the rules -/
section
variable {X : Cx} {G : GG} {W : WX} {sc : Shared} {Hc : Hp} {scope : Scope} {x : Str} {C : Addr} {code : Value} {Ao : Around} {pn : List (Addr × Obj)} {fp : List Addr} {J : It} {it : Addr} {tn : Nat → Heap → Prop}
  {stop : Bool} {o : Option (Nat × Ob)} {fe fi : Ev} {ρ : Rho} {xs : List Vl} {σ : St} {μ0 : List Addr} {H0 : Hp} {Q : VK} {EQ : Str → List Addr → Hp → Store → Prop} {elt iter : Expr} {px gpos : Pos} {cl : List (Str × Addr)} {bi : Addr} {k : Nat}
/-- the generator's context, its around over Ao -/
abbrev gX (X : Cx) (sc : Shared) (Hc : Hp) (scope : Scope) (cl : List (Str × Addr)) (C : Addr) (code : Value) (bi : Addr) (Ao : Around) (x : Str) (pn : List (Addr × Obj)) (fp : List Addr) : Cx :=
  gcx X sc Hc (genEnv scope cl C code bi X.env) (Ao.deeper (genEnv scope cl C code bi X.env)) (hideN X.N x) pn fp
theorem gen_seg0 (g : GSc X.N X.env.scope scope x) (Tn : Turn X.prog X.w X.K (.Name x px) J fp it tn) (wk : Wlk G J μ0 H0 o xs)
    (hel : PE (gX X sc Hc scope cl C code bi Ao x pn fp) elt (T G W0 fe)) (hst : PG (gX X sc Hc scope cl C code bi Ao x pn fp) (.Name x px) (gName X.N.length)) (hσ : σ.length = X.N.length) (s0 s : Shared)
    (h : GJ (gX X sc Hc scope cl C code bi Ao x pn fp) fp tn σ (GL G stop o fe ρ xs σ μ0 H0 Q EQ) 0 s) :
      Seg (model X.prog X.w) Ao (fun n s0 r s1 => r = .ok .next ∧ RG (gX X sc Hc scope cl C code bi Ao x pn fp) σ Q stop n s0 s1)
        (YG (gX X sc Hc scope cl C code bi Ao x pn fp) fp tn σ (GL G stop o fe ρ xs σ μ0 H0 Q EQ) Q stop xs.length) xs.length s0
        (.compStart (.GeneratorExp elt [⟨.Name x px, iter, [], 0⟩] scope gpos) 0 (.ref it) .none (genEnv scope cl C code bi X.env))
        ((model X.prog X.w).den (.compStart (.GeneratorExp elt [⟨.Name x px, iter, [], 0⟩] scope gpos) 0 (.ref it) .none (genEnv scope cl C code bi X.env))) [] s := by
  have loop := gen_seg (iter := iter) (gpos := gpos) (stop := stop) (o := o) (fe := fe) (ρ := ρ) (Q := Q) (EQ := EQ) g Tn wk (.inr trivial) hel hst hσ xs.length 0 s0 s (Nat.sub_zero _) (Nat.zero_le _) h
  obtain ⟨H, w, I, st, fpo, gl⟩ := h
  show Seg _ Ao _ _ _ s0 _ ((compStart (.GeneratorExp elt [⟨.Name x px, iter, [], 0⟩] scope gpos) 0 (.ref it) .none (genEnv scope cl C code bi X.env)).onRaise (leaving (genEnv scope cl C code bi X.env))) [] s
  unfold compStart
  rw [Sem.onRaise_eq_wrap]
  show Seg _ Ao _ _ _ s0 _ ((ask >>= _).wrap _ _ _ _) [] s
  refine seg_bind_wrap (wpAny_askSetting ?_)
  split
  · exact seg_again rfl loop
  · refine seg_bind_wrap (wpAny_rule ?_)
    first
      | exact seg_bind_wrap (wpAny_standAt (seg_bind_wrap (Tn.self _ 0 s _ _ st (seg_again rfl loop))))
      | (show Seg _ Ao _ _ _ s0 _ ((standAt iter.pos >>= _).wrap _ _ _ _) [] s; exact seg_bind_wrap (wpAny_standAt (seg_bind_wrap (Tn.self _ 0 s _ _ st (seg_again rfl loop)))))
theorem GJ.slp {X' : Cx} {L : Nat → Hp → Prop} {i : Nat} {s s' : Shared} (h : GJ X' fp tn σ L i s) (z : Slp s s') : GJ X' fp tn σ L i s' := by
  obtain ⟨H, w, I, st, fpo, gl⟩ := h
  exact ⟨H, w, Inv.slp I z, by rw [z.1]; exact st, fpo, gl⟩
theorem GF.slp {X' : Cx} {v : V} {s s' : Shared} (h : GF X' σ Q v s) (z : Slp s s') : GF X' σ Q v s' := by
  obtain ⟨H, w, I, q⟩ := h
  exact ⟨H, w, Inv.slp I z, q⟩
/-- asleep, as the consumer sees it -/
def GAs (P : Program) (w : PySem.World) (A : Around) (X' : Cx) (fp : List Addr) (tn : Nat → Heap → Prop) (σ : St) (L : Nat → Hp → Prop) (Q : VK) (stop : Bool) (n0 : Nat) (g : Nat) (i : Nat) (s : Shared) : Prop :=
  GJ X' fp tn σ L i s ∧ ∃ gs, s.gens[g]? = some gs ∧ ∀ s', Slp s s' → gs.Goes (model P w) A.in1 (fun n s0 r s1 => r = .ok .next ∧ RG X' σ Q stop n s0 s1) (YG X' fp tn σ L Q stop n0) (n0 - i) (.send .none) s'
theorem gas_turn {X' : Cx} {L : Nat → Hp → Prop} {n0 g i : Nat} {a : Addr} {go : Obj} {s : Shared} {A : Around} {E : Value → Shared → Prop} (hh : A.handled = none) (hroom : A.depth < recursionLimit) (hpn : (a, go) ∈ X'.pn) (hgo : ∀ h : Heap, h.get? a = some go → h.IsGen a g)
    (hi : i ≤ n0) (h : GAs X.prog X.w A X' fp tn σ L Q stop n0 g i s) :
    wpAny (model X.prog X.w) A (pyNext (.ref a)) (fun r s' => match r with
      | none => GF X' σ Q (.bl (!stop)) s'
      | some v => ∃ b, v = .bool b ∧ (b = stop → GF X' σ Q (.bl stop) s') ∧ (b ≠ stop → i < n0 ∧ GAs X.prog X.w A X' fp tn σ L Q stop n0 g (i + 1) s')) E s := by
  obtain ⟨hj, gs, hgs, hgo2⟩ := h
  obtain ⟨H, w, I, st, fpo, gl⟩ := id hj
  have hg : s.heap.IsGen a g := hgo _ (I.pin (a, go) (List.mem_append_left _ hpn)).1
  have hlt : g + 1 ≤ s.gens.size := (Array.getElem?_eq_some_iff.mp hgs).1
  refine GenW.wpAny_gsz hlt ?_
  refine wpAny_pyNext_genexpQ (P := fun n s0 s1 => RG X' σ Q stop n s0 s1) hh I.nolimit hroom hg hgs (hgo2 _ ⟨rfl, rfl, allBare_setGen I.bare rfl⟩) (fun v s1 gs' hb hv => ?_) (fun s1 hp h' hk => ?_)
  · obtain ⟨b, i', rfl, hn, hfin, hnx, hbare, hkap⟩ := hv
    intro hsz
    have slp : Slp s1 (s1.setGen g gs') := ⟨rfl, rfl, allBare_setGen hbare hb⟩
    refine ⟨b, rfl, fun e => (hfin e).slp slp, fun e => ?_⟩
    have hk := hkap e
    have hpos : i < n0 := by
      by_cases hc : i < n0
      · exact hc
      · have hz : n0 - i = 0 := by omega
        rw [hz] at hk
        exact False.elim (hk s1 ⟨rfl, rfl, hbare⟩)
    obtain ⟨m, hm⟩ : ∃ m, n0 - i = m + 1 := ⟨n0 - i - 1, by omega⟩
    rw [hm] at hk hn
    have hi' : i' = i := by omega
    subst hi'
    refine ⟨hpos, (hnx e).slp slp, gs', ?_, fun s' hs' => ?_⟩
    · have hsz' : g < s1.gens.size := by
        have : (s1.setGen g gs').gens.size = s1.gens.size := GenW.setGen_size s1 g gs'
        omega
      simp [Shared.setGen, hsz']
    · have hm' : n0 - (i' + 1) = m := by omega
      rw [hm']
      exact hk s' ⟨hs'.1, hs'.2.1, hs'.2.2⟩
  · intro _
    obtain ⟨H1, w1, I1, q1⟩ := hp
    have I2 : Inv X' [] (σ ++ [w1]) H1 (s1.setGen g .finished) := Inv.slp I1 ⟨rfl, rfl, allBare_setGen I1.bare rfl⟩
    exact ⟨H1, w1, I2.kept (t' := (s1.setGen g .finished).toks) hk, q1⟩
/-- back in the def's own frame -/
theorem GF.back {pins : List (Addr × Obj)} {v : V} {u : Value} {s : Shared} (I : Inv X pins σ Hc sc) (hfp : ∀ b ∈ fp, FpOk X pins Hc b) (h : GF (gX X sc Hc scope cl C code bi Ao x pn fp) σ Q v s) (r : RelV v u) : EP X pins σ Q u s := by
  obtain ⟨H, w, I1, q⟩ := h
  refine ⟨v, H, ?_, r, q⟩
  exact I.call' (ch := fp) I1.os I1.base I1.hok I1.bare fun b hb => ⟨(hfp b hb).2.2.2.1, (hfp b hb).2.1, (hfp b hb).2.2.2.2.1, (hfp b hb).2.2.2.2.2⟩
/-- a table grows -/
theorem RS.tbl {μ : List Addr} {H : Hp} {S : Store} {P : Addr} {ps more : Array Value} (rs : RS G μ H S) (hP : H P = some (.tbl ps)) (ht : TriplesOk (ps ++ more).toList) : RS G μ (upd H P (.tbl (ps ++ more))) S ∧ Gr μ H μ (upd H P (.tbl (ps ++ more))) := by
  have hne : ∀ b u, H b = some u → (∀ l, u ≠ .tbl l) → b ≠ P := fun b u q z1 z2 => by subst z2; rw [hP] at q; cases q; exact z1 _ rfl
  have g : Gr μ H μ (upd H P (.tbl (ps ++ more))) := ⟨fun _ _ q => q, fun b l q => by rw [upd_ne (hne b _ q fun _ z => nomatch z)]; exact q, fun b o u q => by rw [upd_ne (hne b _ q fun _ z => nomatch z)]; exact q⟩
  refine ⟨⟨rs.len, rs.nd, fun m ob q => ?_, fun P' hP' => ?_⟩, g⟩
  · obtain ⟨b, h1, h2⟩ := rs.ob m ob q
    obtain ⟨u, hu, _, _, hz⟩ := h2.some
    exact ⟨b, h1, h2.up g (upd_ne (hne b u hu hz))⟩
  · by_cases e : P' = P
    · subst e
      exact ⟨_, upd_same, ht⟩
    · obtain ⟨qs, q, t⟩ := rs.tab P' hP'
      exact ⟨qs, by rw [upd_ne e]; exact q, t⟩
end
end Tw
end

section
set_option Elab.async false
set_option maxRecDepth 100000
set_option maxHeartbeats 3000000
set_option autoImplicit true
set_option linter.all false
set_option relaxedAutoImplicit true
namespace Tw
open PySem L2
section
variable {X : Cx} {G : GG} {W : WX} {scope : Scope} {x : Str} {stop : Bool} {fe fi : Ev} {σ : St} {H : Hp} {Q : VK} {elt iter : Expr} {px gpos : Pos} {k : Nat} {c P : Addr} {pins : List (Addr × Obj)} {s : Shared}
/-- ready for the consumer -/
def GRd (X : Cx) (pins : List (Addr × Obj)) (σ : St) (Q : VK) (stop : Bool) (a : Addr) (s : Shared) : Prop :=
  ∃ (g n0 : Nat) (go : Obj) (X' : Cx) (fp : List Addr) (tn : Nat → Heap → Prop) (L : Nat → Hp → Prop), s.heap.IsGen a g ∧ (a, go) ∈ X'.pn ∧ (∀ h : Heap, h.get? a = some go → h.IsGen a g) ∧ GAs X.prog X.w X.A.in1 X' fp tn σ L Q stop n0 g 0 s ∧
    ∀ v u s', GF X' σ Q v s' → RelV v u → EP X pins σ Q u s'
/-- what stands where the frame is made -/
theorem gen_frame {G : GG} {μ0 : List Addr} {H0 : Hp} {o : Option (Nat × Ob)} {ρ : Rho} {xs : List Vl} {EQ : Str → List Addr → Hp → Store → Prop} {s4 : Shared} {H4 : Hp} {fp : List Addr} {J : It} {it : Addr} {tn : Nat → Heap → Prop} {code : Value} {Qv : Value → Shared → Prop}
    (hr : Room (k + 1) X.A) (hgd : X.A.guards = some []) (g : GSc X.N X.env.scope scope x) (I : Inv X pins σ H4 s4) (Tn : Turn X.prog X.w X.K (.Name x px) J fp it tn) (st : tn 0 s4.heap) (fpo : ∀ b ∈ fp, FpOk X pins H4 b) (wk : Wlk G J μ0 H0 o xs) (gl : GL G stop o fe ρ xs σ μ0 H0 Q EQ 0 H4)
    (hel : ∀ X' : Cx, X'.prog = X.prog → X'.w = X.w → X'.base = X.base → (∃ sc Hc cl C code bi Ao pn fp, X' = gX X sc Hc scope cl C code bi Ao x pn fp) → At X' ⟨X.K, X.mg, G.tabs⟩ W0 k → PE X' elt (T G W0 fe)) (hG : G = ⟨X.K, X.mg, G.tabs⟩) (hnd : (hideN X.N x).Nodup)
    (hQ : ∀ a s', GRd X pins σ Q stop a s' → Qv (.ref a) s') :
    ∀ h', h'.Ns s4.heap.objs.size (fun y => if y = (".0" : Str) then some (.ref it) else none) → Heap.SameBut s4.heap.objs.size (s4.heap.push { cls := .type "frame", data := .dict #[] }) h' →
      Qv (.ref h'.objs.size) { s4 with
        gens := s4.gens.push (.fresh (.compStart (.GeneratorExp elt [⟨.Name x px, iter, [], 0⟩] scope gpos) 0 (.ref it) .none (genEnv scope (cloFrom X.env.cells scope.names []) s4.heap.objs.size code builtinsNs X.env))),
        toks := s4.toks + 1 + 1 + 1,
        heap := h'.push { cls := .type "generator", data := .fields #[.int s4.gens.size 0, .str "<genexpr>" (s4.toks + 1), .str (X.env.qual ++ "<genexpr>") (s4.toks + 1 + 1)] } } := by
  intro h' hn' hs'
  have hsz : h'.objs.size = s4.heap.objs.size + 1 := by rw [hs'.1, Heap.size_push]
  have kp1 : ∀ b ob, s4.heap.get? b = some ob → h'.get? b = some ob := fun b ob e => hs'.extBut b ob (Nat.ne_of_lt (Heap.lt_size e)) (Heap.get?_push_of_some _ e)
  generalize hgo : ({ cls := .type "generator", data := .fields #[.int s4.gens.size 0, .str "<genexpr>" (s4.toks + 1), .str (X.env.qual ++ "<genexpr>") (s4.toks + 1 + 1)] } : Obj) = go
  have isg : ∀ h : Heap, h.get? h'.objs.size = some go → h.IsGen h'.objs.size s4.gens.size := fun h e => ⟨go, _, _, e, by rw [← hgo], by rw [← hgo], by rw [← hgo]⟩
  have hfree : go.isFreed = false := by rw [← hgo]; rfl
  have hget : (h'.push go).get? h'.objs.size = some go := by
    first | exact Heap.get?_push_size _ hfree | exact Heap.get?_push_size _ rfl | (rw [← hgo]; exact Heap.get?_push_size _ rfl)
  have kp2 : ∀ b ob, s4.heap.get? b = some ob → (h'.push go).get? b = some ob := fun b ob e => Heap.get?_push_of_some _ (kp1 b ob e)
  generalize hs5 : ({ s4 with gens := s4.gens.push (.fresh (.compStart (.GeneratorExp elt [⟨.Name x px, iter, [], 0⟩] scope gpos) 0 (.ref it) .none (genEnv scope (cloFrom X.env.cells scope.names []) s4.heap.objs.size code builtinsNs X.env))), toks := s4.toks + 1 + 1 + 1, heap := h'.push go } : Shared) = s5
  have e5h : s5.heap = h'.push go := by rw [← hs5]
  have e5g : s5.gens = s4.gens.push (.fresh (.compStart (.GeneratorExp elt [⟨.Name x px, iter, [], 0⟩] scope gpos) 0 (.ref it) .none (genEnv scope (cloFrom X.env.cells scope.names []) s4.heap.objs.size code builtinsNs X.env))) := by rw [← hs5]
  have e5o : s5.os = s4.os := by rw [← hs5]
  have bare5 : PyProof.Rows.AllBare s5.gens := by rw [e5g]; exact I.bare.push rfl
  have lts : ∀ b ∈ fp, b < s4.heap.objs.size := fun b hb => by
    obtain ⟨ob, e, _⟩ := Tn.obj 0 _ st b hb
    exact Heap.lt_size e
  have hA : (X.A.in1.in1.deeper (genEnv scope (cloFrom X.env.cells scope.names []) s4.heap.objs.size code builtinsNs X.env)).handled = none := hr.hd
  have I5 := gen_start (x := x) (code := code) (bi := builtinsNs) (A' := X.A.in1.in1.deeper (genEnv scope (cloFrom X.env.cells scope.names []) s4.heap.objs.size code builtinsNs X.env)) (pn := [(h'.objs.size, go)]) (fp := fp) (C := s4.heap.objs.size) (s5 := s5)
    I g rfl (Nat.le_refl _) hA (Around.frames_deeper (A := X.A.in1.in1) I.ok.frames) (fun b hb => ⟨fpo b hb, lts b hb⟩) e5o bare5 (by rw [e5h]; exact kp2) (by rw [e5h]; exact hn'.push _) (fun p hp => by
      rw [List.mem_singleton.mp hp]
      refine ⟨by rw [e5h]; exact hget, by rw [hsz]; exact Nat.le_succ _, by rw [hsz]; exact Nat.succ_ne_self _, fun v z => ?_⟩
      rw [← hgo] at z
      cases z)
  have fpo5 : ∀ b ∈ fp, FpOk (gX X s4 H4 scope (cloFrom X.env.cells scope.names []) s4.heap.objs.size code builtinsNs X.A.in1.in1 x [(h'.objs.size, go)] fp) [] H4 b := fun b hb => by
    have z := fpo b hb
    refine ⟨z.1, Nat.ne_of_lt (lts b hb), fun hm => ?_, .inl hb, fun y c e => I5.ok.exf b hb |>.2 y c e, fun p hp => ?_⟩
    · rcases List.mem_cons.mp (I.stkSub b hm) with q | q
      · exact z.2.1 q
      · exact z.2.2.1 q
    · have hp2 : p ∈ [(h'.objs.size, go)] ++ [] := hp
      have hp' : p ∈ [(h'.objs.size, go)] := by simpa using hp2
      rw [List.mem_singleton.mp hp']
      exact Nat.ne_of_gt (by rw [hsz]; exact Nat.lt_succ_of_lt (lts b hb))
  have room' : Room k (X.A.in1.in1.deeper (genEnv scope (cloFrom X.env.cells scope.names []) s4.heap.objs.size code builtinsNs X.env)) := by
    refine ⟨hr.hd, ?_, ?_⟩
    · have := hr.dp
      show X.A.depth + 1 + 3 * k + 5 < _
      omega
    · have := hr.un
      show X.A.units + 1 + 1 + 3 + 16 * k + 200 < _
      omega
  have pel := hel (gX X s4 H4 scope (cloFrom X.env.cells scope.names []) s4.heap.objs.size code builtinsNs X.A.in1.in1 x [(h'.objs.size, go)] fp) rfl rfl rfl ⟨s4, H4, cloFrom X.env.cells scope.names [], s4.heap.objs.size, code, builtinsNs, X.A.in1.in1, [(h'.objs.size, go)], fp, rfl⟩ ⟨rfl, rfl, room', rfl, takes0, PassesOwn.never, hnd, hgd⟩
  have pst : PG (gX X s4 H4 scope (cloFrom X.env.cells scope.names []) s4.heap.objs.size code builtinsNs X.A.in1.in1 x [(h'.objs.size, go)] fp) (.Name x px) (gName X.N.length) :=
    pg_name hnd (by show (hideN X.N x)[X.N.length]? = some x; simp [hideN]) (.inl g.loc) (.inr g.loc)
  have hj : GJ (gX X s4 H4 scope (cloFrom X.env.cells scope.names []) s4.heap.objs.size code builtinsNs X.A.in1.in1 x [(h'.objs.size, go)] fp) fp tn σ (GL G stop o fe ρ xs σ μ0 H0 Q EQ) 0 s5 :=
    ⟨H4, none, I5, Tn.keep 0 _ _ st (fun b _ ob e => by rw [e5h]; exact kp2 b ob e), fpo5, gl⟩
  have hgs : s5.gens[s4.gens.size]? = some (.fresh (.compStart (.GeneratorExp elt [⟨.Name x px, iter, [], 0⟩] scope gpos) 0 (.ref it) .none (genEnv scope (cloFrom X.env.cells scope.names []) s4.heap.objs.size code builtinsNs X.env))) := by
    rw [e5g]; exact Array.getElem?_push_size ..
  have hga : GAs X.prog X.w X.A.in1 (gX X s4 H4 scope (cloFrom X.env.cells scope.names []) s4.heap.objs.size code builtinsNs X.A.in1.in1 x [(h'.objs.size, go)] fp) fp tn σ (GL G stop o fe ρ xs σ μ0 H0 Q EQ) Q stop xs.length s4.gens.size 0 s5 :=
    ⟨hj, _, hgs, fun s' hs => ⟨rfl, gen_seg0 (Ao := X.A.in1.in1) g Tn wk pel pst I.len s' s' (hj.slp hs)⟩⟩
  exact hQ _ _ ⟨s4.gens.size, xs.length, go, _, fp, tn, _, by rw [e5h]; exact isg _ hget, List.mem_singleton.mpr rfl, isg, hga, fun v u s' h r => GF.back I fpo h r⟩
end
end Tw
end

section
set_option Elab.async false
set_option maxRecDepth 100000
set_option maxHeartbeats 3000000
set_option autoImplicit true
set_option linter.all false
set_option relaxedAutoImplicit true
namespace Tw
open PySem L2
section
variable {X : Cx} {G : GG} {W : WX} {scope : Scope} {x : Str} {stop : Bool} {fe fi : Ev} {σ : St} {H : Hp} {Q : VK} {elt iter : Expr} {px gpos pos p : Pos} {k : Nat} {c P : Addr} {pins : List (Addr × Obj)} {s : Shared}
/-- the generator is made -/
theorem gen_make (at_ : At X G W (k + 1)) (TB : GxR.TabB X.base X.mg c P) (hP : P ∈ G.tabs) (hcode : X.env.code = .ref c) (g : GSc X.N X.env.scope scope x) (hnd : (hideN X.N x).Nodup) (hi : PE X iter (T G W fi))
    (hel : ∀ X' : Cx, X'.prog = X.prog → X'.w = X.w → X'.base = X.base → (∃ sc Hc cl C code bi Ao pn fp, X' = gX X sc Hc scope cl C code bi Ao x pn fp) → At X' ⟨X.K, X.mg, G.tabs⟩ W0 k → PE X' elt (T G W0 fe))
    (hs : ∀ v, genFold iter X.env v = pure v) (I : Inv X pins σ H s) (h : T G W (eQuant stop fi fe) σ H Q) {Qv : Value → Shared → Prop} (hQ : ∀ a s', GRd X pins σ Q stop a s' → Qv (.ref a) s') :
    wpAny (model X.prog X.w) X.A (eval (.GeneratorExp elt [⟨.Name x px, iter, [], 0⟩] scope gpos) X.env) Qv X.xe s := by
  have hG : G = ⟨X.K, X.mg, G.tabs⟩ := by
    obtain ⟨K, mg, tabs⟩ := G
    have e1 : K = X.K := at_.K
    have e2 : mg = X.mg := at_.mg
    rw [e1, e2]
  have hfree : ∀ y ∈ scope.names, y.2 = .free → ∃ c, X.env.cells.lookup y.1 = some c := fun y hy e => by
    rcases g.free y hy e with q | q
    · exact I.ok.has _ (.inl q)
    · exact I.ok.has _ (.inr q)
  have hclos := closure_ok hfree
  obtain ⟨μ, ρ, S, rs, rr, run⟩ := h
  have hit := (pi_seq (tg := .Name x px) hi).run pins s σ H (fun J H1 => ∃ μ1 H0 o xs, Wlk G J μ1 H0 o xs ∧ GL G stop o fe ρ xs σ μ1 H0 Q (EW G W σ) 0 H1) I (by
    refine T_bnd rs rr run fun v H1 μ1 y S1 g1 ry rs1 rr1 run1 => ?_
    rw [← at_.K]
    cases ry <;> first | exact run1.no rfl | skip
    · rename_i xs vs a ht rt
      exact .inr ⟨a, rfl, ⟨vs, ht⟩, μ1, H1, none, xs, wlk_tup ht rt, μ1, S1, .refl, rs1, rr1, run1⟩
    · rename_i n a hn
      cases e1 : S1[n]? with
      | none => exact run1.no (by simp only [e1])
      | some ob =>
        cases ob with
        | dct => exact run1.no (by simp only [e1])
        | lst xs =>
          obtain ⟨b, q, vs, h1, r1⟩ := rs1.ob n _ e1
          rw [hn] at q
          cases q
          exact .inl ⟨a, rfl, ⟨vs, .of h1⟩, μ1, H1, some (n, .lst xs), xs, wlk_loc hn, μ1, S1, .refl, rs1, rr1, run1.cong (by simp only [e1]; rfl)⟩
    · rename_i xs vs a hf rt
      exact .inl ⟨a, rfl, ⟨vs, hf.sql⟩, μ1, H1, none, xs, wlk_frz hf rt, μ1, S1, .refl, rs1, rr1, run1⟩)
  refine wpAny_GeneratorExp_make g.co hclos g.nocell g.dot g.kind at_.room.depth (wpAny_mono hit (fun xv s1 h1 => wpAny_mono h1 (fun itv s2 h2 => ?_) fun _ _ z => z) fun _ _ z => z) hs
  obtain ⟨it, fp, tn, J, H2, rfl, I2, Tn, st2, fpo2, μ1, H0, o, xs, wk, gl⟩ := h2
  refine ⟨I2.nolimit, ?_⟩
  obtain ⟨μ2, S2, g2, rs2, rr2, run2⟩ := id gl
  obtain ⟨ps, hPs, ht⟩ := rs2.tab P hP
  have hPs1 : s2.heap.get? P = some { cls := .none, data := .fields ps } := I2.hok P _ hPs
  have hPlt : P < s2.heap.objs.size := Heap.lt_size hPs1
  have cd : PySem.W.CodeHd s2.heap c P := TB.code.keeps fun b u e => I2.bk b u e
  have fpP : ∀ b ∈ fp, b ≠ P := fun b hb z => by
    have := (fpo2 b hb).1
    rw [z, hPs] at this
    cases this
  have cont : ∀ (code : Value) (h3 : Heap) (tk : Nat) (more : Array Value), Heap.ExtBut P s2.heap h3 → s2.heap.objs.size ≤ h3.objs.size → h3.get? P = some { cls := .none, data := .fields (ps ++ more) } → TriplesOk (ps ++ more).toList →
      wpAny (model X.prog X.w) X.A (builtinsFor X.env.globals X.env.builtins) (fun bi s4 => ∀ h', h'.Ns s4.heap.objs.size (fun y => if y = (".0" : Str) then some (.ref it) else none) → Heap.SameBut s4.heap.objs.size (s4.heap.push { cls := .type "frame", data := .dict #[] }) h' →
        Qv (.ref h'.objs.size) { s4 with
          gens := s4.gens.push (.fresh (.compStart (.GeneratorExp elt [⟨.Name x px, iter, [], 0⟩] scope gpos) 0 (.ref it) .none (genEnv scope (cloFrom X.env.cells scope.names []) s4.heap.objs.size code bi X.env))),
          toks := s4.toks + 1 + 1 + 1,
          heap := h'.push { cls := .type "generator", data := .fields #[.int s4.gens.size 0, .str "<genexpr>" (s4.toks + 1), .str (X.env.qual ++ "<genexpr>") (s4.toks + 1 + 1)] } }) X.xe { s2 with heap := h3, toks := tk } := by
    intro code h3 tk more hx hsz hP3 ht3
    obtain ⟨bm, ob, b1, b2, b3, b4, b5, b6, b7, b8⟩ := TB.bm
    have keep3 : ∀ b u, b ≠ P → s2.heap.get? b = some u → h3.get? b = some u := fun b u hb e => hx b u hb e
    have I3 := GxR.inv_tab (more := more) (h' := h3) (g' := s2.gens) (d' := s2.drawn) (t' := tk) I2 hPs keep3 hP3 I2.bare
    obtain ⟨rs3, g3⟩ := rs2.tbl (more := more) hPs ht3
    have st3 : tn 0 h3 := Tn.keep 0 _ _ st2 fun b hb u e => keep3 b u (fpP b hb) e
    have fpo3 : ∀ b ∈ fp, FpOk X pins (upd H2 P (.tbl (ps ++ more))) b := fun b hb => ⟨by rw [upd_ne (fpP b hb)]; exact (fpo2 b hb).1, (fpo2 b hb).2⟩
    have gl3 : GL G stop o fe ρ xs σ μ1 H0 Q (EW G W σ) 0 (upd H2 P (.tbl (ps ++ more))) := ⟨μ2, S2, g2.trans g3, rs3, rr2.up g3, by
      obtain ⟨r, e, q⟩ := run2
      refine ⟨r, e, ?_⟩
      cases r with
      | ok a S' => exact fun μ' H' v gg => q μ' H' v (g3.trans gg)
      | er c S' => exact fun μ' H' gg => q μ' H' (g3.trans gg)⟩
    refine wpAny_builtinsFor (m := X.mg) (by rw [I2.ok.glob]; exact (I2.mod.glob.keeps I2.bk).extBut hx TB.gP) b1 b2 (keep3 _ _ b4 (I2.bk _ _ b5)) b6 b7 b8 ?_
    exact gen_frame (code := code) at_.room at_.gd g I3 Tn st3 fpo3 wk gl3 hel hG hnd hQ
  cases hf : codeAmong gpos ps.toList with
  | none =>
    refine wpAny_genexprCodeX hcode (cd.code hPs1 ht) (cd.tab hPs1) hf fun c' h' tk hx hge hlt hco' _ htab' _ => ?_
    obtain ⟨o1, vs, f1, tf, fl, tg, inF, tx, tt, op, _, _, _, _, _, _, _, _, _, htr, _⟩ := hco'
    exact cont _ h' tk _ hx (Nat.le_trans hge (Nat.le_of_lt hlt)) htab'.2 htr
  | some cv =>
    refine PySem.wpAny_genexprCode_hit hcode (cd.code hPs1 ht) hf ?_
    exact cont cv s2.heap s2.toks #[] (Heap.ExtBut.refl _ _) (Nat.le_refl _) (by rw [Array.append_empty]; exact hPs1) (by rw [Array.append_empty]; exact ht)
theorem xe_all (at_ : At X G W (k + 1)) (hm : X.mg "all" = none) (TB : GxR.TabB X.base X.mg c P) (hP : P ∈ G.tabs) (hcode : X.env.code = .ref c) (g : GSc X.N X.env.scope scope x) (hnd : (hideN X.N x).Nodup) (hi : PE X iter (T G W fi))
    (hel : ∀ X' : Cx, X'.prog = X.prog → X'.w = X.w → X'.base = X.base → (∃ sc Hc cl C code bi Ao pn fp, X' = gX X sc Hc scope cl C code bi Ao x pn fp) → At X' ⟨X.K, X.mg, G.tabs⟩ W0 k → PE X' elt (T G W0 fe))
    (hg : Gl X "all" := by rfl) (hs : ∀ v, genFold iter X.env v = pure v := by intro _; rfl)
    (he : starEach [.GeneratorExp elt [⟨.Name x px, iter, [], 0⟩] scope gpos] X.env = (false, eval (.GeneratorExp elt [⟨.Name x px, iter, [], 0⟩] scope gpos) X.env) :: starEach [] X.env := by rfl) :
    PE X (.Call (.Name "all" p) [.GeneratorExp elt [⟨.Name x px, iter, [], 0⟩] scope gpos] [] pos) (T G W (eQuant false fi fe)) := by
  refine ⟨fun pins s σ H Q I h => ?_⟩
  refine wpAny_Call_Name_kw (ld_blt I hg hm (show bootBuiltins "all" = some (.builtin "all") from by decide +kernel) ?_)
  refine PyProof.Rows.callWith_builtin1 ?_ he (by rfl)
  rw [he]
  show wpAny _ _ (spliced ((false, eval (.GeneratorExp elt [⟨.Name x px, iter, [], 0⟩] scope gpos) X.env) :: backTo pos (starEach [] X.env))) _ _ s
  refine Calls.spliced_cons (gen_make at_ TB hP hcode g hnd hi hel hs I h fun a s' hG => Calls.spliced_nil ?_)
  obtain ⟨gi, n0, go, X', fp, tn, L, h1, h2, h3, h4, h5⟩ := hG
  refine call_all_gen (n := n0) (St := GAs X.prog X.w X.A.in1 X' fp tn σ L Q false n0 gi) h1 (fun i s1 hi h => ?_) h4
  refine thn (gas_turn (A := X.A.in1) at_.room.hd (by have := at_.room.dp; show X.A.depth < _; omega) h2 h3 hi h) fun r s2 hr => ?_
  cases r with
  | none => exact h5 (.bl true) (.bool true) s2 hr rfl
  | some v =>
    obtain ⟨b, rfl, q1, q2⟩ := hr
    exact ⟨b, rfl, fun e => q2 (by rw [e]; decide), fun e => h5 (.bl false) (.bool false) s2 (q1 e) rfl⟩
theorem xe_any (at_ : At X G W (k + 1)) (hm : X.mg "any" = none) (TB : GxR.TabB X.base X.mg c P) (hP : P ∈ G.tabs) (hcode : X.env.code = .ref c) (g : GSc X.N X.env.scope scope x) (hnd : (hideN X.N x).Nodup) (hi : PE X iter (T G W fi))
    (hel : ∀ X' : Cx, X'.prog = X.prog → X'.w = X.w → X'.base = X.base → (∃ sc Hc cl C code bi Ao pn fp, X' = gX X sc Hc scope cl C code bi Ao x pn fp) → At X' ⟨X.K, X.mg, G.tabs⟩ W0 k → PE X' elt (T G W0 fe))
    (hg : Gl X "any" := by rfl) (hs : ∀ v, genFold iter X.env v = pure v := by intro _; rfl)
    (he : starEach [.GeneratorExp elt [⟨.Name x px, iter, [], 0⟩] scope gpos] X.env = (false, eval (.GeneratorExp elt [⟨.Name x px, iter, [], 0⟩] scope gpos) X.env) :: starEach [] X.env := by rfl) :
    PE X (.Call (.Name "any" p) [.GeneratorExp elt [⟨.Name x px, iter, [], 0⟩] scope gpos] [] pos) (T G W (eQuant true fi fe)) := by
  refine ⟨fun pins s σ H Q I h => ?_⟩
  refine wpAny_Call_Name_kw (ld_blt I hg hm (show bootBuiltins "any" = some (.builtin "any") from by decide +kernel) ?_)
  refine PyProof.Rows.callWith_builtin1 ?_ he (by rfl)
  rw [he]
  show wpAny _ _ (spliced ((false, eval (.GeneratorExp elt [⟨.Name x px, iter, [], 0⟩] scope gpos) X.env) :: backTo pos (starEach [] X.env))) _ _ s
  refine Calls.spliced_cons (gen_make at_ TB hP hcode g hnd hi hel hs I h fun a s' hG => Calls.spliced_nil ?_)
  obtain ⟨gi, n0, go, X', fp, tn, L, h1, h2, h3, h4, h5⟩ := hG
  refine call_any_gen (n := n0) (St := GAs X.prog X.w X.A.in1 X' fp tn σ L Q true n0 gi) h1 (fun i s1 hi h => ?_) h4
  refine thn (gas_turn (A := X.A.in1) at_.room.hd (by have := at_.room.dp; show X.A.depth < _; omega) h2 h3 hi h) fun r s2 hr => ?_
  cases r with
  | none => exact h5 (.bl false) (.bool false) s2 hr rfl
  | some v =>
    obtain ⟨b, rfl, q1, q2⟩ := hr
    exact ⟨b, rfl, fun e => q2 (by rw [e]; decide), fun e => h5 (.bl true) (.bool true) s2 (q1 e) rfl⟩
end
end Tw
end

section
set_option Elab.async false
set_option maxRecDepth 100000
set_option maxHeartbeats 3000000
set_option autoImplicit true
set_option linter.all false
set_option relaxedAutoImplicit true
namespace Tw
open PySem L2
/-! ## 18. repr, {} -/
/-! data, with lists of the store and empty dicts in it -/
mutual
def pdr (S : Store) : Vl → Option PyData
  | .non => some .none
  | .bl b => some (.bool b)
  | .int i => some (.int i)
  | .str s => some (.str s)
  | .tup xs => match pdrs S xs with
    | some ds => some (.tuple ds)
    | none => none
  | .loc n => match S[n]? with
    | some (.lst xs) => match pds0 xs with
      | some ds => some (.list ds)
      | none => none
    | some .dct => some (.dict [])
    | none => none
  | .frz xs => match pds0 xs with
    | some ds => some (.list ds)
    | none => none
  | _ => none
def pdrs (S : Store) : List Vl → Option (List PyData)
  | [] => some []
  | x :: xs => match pdr S x, pdrs S xs with
    | some d, some ds => some (d :: ds)
    | _, _ => none
end
mutual
/-- no list in it -/
def nol : PyData → Bool
  | .list _ => false
  | .tuple xs => nols xs
  | _ => true
def nols : List PyData → Bool
  | [] => true
  | x :: xs => nol x && nols xs
end
mutual
/-- a bound of the text's length -/
def shB : PyData → Nat
  | .none => 4
  | .bool _ => 5
  | .int i => i.natAbs.log2 + 3
  | .str x => (reprText x).length
  | .list xs => shBs xs + 3
  | .tuple xs => shBs xs + 3
  | .dict kvs => (PyData.dict kvs).shown.length
def shBs : List PyData → Nat
  | [] => 0
  | x :: xs => shB x + 2 + shBs xs
end
def okR (d : PyData) : Prop := d.showable = true ∧ shB d ≤ line ∧ d.depth ≤ 60 ∧ (d.hasDict = false ∨ nol d = true)
instance (d : PyData) : Decidable (okR d) := by unfold okR; exact inferInstance
def bRepr : List Vl → M Vl
  | [x] => fun S => match pdr S x with
    | some d => if okR d then some (.ok (.str d.shown) S) else none
    | none => none
  | _ => stuck
mutual
theorem shB_ok : ∀ (d : PyData), d.shown.length ≤ shB d
  | .none => by decide +kernel
  | .bool b => by cases b <;> decide +kernel
  | .int i => by
    show (Str.ofString (toString i)).length ≤ i.natAbs.log2 + 3
    have := int_text_length_le (a := i) (k := i.natAbs.log2 + 1) (by omega) (by omega)
    rw [ofString_length]; omega
  | .str x => Nat.le_refl _
  | .list xs => by
    have := listText_len_le (PyData.shownAll xs)
    have h2 := shBs_ok xs
    show (listText (PyData.shownAll xs)).length ≤ shBs xs + 3
    omega
  | .tuple xs => by
    have := tupleText_len_le (PyData.shownAll xs)
    have h2 := shBs_ok xs
    show (tupleText (PyData.shownAll xs)).length ≤ shBs xs + 3
    omega
  | .dict kvs => Nat.le_refl _
theorem shBs_ok : ∀ (xs : List PyData), ((PyData.shownAll xs).map (·.length)).sum + 2 * (PyData.shownAll xs).length ≤ shBs xs
  | [] => by simp [PyData.shownAll, shBs]
  | x :: xs => by
    have h1 := shB_ok x
    have h2 := shBs_ok xs
    simp only [PyData.shownAll, shBs, List.map_cons, List.sum_cons, List.length_cons]
    omega
end
/-! data as they stand, empty dicts among them -/
mutual
inductive DR (K : PySem.W.Frag) (H : Hp) : V → PyData → Prop
  | non : DR K H .non .none
  | bl (b : Bool) : DR K H (.bl b) (.bool b)
  | int (i : Int) : DR K H (.int i) (.int i)
  | str (x : Str) : DR K H (.str x) (.str x)
  | lst {a : Addr} {xs : List V} {ds : List PyData} (h : SqL K H a xs) (r : DRs K H xs ds) : DR K H (.ref a) (.list ds)
  | tup {a : Addr} {xs : List V} {ds : List PyData} (h : SqT K H a xs) (r : DRs K H xs ds) : DR K H (.ref a) (.tuple ds)
  | dct {a : Addr} (h : H a = some (.dK [])) : DR K H (.ref a) (.dict [])
inductive DRs (K : PySem.W.Frag) (H : Hp) : List V → List PyData → Prop
  | nil : DRs K H [] []
  | cons {v : V} {vs : List V} {d : PyData} {ds : List PyData} (h : DR K H v d) (r : DRs K H vs ds) : DRs K H (v :: vs) (d :: ds)
end
mutual
theorem dr_of {K : PySem.W.Frag} {H : Hp} : ∀ {v : V} {d : PyData}, Dp K H v d → DR K H v d
  | _, _, .non => .non
  | _, _, .bl b => .bl b
  | _, _, .int i => .int i
  | _, _, .str x => .str x
  | _, _, .lst h r => .lst h (drs_of r)
  | _, _, .tup h r => .tup h (drs_of r)
theorem drs_of {K : PySem.W.Frag} {H : Hp} : ∀ {v : List V} {d : List PyData}, DpAll K H v d → DRs K H v d
  | _, _, .nil => .nil
  | _, _, .cons h r => .cons (dr_of h) (drs_of r)
end
mutual
theorem pdr_ok {G : GG} {μ : List Addr} {H : Hp} {S : Store} (rs : RS G μ H S) : ∀ {x : Vl} {v : V} {d : PyData}, Rv G μ H x v → pdr S x = some d → DR G.K H v d
  | _, _, _, .non, e => by unfold pdr at e; cases e; exact .non
  | _, _, _, .bl b, e => by unfold pdr at e; cases e; exact .bl b
  | _, _, _, .int i, e => by unfold pdr at e; cases e; exact .int i
  | _, _, _, .str s, e => by unfold pdr at e; cases e; exact .str s
  | .tup xs, _, d, .tup h r, e => by
    unfold pdr at e
    split at e
    · rename_i ds es
      cases e
      exact .tup h (pdrs_ok rs r es)
    · cases e
  | .loc n, _, d, .loc h, e => by
    unfold pdr at e
    split at e
    · rename_i xs en
      split at e
      · rename_i ds es
        cases e
        obtain ⟨b, q, vs, h1, r1⟩ := rs.ob n _ en
        rw [h] at q
        cases q
        exact .lst (.of h1) (drs_of (pds0_ok r1 es))
      · cases e
    · rename_i en
      cases e
      obtain ⟨b, q, h1⟩ := rs.ob n _ en
      rw [h] at q
      cases q
      exact .dct h1
    · cases e
  | .frz xs, _, d, .frz h r, e => by
    unfold pdr at e
    split at e
    · rename_i ds es
      cases e
      exact .lst h.sql (drs_of (pds0_ok r es))
    · cases e
  | _, _, _, .fn h, e => by unfold pdr at e; cases e
  | _, _, _, .ty n, e => by unfold pdr at e; cases e
  | _, _, _, .cls h, e => by unfold pdr at e; cases e
theorem pdrs_ok {G : GG} {μ : List Addr} {H : Hp} {S : Store} (rs : RS G μ H S) : ∀ {xs : List Vl} {vs : List V} {ds : List PyData}, Rvs G μ H xs vs → pdrs S xs = some ds → DRs G.K H vs ds
  | _, _, _, .nil, e => by unfold pdrs at e; cases e; exact .nil
  | x :: xs, _, ds, .cons h t, e => by
    unfold pdrs at e
    split at e
    · rename_i d ds' e1 e2
      cases e
      exact .cons (pdr_ok rs h e1) (pdrs_ok rs t e2)
    · cases e
end
section
variable {X : Cx} {pins : List (Addr × Obj)} {σ : St} {H : Hp} {s : Shared} {G : GG} {W : WX} {pos : Pos} {k : Nat}
mutual
theorem DR.reads (I : Inv X pins σ H s) : ∀ (d : PyData) (v : V) (u : Value), DR X.K H v d → RelV v u → ∃ as, Reads s.heap u d as ∧ (nol d = true → sysModules ∉ as)
  | .none, _, _, h, r => by
    cases h
    cases r
    exact ⟨_, .none, fun _ z => nomatch z⟩
  | .bool b, _, _, h, r => by
    cases h
    cases r
    exact ⟨_, .bool b, fun _ z => nomatch z⟩
  | .int i, _, _, h, r => by
    cases h
    obtain ⟨t, rfl⟩ := r
    exact ⟨_, .int i t, fun _ z => nomatch z⟩
  | .str x, _, _, h, r => by
    cases h
    obtain ⟨t, rfl⟩ := r
    exact ⟨_, .str x t, fun _ z => nomatch z⟩
  | .list ds, _, _, h, r => by
    cases h with
    | lst hs ha =>
      cases r
      obtain ⟨its, rv, ⟨o, n, ho, hc, _, hd⟩, _⟩ := I.list hs
      obtain ⟨as, hr, _⟩ := DRs.reads I ds _ its ha rv
      exact ⟨_, .list ho hc hd hr, fun z => absurd (show false = true from z) Bool.false_ne_true⟩
  | .tuple ds, _, _, h, r => by
    cases h with
    | tup hs ha =>
      cases r
      obtain ⟨its, rv, ⟨o, ho, hc, n, hd⟩, _⟩ := I.tuple hs
      obtain ⟨as, hr, hn⟩ := DRs.reads I ds _ its ha rv
      exact ⟨_, .tuple ho hc hd hr, fun z => hn z⟩
  | .dict kvs, _, _, h, r => by
    cases h with
    | dct hd =>
      rename_i a
      cases r
      obtain ⟨_, hsys, vs, hkv, o, es, ep, ho, hx, hdat, hent⟩ : ([] : List (Key × V)).length ≤ sizeLine ∧ (a == sysModules) = false ∧ ∃ vs, KV ([] : List (Key × V)) vs ∧ s.heap.DictOf (mixKind X.prog X.w) a vs := I.hok a _ hd
      cases hkv
      have he : es.toList = [] := by
        obtain ⟨_, hp, _⟩ := hent
        revert hp
        generalize es.toList = l
        intro hp
        cases hp
        rfl
      refine ⟨_, .dict ho hx.1 hdat (by rw [he]; exact .nil) (by rw [he]; exact .nil), fun _ z => ?_⟩
      have : sysModules = a := by simpa using z
      rw [this] at hsys
      simp at hsys
theorem DRs.reads (I : Inv X pins σ H s) : ∀ (ds : List PyData) (vs : List V) (us : List Value), DRs X.K H vs ds → Vals vs us → ∃ as, ReadsAll s.heap us ds as ∧ (nols ds = true → sysModules ∉ as)
  | [], _, _, h, r => by
    cases h
    cases r
    exact ⟨_, .nil, fun _ z => nomatch z⟩
  | d :: ds, _, _, h, r => by
    cases h with
    | cons h1 h2 =>
      cases r with
      | cons r1 r2 =>
        obtain ⟨as, q1, n1⟩ := DR.reads I d _ _ h1 r1
        obtain ⟨bs, q2, n2⟩ := DRs.reads I ds _ _ h2 r2
        refine ⟨_, .cons q1 q2, fun z => ?_⟩
        have z' : nol d = true ∧ nols ds = true := by simpa [nols] using z
        intro hm
        rcases List.mem_append.mp hm with q | q
        · exact n1 z'.1 q
        · exact n2 z'.2 q
end
theorem call_repr (hg : X.A.guards = some []) (hu : X.A.units + 64 < cLine) : CallR X (.builtin "repr") (fun xs H Q => ∃ v d, xs = [v] ∧ DR X.K H v d ∧ okR d ∧ Q (.str d.shown) H) := by
  intro pins s σ H xs us Q I r h
  obtain ⟨v, d, rfl, hd, ⟨h1, h2, h3, h4⟩, q⟩ := h
  obtain ⟨u, rfl, rv⟩ := vals1 r
  obtain ⟨as, hr, hn⟩ := DR.reads I d v u hd rv
  have hsz : d.shown.length ≤ sizeLine := by rw [← line_eq]; exact Nat.le_trans (shB_ok d) h2
  have hsm : d.hasDict = true → sysModules ∉ as := fun z => by
    rcases h4 with w | w
    · rw [w] at z; cases z
    · exact hn w
  cases hd with
  | non => cases rv; exact PySem.P.repr_of_none ⟨.str _, H, I.tok _, ⟨_, rfl⟩, q⟩
  | bl b => cases rv; exact PySem.P.repr_of_bool ⟨.str _, H, I.tok _, ⟨_, rfl⟩, q⟩
  | int i =>
    obtain ⟨t, rfl⟩ := rv
    exact PySem.P.repr_of_int (by simpa [PyData.showable] using h1) ⟨.str _, H, I.tok _, ⟨_, rfl⟩, q⟩
  | str x =>
    obtain ⟨t, rfl⟩ := rv
    exact PySem.P.repr_of_str ⟨.str _, H, I.tok _, ⟨_, rfl⟩, q⟩ hsz
  | lst hs ha => cases rv; exact repr_of_reads' hr h1 hsm hg (by omega) (fun _ _ e => e) (fun h' u tk hk => ⟨.str _, H, I.kept hk, ⟨_, rfl⟩, q⟩) hsz
  | tup hs ha => cases rv; exact repr_of_reads' hr h1 hsm hg (by omega) (fun _ _ e => e) (fun h' u tk hk => ⟨.str _, H, I.kept hk, ⟨_, rfl⟩, q⟩) hsz
  | dct hs => cases rv; exact repr_of_reads' hr h1 hsm hg (by omega) (fun _ _ e => e) (fun h' u tk hk => ⟨.str _, H, I.kept hk, ⟨_, rfl⟩, q⟩) hsz
theorem am_repr : AsM G (fun xs H Q => ∃ v d, xs = [v] ∧ DR G.K H v d ∧ okR d ∧ Q (.str d.shown) H) bRepr := by
  intro μ H S x v Q EQ rs rx run
  cases rx with
  | nil => exact run.no rfl
  | cons r t =>
    rename_i x v xs vs
    cases t with
    | cons _ _ => exact run.no rfl
    | nil =>
      cases e : pdr S x with
      | none => exact run.no (by simp only [bRepr, e])
      | some d =>
        by_cases hz : okR d
        · exact ⟨v, d, rfl, pdr_ok rs r e, hz, run.end_ (a := .str d.shown) (S1 := S) (by simp only [bRepr, e, if_pos hz]) μ H _ .refl (.str _) rs⟩
        · exact run.no (by simp only [bRepr, e, if_neg hz])
theorem xe_dct : PE X (.Dict [] [] pos) (T G W eDct) := by
  refine PE.imp pe_dnewK ?_
  rintro σ H Q ⟨μ, ρ, S, rs, rr, run⟩
  intro p hp
  have g : Gr μ H (μ ++ [p]) (upd H p (.dK [])) := ⟨fun n a e => by
    rw [List.getElem?_append_left (List.getElem?_eq_some_iff.mp e).1]; exact e, (gr_laid (μ := μ) hp).tup, (gr_laid (μ := μ) hp).frz⟩
  obtain ⟨r1, _, r3⟩ := rs.new (o := .dK []) (ob := .dct) hp upd_same
  exact run.end_ (a := .loc S.length) (S1 := S ++ [.dct]) rfl _ _ _ g (.loc r3) r1
end
end Tw
end

section
set_option Elab.async false
set_option maxRecDepth 100000
set_option maxHeartbeats 3000000
set_option autoImplicit true
set_option linter.all false
set_option relaxedAutoImplicit true
namespace Tw
open PySem L2
/-! ## 19. Short forms for a text's own rules -/
def gscC (N : List Str) (sc scope : Scope) (x : Str) : Bool :=
  scope.kind == .function && !scope.isCoroutine && scope.names.all (fun y => scope.names.lookup y.1 == some y.2) && scope.names.all (fun y => y.2 != .cell) && (scope.names.lookup (".0" : Str) == some NameKind.local) && (scope.names.lookup x == some NameKind.local) &&
  scope.names.all (fun y => y.2 != .local || y.1 == (".0" : Str) || y.1 == x) && scope.names.all (fun y => y.2 != .free || sc.names.lookup y.1 == some .cell || sc.names.lookup y.1 == some .free) && (scope.names.lookup ("" : Str) == none) && decide (hideN N x).Nodup
theorem gsc_by {N : List Str} {sc scope : Scope} {x : Str} (h : gscC N sc scope x = true) : GSc N sc scope x ∧ (hideN N x).Nodup := by
  unfold gscC at h
  simp only [Bool.and_eq_true, decide_eq_true_eq, List.all_eq_true, Bool.or_eq_true, bne_iff_ne, beq_iff_eq, Bool.not_eq_true'] at h
  obtain ⟨⟨⟨⟨⟨⟨⟨⟨⟨h1, h2⟩, h3⟩, h4⟩, h5⟩, h6⟩, h7⟩, h8⟩, h9⟩, h10⟩ := h
  refine ⟨⟨h1, h2, h3, h4, h5, h6, fun y hy e => ?_, fun y hy e => ?_, h9⟩, h10⟩
  · rcases h7 y hy with (q | q) | q
    · exact absurd e q
    · exact .inl q
    · exact .inr q
  · rcases h8 y hy with (q | q) | q
    · exact absurd e q
    · exact .inl q
    · exact .inr q
section
variable {X : Cx} {G : GG} {W : WX} {scope : Scope} {x : Str} {fe fi : Ev} {elt iter : Expr} {px gpos pos p : Pos} {k : Nat} {c P : Addr}
theorem x_all (h : gscC X.N X.env.scope scope x = true) (at_ : At X G W (k + 1)) (hm : X.mg "all" = none) (TB : GxR.TabB X.base X.mg c P) (hP : P ∈ G.tabs) (hcode : X.env.code = .ref c) (hi : PE X iter (T G W fi))
    (hel : ∀ X' : Cx, X'.prog = X.prog → X'.w = X.w → X'.base = X.base → (∃ sc Hc cl C code bi Ao pn fp, X' = gX X sc Hc scope cl C code bi Ao x pn fp) → At X' ⟨X.K, X.mg, G.tabs⟩ W0 k → PE X' elt (T G W0 fe))
    (hg : Gl X "all" := by rfl) (hs : ∀ v, genFold iter X.env v = pure v := by intro _; rfl)
    (he : starEach [.GeneratorExp elt [⟨.Name x px, iter, [], 0⟩] scope gpos] X.env = (false, eval (.GeneratorExp elt [⟨.Name x px, iter, [], 0⟩] scope gpos) X.env) :: starEach [] X.env := by rfl) :
    PE X (.Call (.Name "all" p) [.GeneratorExp elt [⟨.Name x px, iter, [], 0⟩] scope gpos] [] pos) (T G W (eQuant false fi fe)) := xe_all at_ hm TB hP hcode (gsc_by h).1 (gsc_by h).2 hi hel hg hs he
theorem x_any (h : gscC X.N X.env.scope scope x = true) (at_ : At X G W (k + 1)) (hm : X.mg "any" = none) (TB : GxR.TabB X.base X.mg c P) (hP : P ∈ G.tabs) (hcode : X.env.code = .ref c) (hi : PE X iter (T G W fi))
    (hel : ∀ X' : Cx, X'.prog = X.prog → X'.w = X.w → X'.base = X.base → (∃ sc Hc cl C code bi Ao pn fp, X' = gX X sc Hc scope cl C code bi Ao x pn fp) → At X' ⟨X.K, X.mg, G.tabs⟩ W0 k → PE X' elt (T G W0 fe))
    (hg : Gl X "any" := by rfl) (hs : ∀ v, genFold iter X.env v = pure v := by intro _; rfl)
    (he : starEach [.GeneratorExp elt [⟨.Name x px, iter, [], 0⟩] scope gpos] X.env = (false, eval (.GeneratorExp elt [⟨.Name x px, iter, [], 0⟩] scope gpos) X.env) :: starEach [] X.env := by rfl) :
    PE X (.Call (.Name "any" p) [.GeneratorExp elt [⟨.Name x px, iter, [], 0⟩] scope gpos] [] pos) (T G W (eQuant true fi fe)) := xe_any at_ hm TB hP hcode (gsc_by h).1 (gsc_by h).2 hi hel hg hs he
def oIs0 : Vl → Vl → M Vl := fun x y => match y with
  | .non => oIsN x
  | _ => stuck
def oNot0 : Vl → Vl → M Vl := fun x y => match y with
  | .non => oNotN x
  | _ => stuck
variable {a b : Expr} {fa fb : Ev}
theorem x_add (ha : PE X a (T G W fa)) (hb : PE X b (T G W fb)) (hK : G.K = X.K := by rfl) : PE X (.BinOp a .Add b pos) (T G W (eOp oAdd fa fb)) := xe_op (by have := om_add (G := G); rw [hK] at this; exact this) (op_add.or (op_catA.or op_cat)) ha hb
theorem x_sub (ha : PE X a (T G W fa)) (hb : PE X b (T G W fb)) : PE X (.BinOp a .Sub b pos) (T G W (eOp oSub fa fb)) := xe_op om_sub op_sub ha hb
theorem x_mul (ha : PE X a (T G W fa)) (hb : PE X b (T G W fb)) (hK : G.K = X.K := by rfl) : PE X (.BinOp a .Mult b pos) (T G W (eOp oMul fa fb)) := xe_op (by have := om_mul (G := G); rw [hK] at this; exact this) (op_mulW.or (op_repT.or op_rep)) ha hb
theorem x_div (ha : PE X a (T G W fa)) (hb : PE X b (T G W fb)) : PE X (.BinOp a .FloorDiv b pos) (T G W (eOp oDiv fa fb)) := xe_op om_div op_fdivA ha hb
theorem x_mod (ha : PE X a (T G W fa)) (hb : PE X b (T G W fb)) : PE X (.BinOp a .Mod b pos) (T G W (eOp oMod fa fb)) := xe_op om_mod op_modN ha hb
theorem x_pow (ha : PE X a (T G W fa)) (hb : PE X b (T G W fb)) : PE X (.BinOp a .Pow b pos) (T G W (eOp oPow fa fb)) := xe_op om_pow op_pow ha hb
theorem x_neg (ha : PE X a (T G W fa)) : PE X (.UnaryOp .USub a pos) (T G W (eUn oNeg fa)) := xe_un um_neg un_neg ha
theorem x_lt (ha : PE X a (T G W fa)) (hb : PE X b (T G W fb)) : PE X (.Compare a [.Lt] [b] pos) (T G W (eOp oLt fa fb)) := xe_cmp om_cmp op_lt ha hb (nomark _)
theorem x_le (ha : PE X a (T G W fa)) (hb : PE X b (T G W fb)) : PE X (.Compare a [.LtE] [b] pos) (T G W (eOp oLe fa fb)) := xe_cmp om_cmp op_le ha hb (nomark _)
theorem x_gt (ha : PE X a (T G W fa)) (hb : PE X b (T G W fb)) : PE X (.Compare a [.Gt] [b] pos) (T G W (eOp oGt fa fb)) := xe_cmp om_cmp op_gt ha hb (nomark _)
theorem x_ge (ha : PE X a (T G W fa)) (hb : PE X b (T G W fb)) : PE X (.Compare a [.GtE] [b] pos) (T G W (eOp oGe fa fb)) := xe_cmp om_cmp op_ge ha hb (nomark _)
theorem x_eq (at_ : At X G W k) (ha : PE X a (T G W fa)) (hb : PE X b (T G W fb)) : PE X (.Compare a [.Eq] [b] pos) (T G W (eOp oEq fa fb)) := xe_cmp (by have := om_eq (G := G); rw [at_.K] at this; exact this) (op_eq.or (op_eqD at_.room.units)) ha hb (nomark _)
theorem x_ne (at_ : At X G W k) (ha : PE X a (T G W fa)) (hb : PE X b (T G W fb)) : PE X (.Compare a [.NotEq] [b] pos) (T G W (eOp oNe fa fb)) := xe_cmp (by have := om_ne (G := G); rw [at_.K] at this; exact this) (op_ne.or (op_neD at_.room.units)) ha hb (nomark _)
theorem x_is0 (ha : PE X a (T G W fa)) (hb : PE X b (T G W fb)) : PE X (.Compare a [.Is] [b] pos) (T G W (eOp oIs0 fa fb)) := xe_cmp om_isN op_isN ha hb (nomark _)
theorem x_not0 (ha : PE X a (T G W fa)) (hb : PE X b (T G W fb)) : PE X (.Compare a [.IsNot] [b] pos) (T G W (eOp oNot0 fa fb)) := xe_cmp om_notN op_notN ha hb (nomark _)
theorem x_isB (ha : PE X a (T G W fa)) (hb : PE X b (T G W fb)) : PE X (.Compare a [.Is] [b] pos) (T G W (eOp oIsB fa fb)) := xe_cmp om_isB op_isBl ha hb (nomark _)
theorem x_notB (ha : PE X a (T G W fa)) (hb : PE X b (T G W fb)) : PE X (.Compare a [.IsNot] [b] pos) (T G W (eOp oNotB fa fb)) := xe_cmp om_notB op_notBl ha hb (nomark _)
theorem xt_lt (ha : PE X a (T G W fa)) (hb : PE X b (T G W fb)) : PT X (.Compare a [.Lt] [b] pos) (TTs G W (tVal (eOp oLt fa fb))) := xt_cmp om_cmp op_lt ha hb (nomark _)
theorem xt_le (ha : PE X a (T G W fa)) (hb : PE X b (T G W fb)) : PT X (.Compare a [.LtE] [b] pos) (TTs G W (tVal (eOp oLe fa fb))) := xt_cmp om_cmp op_le ha hb (nomark _)
theorem xt_gt (ha : PE X a (T G W fa)) (hb : PE X b (T G W fb)) : PT X (.Compare a [.Gt] [b] pos) (TTs G W (tVal (eOp oGt fa fb))) := xt_cmp om_cmp op_gt ha hb (nomark _)
theorem xt_ge (ha : PE X a (T G W fa)) (hb : PE X b (T G W fb)) : PT X (.Compare a [.GtE] [b] pos) (TTs G W (tVal (eOp oGe fa fb))) := xt_cmp om_cmp op_ge ha hb (nomark _)
theorem xt_eq (at_ : At X G W k) (ha : PE X a (T G W fa)) (hb : PE X b (T G W fb)) : PT X (.Compare a [.Eq] [b] pos) (TTs G W (tVal (eOp oEq fa fb))) := xt_cmp (by have := om_eq (G := G); rw [at_.K] at this; exact this) (op_eq.or (op_eqD at_.room.units)) ha hb (nomark _)
theorem xt_ne (at_ : At X G W k) (ha : PE X a (T G W fa)) (hb : PE X b (T G W fb)) : PT X (.Compare a [.NotEq] [b] pos) (TTs G W (tVal (eOp oNe fa fb))) := xt_cmp (by have := om_ne (G := G); rw [at_.K] at this; exact this) (op_ne.or (op_neD at_.room.units)) ha hb (nomark _)
theorem xt_is0 (ha : PE X a (T G W fa)) (hb : PE X b (T G W fb)) : PT X (.Compare a [.Is] [b] pos) (TTs G W (tVal (eOp oIs0 fa fb))) := xt_cmp om_isN op_isN ha hb (nomark _)
theorem xt_not0 (ha : PE X a (T G W fa)) (hb : PE X b (T G W fb)) : PT X (.Compare a [.IsNot] [b] pos) (TTs G W (tVal (eOp oNot0 fa fb))) := xt_cmp om_notN op_notN ha hb (nomark _)
theorem xt_isB (ha : PE X a (T G W fa)) (hb : PE X b (T G W fb)) : PT X (.Compare a [.Is] [b] pos) (TTs G W (tVal (eOp oIsB fa fb))) := xt_cmp om_isB op_isBl ha hb (nomark _)
theorem xt_notB (ha : PE X a (T G W fa)) (hb : PE X b (T G W fb)) : PT X (.Compare a [.IsNot] [b] pos) (TTs G W (tVal (eOp oNotB fa fb))) := xt_cmp om_notB op_notBl ha hb (nomark _)
variable {fc : Ev} {c1 : Expr} {e : Expr} {es : List Expr} {fs : Evs}
theorem x_lele (ha : PE X a (T G W fa)) (hb : PE X b (T G W fb)) (hc : PE X c1 (T G W fc)) (hm : lastMarks [.LtE, .LtE] [b, c1] = false := by with_unfolding_all rfl) : PE X (.Compare a [.LtE, .LtE] [b, c1] pos) (T G W (eChain oLe oLe fa fb fc)) := xe_chain om_cmp om_cmp op_le op_le ha hb hc hm
theorem x_len (hm : X.mg "len" = none) (ha : PA X (e :: es) (TAs G W fs)) (hK : G.K = X.K := by rfl) (hgl : Gl X "len" := by rfl) (he : starEach (e :: es) X.env = (false, eval e X.env) :: starEach es X.env := by rfl)
    (hpl : (backTo pos (starEach es X.env)).any (·.1) = false := by rfl) : PE X (.Call (.Name "len" p) (e :: es) [] pos) (T G W (eCall bLen fs)) := xe_callB (by have := am_len (G := G); rw [hK] at this; exact this) call_len hm PySem.boot_len ha hgl (by decide) (by decide) he hpl
theorem x_isi (hm : X.mg "isinstance" = none) (ha : PA X (e :: es) (TAs G W fs)) (hK : G.K = X.K := by rfl) (hgl : Gl X "isinstance" := by rfl) (he : starEach (e :: es) X.env = (false, eval e X.env) :: starEach es X.env := by rfl)
    (hpl : (backTo pos (starEach es X.env)).any (·.1) = false := by rfl) : PE X (.Call (.Name "isinstance" p) (e :: es) [] pos) (T G W (eCall bIsi fs)) := xe_callB (by have := am_isi (G := G); rw [hK] at this; exact this) call_isi hm (by decide +kernel) ha hgl (by decide) (by decide) he hpl
theorem x_tuple (hm : X.mg "tuple" = none) (ha : PA X (e :: es) (TAs G W fs)) (hK : G.K = X.K := by rfl) (hgl : Gl X "tuple" := by rfl) (he : starEach (e :: es) X.env = (false, eval e X.env) :: starEach es X.env := by rfl)
    (hpl : (backTo pos (starEach es X.env)).any (·.1) = false := by rfl) : PE X (.Call (.Name "tuple" p) (e :: es) [] pos) (T G W (eCall bTuple fs)) := xe_callTy (by have := am_tuple (G := G); rw [hK] at this; exact this) call_tuple_of hm (by decide +kernel) ha hgl (by decide) (by decide) he hpl
theorem x_list (hm : X.mg "list" = none) (ha : PA X (e :: es) (TAs G W fs)) (hK : G.K = X.K := by rfl) (hgl : Gl X "list" := by rfl) (he : starEach (e :: es) X.env = (false, eval e X.env) :: starEach es X.env := by rfl)
    (hpl : (backTo pos (starEach es X.env)).any (·.1) = false := by rfl) : PE X (.Call (.Name "list" p) (e :: es) [] pos) (T G W (eCall bList fs)) := xe_callTy (by have := am_list (G := G); rw [hK] at this; exact this) call_list_of hm (by decide +kernel) ha hgl (by decide) (by decide) he hpl
theorem x_repr (at_ : At X G W k) (hm : X.mg "repr" = none) (ha : PA X (e :: es) (TAs G W fs)) (hgl : Gl X "repr" := by rfl) (he : starEach (e :: es) X.env = (false, eval e X.env) :: starEach es X.env := by rfl)
    (hpl : (backTo pos (starEach es X.env)).any (·.1) = false := by rfl) : PE X (.Call (.Name "repr" p) (e :: es) [] pos) (T G W (eCall bRepr fs)) := xe_callB (by have := am_repr (G := G); rw [at_.K] at this; exact this) (call_repr at_.gd at_.room.units) hm (by decide +kernel) ha hgl (by decide) (by decide) he hpl
theorem x_max (at_ : At X G W k) (hm : X.mg "max" = none) (ha : PA X (e :: es) (TAs G W fs)) (hgl : Gl X "max" := by rfl) (he : starEach (e :: es) X.env = (false, eval e X.env) :: starEach es X.env := by rfl)
    (hpl : (backTo pos (starEach es X.env)).any (·.1) = false := by rfl) : PE X (.Call (.Name "max" p) (e :: es) [] pos) (T G W (eCall bMax fs)) := xe_callB am_max (call_max2 at_.calm) hm (by decide +kernel) ha hgl (by decide) (by decide) he hpl
theorem x_min (at_ : At X G W k) (hm : X.mg "min" = none) (ha : PA X (e :: es) (TAs G W fs)) (hgl : Gl X "min" := by rfl) (he : starEach (e :: es) X.env = (false, eval e X.env) :: starEach es X.env := by rfl)
    (hpl : (backTo pos (starEach es X.env)).any (·.1) = false := by rfl) : PE X (.Call (.Name "min" p) (e :: es) [] pos) (T G W (eCall bMin fs)) := xe_callB am_min (call_min2 at_.calm) hm (by decide +kernel) ha hgl (by decide) (by decide) he hpl
theorem x_abs (hm : X.mg "abs" = none) (ha : PA X (e :: es) (TAs G W fs)) (hgl : Gl X "abs" := by rfl) (he : starEach (e :: es) X.env = (false, eval e X.env) :: starEach es X.env := by rfl)
    (hpl : (backTo pos (starEach es X.env)).any (·.1) = false := by rfl) : PE X (.Call (.Name "abs" p) (e :: es) [] pos) (T G W (eCall bAbs fs)) := xe_callB am_abs call_abs hm (by decide +kernel) ha hgl (by decide) (by decide) he hpl
end
/-- what is known of an own class of errors -/
def XFact (K : PySem.W.Frag) (mg : Str → Option Value) (x : Str) (C : Addr) : Prop :=
  PySem.W.excIn K C [.type "ValueError", .type "Exception", .type "BaseException", .type "object"] "ValueError.__new__" = true ∧ mg x = some (.ref C) ∧ PySem.W.keepIn K (.ref C) = true ∧ PySem.W.subIn K (.ref C) (.type "BaseException") = some true ∧ PySem.W.typeIn K (.ref C) = some (.type "type")
/-! ## 20. A clause with a name, whose suite only tells a constant -/
section
variable {X : Cx} {G : GG} {W : WX} {k : Nat} {pos : Pos}
/-- the heap, perhaps with one tuple more -/
def Side (H H' : Hp) : Prop := H' = H ∨ ∃ p vs, H p = none ∧ H' = upd H p (.tup vs)
def sRetAt (i : Nat) (y : Vl) : Sv := fun ρ S => if i < ρ.length then some (.ok (.rt y) S) else none
theorem xs_tryAsRet {x n : Str} {C : Addr} {i : Nat} {body suite : List Stmt} {b0 : Stmt} {np pos' : Pos} {fb : Sv} {v : V} {y : Vl} (at_ : At X G W k) (hs : X.stack = X.env :: X.outer) (hf : X.env.frame = some X.env.locals) (hi : X.N[i]? = some n) (hln : X.env.kindOf n = some .local)
    (hc : Names X x (.ref C)) (hmC : X.mg x = some (.ref C)) (hex : PySem.W.exmOne X.K (.ref C) (.ref C) = some true) (hv : ∀ μ H, Rv G μ H y v)
    (hb : ∀ (W' : WX) (pn : List (Addr × Obj)) (xe : Value → Shared → Prop), At (X.tr pn xe) G W' k → PSs (X.tr pn xe) body (TSt G W' fb))
    (hsu : ∀ (a : Addr) (oe : Obj) (pn : List (Addr × Obj)), Zc (.ref C) none oe → (∃ vs, oe.data = .fields vs) → PSs (X.suite a ((a, oe) :: pn)) (b0 :: suite) (fun D σ H => σ[i]? = some (some (.ref a)) ∧ ∀ H', Side H H' → D.rt v H')) :
    PS X (.Try body [.ExceptHandler (some (.Name x np)) (some n) (b0 :: suite) pos'] [] [] pos) (TSt G W (sTry fb [(fun c => if c = x then some true else none, sRetAt i y)])) := by
  refine PS.imp (ps_try_as (Wout := W) (tb := fun W' => TSt G W' fb) (ts := fun a cls d D σ H => cls = .ref C ∧ d = none ∧ σ[i]? = some (some (.ref a)) ∧ ∀ H', Side H H' → D.rt v H') hs hf at_.nd hi hln hc at_.tk
    (fun W' pn xe tk ow => hb W' pn xe ⟨at_.K, at_.mg, at_.room, at_.calm, tk, ow, at_.nd, at_.gd⟩) (fun a oe cls d pn hz hf => ?_)) ?_
  · refine ⟨fun pins s σ H D I q => ?_⟩
    obtain ⟨rfl, rfl, q1, q2⟩ := q
    exact (hsu a oe pn hz hf).run pins s σ H D I ⟨q1, q2⟩
  · rintro D σ H ⟨μ, ρ, S, rs, rr, r, e, h⟩
    refine ⟨μ, ρ, S, rs, rr, ?_⟩
    unfold sTry at e
    cases q : fb ρ S with
    | none => rw [q] at e; cases e
    | some r1 =>
      refine ⟨r1, q, ?_⟩
      rw [q] at e
      cases r1 with
      | ok fl S1 => cases e; cases fl <;> exact h
      | er c' ρ1 S1 =>
        intro μ1 H1 σ1 g1 rs1 rr1
        dsimp only [hand] at e
        by_cases hcx : c' = x
        · subst hcx
          rw [if_pos rfl] at e
          by_cases hlt : i < ρ1.length
          · have e' : r = .ok (.rt y) S1 := by
              have z : sRetAt i y ρ1 S1 = some (.ok (.rt y) S1) := if_pos hlt
              simp only [z, noEr] at e
              exact (Option.some.inj e).symm
            subst e'
            exact ⟨C, by rw [at_.mg]; exact hmC, true, hex, fun _ a ha => ⟨rfl, rfl, List.getElem?_set_self (by rw [← rr1.len]; exact hlt), fun H' hs => by
              rcases hs with rfl | ⟨p, vs, hp, rfl⟩
              · exact h μ1 _ v g1 rs1 (hv μ1 _)
              · exact h μ1 _ v (g1.trans (gr_laid hp)) (rs1.side hp) (hv μ1 _)⟩, fun z => Bool.noConfusion z⟩
          · have z : sRetAt i y ρ1 S1 = none := if_neg hlt
            simp only [z, noEr] at e
            cases e
        · rw [if_neg hcx] at e
          cases e
end
end Tw
end

section
set_option Elab.async false
set_option maxRecDepth 100000
set_option maxHeartbeats 3000000
set_option autoImplicit true
set_option linter.all false
set_option relaxedAutoImplicit true
namespace Tw
open PySem L2
/-- isinstance(e, (c1, c2, ..)), e the error that the suite holds -/
def rIsET (K : PySem.W.Frag) (D a : Addr) : List V → Hp → VK → Prop := fun xs H Q => ∃ (tp : Addr) (cs : List V) (us : List Value) (b : Bool), xs = [.ref a, .ref tp] ∧ H tp = some (.tup cs) ∧ Paired ClsV cs us ∧ PySem.W.kitAny K (.ref D) us = some b ∧ Q (.bl b) H
theorem call_isET {X : Cx} {a D : Addr} {oe : Obj} {pn : List (Addr × Obj)} (C : ExcC X.K D) (hz : Zc (.ref D) none oe) (hf : ∃ vs, oe.data = .fields vs) : CallR (X.suite a ((a, oe) :: pn)) (.builtin "isinstance") (rIsET X.K D a) := by
  intro pins s σ H xs us Q I r h
  obtain ⟨tp, cs, ws, b, rfl, hT, k, e, q⟩ := h
  obtain ⟨u1, u2, rfl, rx, rt⟩ := vals2 r
  cases (show u1 = Value.ref a from rx)
  cases (show u2 = Value.ref tp from rt)
  have hget : s.heap.get? a = some oe := (I.pin (a, oe) (List.mem_append_left _ List.mem_cons_self)).1
  obtain ⟨vs, hv⟩ := hf
  have J : PySem.W.InstAt s.heap a oe D none := by
    obtain ⟨oc, od, oda, osl⟩ := oe
    obtain ⟨z1, z2⟩ := hz
    dsimp only at z1 z2 hv
    subst z1 z2 hv
    exact ⟨hget, rfl, rfl, trivial⟩
  obtain ⟨_, its, rv, o, g1, g2, n, g3⟩ := (show ObjOk X.prog X.w H s.heap tp (.tup cs) from I.hok tp _ hT)
  cases ClsV.all k rv
  obtain ⟨oc, od, dt, sl⟩ := o
  simp only at g2 g3
  subst g2 g3
  exact PySem.W.kia_tup (PySem.W.handS_kitx_exc C.hg C.hk C.hs C.hd C.ha C.hn C.ht C.hm) I.kIn J g1 e (fun z => nomatch z) fun tk => ⟨.bl b, H, I.tok tk, rfl, q⟩
end Tw
end

section
set_option Elab.async false
set_option maxRecDepth 100000
set_option maxHeartbeats 3000000
set_option autoImplicit true
set_option linter.all false
set_option relaxedAutoImplicit true
namespace Tw
open PySem L2
/-! ## 22. The suite that asks what kind of error it has -/
theorem is_read {K : PySem.W.Frag} {C a eT : Addr} {i : Nat} {vs : List V} {us : List Value} {D : Ends} {σ : St} {H : Hp}
    (kT : PySem.W.kitOne K (.ref C) (.ref eT) = some true) (kV : PySem.W.kitOne K (.ref C) (.type "ValueError") = some true) (hp : Paired ClsV vs us) (hl : vs.length ≤ sizeLine)
    (kA : PySem.W.kitAny K (.ref C) us = some false) (h1 : σ[i]? = some (some (.ref a))) (h2 : ∀ H', Side H H' → D.rt (.bl false) H') {tt : TA} (ht : ∀ (σ : St) (H : Hp) (Q : List V → Hp → Prop), Q vs H → tt σ H Q) :
    tSeq (tIfS (L2.tOr (L2.tNot (L2.tB (tCB (rIsE K C a) (tCons (tVar i) (tCons (tC (.ref eT)) tNil))))) (L2.tNot (L2.tB (tCB (rIsE K C a) (tCons (tVar i) (tCons (tC (.ty "ValueError")) tNil)))))) (tRet (tC .non)) tNext)
      (tSeq (tIfS (tB (tCB (rIsET K C a) (tCons (tVar i) (tCons (tTup tt) tNil)))) (tRet (tC .non)) tNext) (tRet (tC (.bl false)))) D σ H := by
  refine ⟨_, h1, .ref eT, .ref eT, true, rfl, fun u r => r, kT, true, rfl, ?_⟩
  refine iteF ⟨_, h1, .ty "ValueError", .type "ValueError", true, rfl, fun u r => r, kV, true, rfl, ?_⟩
  refine iteF ⟨_, h1, ?_⟩
  refine ht _ _ _ ⟨hl, fun p hp' => ⟨p, vs, us, false, rfl, upd_same, hp, kA, false, rfl, iteF (h2 _ (.inr ⟨p, vs, hp', rfl⟩))⟩⟩
end Tw
end

section
set_option Elab.async false
set_option maxRecDepth 100000
set_option maxHeartbeats 3000000
set_option autoImplicit true
set_option linter.all false
set_option relaxedAutoImplicit true
namespace Tw
open PySem L2
/-! ## 23. What a run comes to -/
def Wp {α : Type} (m : M α) (S : Store) (Q : α → Store → Prop) (E : Str → Store → Prop) : Prop := match m S with
  | some (.ok a S1) => Q a S1
  | some (.er c S1) => E c S1
  | none => False
structure Dk where
  nx : Rho → Store → Prop
  rt : Vl → Store → Prop
  bk : Rho → Store → Prop
  ct : Rho → Store → Prop
  er : Str → Rho → Store → Prop
def Ws (m : Option SR) (D : Dk) : Prop := match m with
  | some (.ok (.nx ρ) S) => D.nx ρ S
  | some (.ok (.rt v) S) => D.rt v S
  | some (.ok (.bk ρ) S) => D.bk ρ S
  | some (.ok (.ct ρ) S) => D.ct ρ S
  | some (.er c ρ S) => D.er c ρ S
  | none => False
theorem Wp.imp {α : Type} {m : M α} {S} {Q Q' : α → Store → Prop} {E E' : Str → Store → Prop} (h : Wp m S Q E) (i : ∀ a S1, Q a S1 → Q' a S1) (j : ∀ c S1, E c S1 → E' c S1 := by intro _ _ z; exact z) : Wp m S Q' E' := by
  unfold Wp at *
  split <;> simp_all
theorem Ws.imp {m : Option SR} {D D' : Dk} (h : Ws m D) (i1 : ∀ ρ S, D.nx ρ S → D'.nx ρ S := by intro _ _ z; exact z) (i2 : ∀ ρ S, D.rt ρ S → D'.rt ρ S := by intro _ _ z; exact z) (i3 : ∀ ρ S, D.bk ρ S → D'.bk ρ S := by intro _ _ z; exact z)
    (i4 : ∀ ρ S, D.ct ρ S → D'.ct ρ S := by intro _ _ z; exact z) (i5 : ∀ c ρ S, D.er c ρ S → D'.er c ρ S := by intro _ _ _ z; exact z) : Ws m D' := by
  unfold Ws at *
  split <;> simp_all
theorem wp_of {α : Type} {m : M α} {S S1 : Store} {a : α} {Q : α → Store → Prop} {E : Str → Store → Prop} (e : m S = some (.ok a S1)) : Wp m S Q E ↔ Q a S1 := by
  unfold Wp; rw [e]
theorem wp_eq {α : Type} {m : M α} {S S1 : Store} {a : α} {E : Str → Store → Prop} (h : Wp m S (fun b S2 => b = a ∧ S2 = S1) E) (hE : ∀ c S, ¬ E c S) : m S = some (.ok a S1) := by
  unfold Wp at h
  split at h
  · next e => obtain ⟨rfl, rfl⟩ := h; exact e
  · exact absurd h (hE _ _)
  · exact h.elim
theorem wp_get {α : Type} {m : M α} {S : Store} {Q : α → Store → Prop} {E : Str → Store → Prop} (h : Wp m S Q E) (hE : ∀ c S, ¬ E c S) : ∃ a S1, m S = some (.ok a S1) ∧ Q a S1 := by
  unfold Wp at h
  split at h
  · next e => exact ⟨_, _, e, h⟩
  · exact absurd h (hE _ _)
  · exact h.elim
section
variable {α β : Type} {S : Store} {Q : α → Store → Prop} {R : Vl → Store → Prop} {E : Str → Store → Prop} {ρ : Rho} {D : Dk}
theorem wp_ret {a : α} : Wp (ret a) S Q E ↔ Q a S := Iff.rfl
theorem wp_stuck : Wp (stuck : M α) S Q E ↔ False := Iff.rfl
theorem wp_bnd {m : M β} {f : β → M α} : Wp (bnd m f) S Q E ↔ Wp m S (fun a S1 => Wp (f a) S1 Q E) E := by
  unfold Wp bnd
  cases m S with
  | none => rfl
  | some r => cases r <;> rfl
theorem wp_ifs {c : Prop} [Decidable c] {m : M α} : Wp (if c then m else stuck) S Q E ↔ c ∧ Wp m S Q E := by
  by_cases h : c
  · rw [if_pos h]; exact ⟨fun z => ⟨h, z⟩, fun z => z.2⟩
  · rw [if_neg h]; exact ⟨fun z => z.elim, fun z => h z.1⟩
theorem wp_newL {xs : List Vl} : Wp (newL xs) S R E ↔ xs.length ≤ line ∧ R (.loc S.length) (S ++ [.lst xs]) := by
  unfold Wp newL
  by_cases h : xs.length ≤ line
  · rw [if_pos h]; exact ⟨fun z => ⟨h, z⟩, fun z => z.2⟩
  · rw [if_neg h]; exact ⟨fun z => z.elim, fun z => h z.1⟩
theorem wp_getL {n : Nat} {Q : List Vl → Store → Prop} : Wp (getL (.loc n)) S Q E ↔ ∃ xs, S[n]? = some (.lst xs) ∧ Q xs S := by
  cases h : S[n]? with
  | none => simp [Wp, getL, h]
  | some o => cases o <;> simp [Wp, getL, h]
theorem wp_getF {xs : List Vl} {Q : List Vl → Store → Prop} : Wp (getL (.frz xs)) S Q E ↔ Q xs S := Iff.rfl
/-! ### expressions -/
theorem wp_var {i : Nat} : Wp (eVar i ρ) S R E ↔ ∃ x, ρ[i]? = some (some x) ∧ R x S := by
  unfold eVar
  constructor
  · intro h
    split at h
    · rename_i x e; exact ⟨x, e, h⟩
    · exact h.elim
  · rintro ⟨x, e, h⟩
    rw [e]; exact h
theorem wp_c {v : Vl} : Wp (eC v ρ) S R E ↔ R v S := Iff.rfl
theorem wp_op {g : Vl → Vl → M Vl} {a b : Ev} : Wp (eOp g a b ρ) S R E ↔ Wp (a ρ) S (fun x S1 => Wp (b ρ) S1 (fun y S2 => Wp (g x y) S2 R E) E) E := by simp only [eOp, wp_bnd]
theorem wp_un {g : Vl → M Vl} {a : Ev} : Wp (eUn g a ρ) S R E ↔ Wp (a ρ) S (fun x S1 => Wp (g x) S1 R E) E := by simp only [eUn, wp_bnd]
theorem wp_tval {a : Ev} {Q : Bool → Store → Prop} : Wp (tVal a ρ) S Q E ↔ Wp (a ρ) S (fun x S1 => ∃ b, x = .bl b ∧ Q b S1) E := by
  unfold tVal; rw [wp_bnd]
  have : ∀ x S1, Wp (asB x) S1 Q E ↔ ∃ b, x = .bl b ∧ Q b S1 := by
    intro x S1
    cases x <;> simp [asB, wp_ret, wp_stuck]
  simp only [this]
theorem wp_tand {a b : Tv} {Q : Bool → Store → Prop} : Wp (tAnd a b ρ) S Q E ↔ Wp (a ρ) S (fun c S1 => Wp (if c = true then b ρ else ret false) S1 Q E) E := by simp only [tAnd, wp_bnd]
theorem wp_tor {a b : Tv} {Q : Bool → Store → Prop} : Wp (tOr a b ρ) S Q E ↔ Wp (a ρ) S (fun c S1 => Wp (if c = true then ret true else b ρ) S1 Q E) E := by simp only [tOr, wp_bnd]
theorem wp_tnot {a : Tv} {Q : Bool → Store → Prop} : Wp (tNot a ρ) S Q E ↔ Wp (a ρ) S (fun c S1 => Q (!c) S1) E := by simp only [tNot, wp_bnd, wp_ret]
theorem wp_asB {x : Vl} {Q : Bool → Store → Prop} : Wp (asB x) S Q E ↔ ∃ b, x = .bl b ∧ Q b S := by cases x <;> simp [asB, wp_ret, wp_stuck]
theorem wp_and {a b : Ev} : Wp (eAnd a b ρ) S R E ↔ Wp (a ρ) S (fun x S1 => ∃ c, x = .bl c ∧ Wp (if c = true then b ρ else ret (.bl false)) S1 R E) E := by simp only [eAnd, wp_bnd, wp_asB]
theorem wp_or {a b : Ev} : Wp (eOr a b ρ) S R E ↔ Wp (a ρ) S (fun x S1 => ∃ c, x = .bl c ∧ Wp (if c = true then ret (.bl true) else b ρ) S1 R E) E := by simp only [eOr, wp_bnd, wp_asB]
theorem wp_not {a : Ev} : Wp (eNot a ρ) S R E ↔ Wp (a ρ) S (fun x S1 => ∃ c, x = .bl c ∧ R (.bl !c) S1) E := by simp only [eNot, wp_bnd, wp_asB, wp_ret]
theorem wp_ifE {t : Tv} {a b : Ev} : Wp (eIf t a b ρ) S R E ↔ Wp (t ρ) S (fun c S1 => Wp (if c = true then a ρ else b ρ) S1 R E) E := by simp only [eIf, wp_bnd]
theorem wp_chain {f g : Vl → Vl → M Vl} {a b c : Ev} : Wp (eChain f g a b c ρ) S R E ↔ Wp (a ρ) S (fun x S1 => Wp (b ρ) S1 (fun y S2 => Wp (f x y) S2 (fun z S3 => ∃ k, z = .bl k ∧ Wp (if k = true then bnd (c ρ) fun w => g y w else ret (.bl false)) S3 R E) E) E) E := by simp only [eChain, wp_bnd, wp_asB]
theorem wp_nil {Q : List Vl → Store → Prop} : Wp (aNil ρ) S Q E ↔ Q [] S := Iff.rfl
theorem wp_cons {a : Ev} {r : Evs} {Q : List Vl → Store → Prop} : Wp (aCons a r ρ) S Q E ↔ Wp (a ρ) S (fun x S1 => Wp (r ρ) S1 (fun xs S2 => Q (x :: xs) S2) E) E := by simp only [aCons, wp_bnd, wp_ret]
theorem wp_tup {r : Evs} : Wp (eTup r ρ) S R E ↔ Wp (r ρ) S (fun xs S1 => xs.length ≤ line ∧ R (.tup xs) S1) E := by simp only [eTup, wp_bnd, wp_ifs, wp_ret]
theorem wp_lst {r : Evs} : Wp (eLst r ρ) S R E ↔ Wp (r ρ) S (fun xs S1 => xs.length ≤ line ∧ R (.loc S1.length) (S1 ++ [.lst xs])) E := by simp only [eLst, wp_bnd, wp_newL]
theorem wp_dct : Wp (eDct ρ) S R E ↔ R (.loc S.length) (S ++ [.dct]) := Iff.rfl
theorem wp_call {f : List Vl → M Vl} {r : Evs} : Wp (eCall f r ρ) S R E ↔ Wp (r ρ) S (fun xs S1 => Wp (f xs) S1 R E) E := by simp only [eCall, wp_bnd]
theorem wp_app {a b : Ev} : Wp (eApp a b ρ) S R E ↔ Wp (a ρ) S (fun x S1 => ∃ n, x = .loc n ∧ ∃ xs, S1[n]? = some (.lst xs) ∧ Wp (b ρ) S1 (fun y S2 => Wp (mAppend x y) S2 R E) E) E := by
  unfold eApp; rw [wp_bnd]
  have : ∀ x S1 (P : Store → Prop), Wp (isL x) S1 (fun _ => P) E ↔ ∃ n, x = .loc n ∧ ∃ xs, S1[n]? = some (.lst xs) ∧ P S1 := by
    intro x S1 P
    cases x with
    | loc n =>
      cases h : S1[n]? with
      | none => simp [Wp, isL, h]
      | some o => cases o <;> simp [Wp, isL, h]
    | _ => simp [Wp, isL]
  simp only [wp_bnd, this]
theorem wp_append {n : Nat} {y : Vl} : Wp (mAppend (.loc n) y) S R E ↔ ∃ xs, S[n]? = some (.lst xs) ∧ xs.length < line ∧ R .non (S.set n (.lst (xs ++ [y]))) := by
  cases h : S[n]? with
  | none => simp [Wp, mAppend, h]
  | some o => cases o with
    | dct => simp [Wp, mAppend, h]
    | lst xs => by_cases hl : xs.length < line <;> simp [Wp, mAppend, h, hl]
theorem wp_ixL {n : Nat} {i : Int} : Wp (oIx (.loc n) (.int i)) S R E ↔ ∃ xs, S[n]? = some (.lst xs) ∧ ∃ v, atI xs i = some v ∧ R v S := by
  have h0 : oIx (.loc n) (.int i) = bnd (getL (.loc n)) fun xs => match atI xs i with | some v => ret v | none => stuck := rfl
  rw [h0, wp_bnd, wp_getL]
  constructor
  · rintro ⟨xs, e, h⟩
    refine ⟨xs, e, ?_⟩
    split at h
    · rename_i v q; exact ⟨v, q, h⟩
    · exact h.elim
  · rintro ⟨xs, e, v, q, h⟩
    refine ⟨xs, e, ?_⟩
    rw [q]; exact h
theorem wp_ixT {xs : List Vl} {i : Int} : Wp (oIx (.tup xs) (.int i)) S R E ↔ ∃ v, atI xs i = some v ∧ R v S := by
  have h0 : oIx (.tup xs) (.int i) = match atI xs i with | some v => ret v | none => stuck := rfl
  rw [h0]
  constructor
  · intro h
    split at h
    · rename_i v q; exact ⟨v, q, h⟩
    · exact h.elim
  · rintro ⟨v, q, h⟩
    rw [q]; exact h
theorem wp_put {n : Nat} {k : Int} {v : Vl} {Q : Unit → Store → Prop} : Wp (mPut (.loc n) (.int k) v) S Q E ↔ ∃ xs, S[n]? = some (.lst xs) ∧ ∃ j, ixN xs.length k = some j ∧ Q () (S.set n (.lst (xs.set j v))) := by
  cases h : S[n]? with
  | none => simp [Wp, mPut, h]
  | some o => cases o with
    | dct => simp [Wp, mPut, h]
    | lst xs => cases hl : ixN xs.length k <;> simp [Wp, mPut, h, hl]
theorem wp_sl {a : Ev} {lo hi : Evo} : Wp (eSl a lo hi ρ) S R E ↔ Wp (a ρ) S (fun x S1 => Wp (lo ρ) S1 (fun l S2 => Wp (hi ρ) S2 (fun h S3 => Wp (oSl x l h) S3 R E) E) E) E := by simp only [eSl, wp_bnd]
theorem wp_pn {Q : Option Int → Store → Prop} : Wp (pNone ρ) S Q E ↔ Q none S := Iff.rfl
theorem wp_ps {a : Ev} {Q : Option Int → Store → Prop} : Wp (pSome a ρ) S Q E ↔ Wp (a ρ) S (fun x S1 => ∃ i, x = .int i ∧ Q (some i) S1) E := by
  unfold pSome; rw [wp_bnd]
  have : ∀ x S1, Wp (asI x) S1 Q E ↔ ∃ b, x = .int b ∧ Q (some b) S1 := by
    intro x S1
    cases x <;> simp [asI, wp_ret, wp_stuck]
  simp only [this]
theorem wp_slT {xs : List Vl} {l h : Option Int} : Wp (oSl (.tup xs) l h) S R E ↔ R (.tup (cut xs l h)) S := Iff.rfl
/-! operators on known things -/
theorem wp_addI {i j : Int} : Wp (oAdd (.int i) (.int j)) S R E ↔ R (.int (i + j)) S := Iff.rfl
theorem wp_addT {a b : List Vl} : Wp (oAdd (.tup a) (.tup b)) S R E ↔ a.length + b.length ≤ line ∧ R (.tup (a ++ b)) S := by simp only [oAdd, wp_ifs, wp_ret]
theorem wp_sub {i j : Int} : Wp (oSub (.int i) (.int j)) S R E ↔ R (.int (i - j)) S := Iff.rfl
theorem wp_mul {i j : Int} : Wp (oMul (.int i) (.int j)) S R E ↔ i.natAbs.log2 + j.natAbs.log2 < 1000000 ∧ R (.int (i * j)) S := by simp only [oMul, wp_ifs, wp_ret]
theorem wp_mulT {a : List Vl} {k : Int} : Wp (oMul (.tup a) (.int k)) S R E ↔ (a ≠ [] ∧ 2 ≤ k ∧ k ≤ 1000 ∧ a.length ≤ 1000) ∧ R (.tup (List.replicate k.toNat a).flatten) S := by simp only [oMul, wp_ifs, wp_ret]
theorem wp_div {i j : Int} : Wp (oDiv (.int i) (.int j)) S R E ↔ (j ≠ 0 ∧ j.natAbs.log2 < 9000) ∧ R (.int (i.fdiv j)) S := by simp only [oDiv, wp_ifs, wp_ret]
theorem wp_mod {i j : Int} : Wp (oMod (.int i) (.int j)) S R E ↔ j ≠ 0 ∧ R (.int (i.fmod j)) S := by simp only [oMod, wp_ifs, wp_ret]
theorem wp_pow {i j : Int} : Wp (oPow (.int i) (.int j)) S R E ↔ (0 ≤ j ∧ j ≤ 1000000 ∧ i.natAbs < 2 ^ 64) ∧ R (.int (i ^ j.toNat)) S := by simp only [oPow, wp_ifs, wp_ret]
theorem wp_neg {i : Int} : Wp (oNeg (.int i)) S R E ↔ R (.int (-i)) S := Iff.rfl
theorem wp_cmp {p : Int → Int → Bool} {i j : Int} : Wp (oCmp p (.int i) (.int j)) S R E ↔ R (.bl (p i j)) S := Iff.rfl
theorem wp_eqI {i j : Int} : Wp (oEq (.int i) (.int j)) S R E ↔ R (.bl (decide (i = j))) S := Iff.rfl
theorem wp_neI {i j : Int} : Wp (oNe (.int i) (.int j)) S R E ↔ R (.bl (!decide (i = j))) S := Iff.rfl
theorem wp_eqS {a b : Str} : Wp (oEq (.str a) (.str b)) S R E ↔ R (.bl (decide (a = b))) S := Iff.rfl
theorem wp_neS {a b : Str} : Wp (oNe (.str a) (.str b)) S R E ↔ R (.bl (!decide (a = b))) S := Iff.rfl
theorem wp_is0 {x : Vl} : Wp (oIs0 x .non) S R E ↔ R (.bl (match x with | .non => true | _ => false)) S := Iff.rfl
theorem wp_not0 {x : Vl} : Wp (oNot0 x .non) S R E ↔ R (.bl (match x with | .non => false | _ => true)) S := Iff.rfl
theorem wp_isB {a b : Bool} : Wp (oIsB (.bl a) (.bl b)) S R E ↔ R (.bl (decide (a = b))) S := Iff.rfl
theorem wp_notB {a b : Bool} : Wp (oNotB (.bl a) (.bl b)) S R E ↔ R (.bl (!decide (a = b))) S := Iff.rfl
theorem wp_lenT {xs : List Vl} : Wp (bLen [.tup xs]) S R E ↔ xs.length ≤ line ∧ R (.int xs.length) S := by
  show Wp (if xs.length ≤ line then ret (Vl.int xs.length) else stuck) S R E ↔ _
  simp only [wp_ifs, wp_ret]
theorem wp_lenL {n : Nat} : Wp (bLen [.loc n]) S R E ↔ ∃ xs, S[n]? = some (.lst xs) ∧ R (.int xs.length) S := by
  show Wp (bnd (getL (.loc n)) fun xs => ret (Vl.int xs.length)) S R E ↔ _
  rw [wp_bnd, wp_getL]; rfl
theorem wp_tupT {xs : List Vl} : Wp (bTuple [.tup xs]) S R E ↔ R (.tup xs) S := Iff.rfl
theorem wp_tupL {n : Nat} : Wp (bTuple [.loc n]) S R E ↔ ∃ xs, S[n]? = some (.lst xs) ∧ R (.tup xs) S := by
  show Wp (bnd (getL (.loc n)) fun xs => ret (Vl.tup xs)) S R E ↔ _
  rw [wp_bnd, wp_getL]; rfl
theorem wp_lstT {xs : List Vl} : Wp (bList [.tup xs]) S R E ↔ xs.length ≤ line ∧ xs.length ≤ line ∧ R (.loc S.length) (S ++ [.lst xs]) := by
  show Wp (if xs.length ≤ line then newL xs else stuck) S R E ↔ _
  simp only [wp_ifs, wp_newL]
theorem wp_isi {x : Vl} {n : String} : Wp (bIsi [x, .ty n]) S R E ↔ ∃ t, tyN S x = some t ∧ ∃ b, kitB t n = some b ∧ R (.bl b) S := by
  cases h : tyN S x with
  | none => simp [Wp, bIsi, h]
  | some t => 
    cases hl : kitB t n with
    | none => simp [Wp, bIsi, h, hl]
    | some b => exact ⟨fun z => ⟨t, rfl, b, hl, by simpa [Wp, bIsi, h, hl] using z⟩, fun ⟨t', e1, b', e2, z⟩ => by cases e1; rw [hl] at e2; cases e2; simpa [Wp, bIsi, h, hl] using z⟩
theorem wp_repr {x : Vl} {d : PyData} (h : pdr S x = some d) (hd : okR d) : Wp (bRepr [x]) S R E ↔ R (.str d.shown) S := by
  unfold Wp bRepr
  simp only [h, if_pos hd]
/-! ### statements -/
theorem ws_next : Ws (sNext ρ S) D ↔ D.nx ρ S := Iff.rfl
theorem ws_brk : Ws (sBrk ρ S) D ↔ D.bk ρ S := Iff.rfl
theorem ws_cont : Ws (sCont ρ S) D ↔ D.ct ρ S := Iff.rfl
theorem ws_seq {a b : Sv} : Ws (sSeq a b ρ S) D ↔ Ws (a ρ S) { D with nx := fun ρ1 S1 => Ws (b ρ1 S1) D } := by
  unfold sSeq
  cases h : a ρ S with
  | none => rfl
  | some r => cases r with
    | ok f S1 => cases f <;> rfl
    | er c ρ1 S1 => rfl
theorem ws_bnd {α : Type} {m : M α} {k : α → Store → Option SR} : Ws (sBnd m ρ k S) D ↔ Wp m S (fun a S1 => Ws (k a S1) D) (fun c S1 => D.er c ρ S1) := by
  unfold sBnd Wp
  cases m S with
  | none => rfl
  | some r => cases r <;> rfl
theorem ws_expr {f : Ev} : Ws (sExpr f ρ S) D ↔ Wp (f ρ) S (fun _ S1 => D.nx ρ S1) (fun c S1 => D.er c ρ S1) := by unfold sExpr; rw [ws_bnd]; rfl
theorem ws_ret {f : Ev} : Ws (sRet f ρ S) D ↔ Wp (f ρ) S D.rt (fun c S1 => D.er c ρ S1) := by unfold sRet; rw [ws_bnd]; rfl
theorem ws_retN : Ws (sRetN ρ S) D ↔ D.rt .non S := Iff.rfl
theorem ws_if {t : Tv} {a b : Sv} : Ws (sIf t a b ρ S) D ↔ Wp (t ρ) S (fun c S1 => Ws (if c = true then a ρ S1 else b ρ S1) D) (fun c S1 => D.er c ρ S1) := by
  unfold sIf; rw [ws_bnd]
  have : ∀ (c : Bool) S1, Ws ((if c = true then a ρ else b ρ) S1) D ↔ Ws (if c = true then a ρ S1 else b ρ S1) D := by intro c S1; cases c <;> rfl
  simp only [this]
theorem ws_set {i : Nat} {f : Ev} : Ws (sSet i f ρ S) D ↔ Wp (f ρ) S (fun v S1 => D.nx (ρ.set i (some v)) S1) (fun c S1 => D.er c ρ S1) := by unfold sSet sAsg; rw [ws_bnd]; rfl
theorem ws_asg {g : Tg} {f : Ev} : Ws (sAsg f g ρ S) D ↔ Wp (f ρ) S (fun v S1 => ∃ ρ1, g v ρ = some ρ1 ∧ D.nx ρ1 S1) (fun c S1 => D.er c ρ S1) := by
  unfold sAsg; rw [ws_bnd]
  refine iff_of_eq (congrArg (fun q => Wp (f ρ) S q _) (funext fun v => funext fun S1 => propext ?_))
  cases g v ρ <;> simp [Ws]
theorem ws_put {fo fi fe : Ev} : Ws (sPut fo fi fe ρ S) D ↔ Wp (fe ρ) S (fun v S1 => Wp (fo ρ) S1 (fun o S2 => Wp (fi ρ) S2 (fun i S3 => Wp (mPut o i v) S3 (fun _ S4 => D.nx ρ S4) (fun c S1 => D.er c ρ S1)) (fun c S1 => D.er c ρ S1)) (fun c S1 => D.er c ρ S1)) (fun c S1 => D.er c ρ S1) := by
  unfold sPut; simp only [ws_bnd]; rfl
theorem ws_raise {c : Str} : Ws (sRaise c ρ S) D ↔ D.er c ρ S := Iff.rfl
theorem ws_try1 {b h : Sv} {t : Str → Option Bool} : Ws (sTry b [(t, h)] ρ S) D ↔ Ws (b ρ S) { D with er := fun c ρ1 S1 => Ws (hand [(t, h)] c ρ1 S1) D } := by
  unfold sTry
  cases q : b ρ S with
  | none => rfl
  | some r => cases r with
    | ok f S1 => cases f <;> rfl
    | er c ρ1 S1 => rfl
theorem wp_fn {ar n : Nat} {b : Sv} {xs : List Vl} : Wp (fnM ar n b xs) S R E ↔ xs.length = ar ∧ Ws (b (xs.map some ++ List.replicate (n - xs.length) none) S) ⟨fun _ S1 => R .non S1, R, fun _ _ => False, fun _ _ => False, fun c _ S1 => E c S1⟩ := by
  unfold Wp fnM
  by_cases h : xs.length = ar
  · simp only [if_pos h, h, true_and]
    generalize b _ S = r
    cases r with
    | none => rfl
    | some r => cases r with
      | ok f S1 => cases f <;> rfl
      | er c ρ1 S1 => rfl
  · simp [h]
/-! ### loops -/
theorem ws_loopAt {g : Tg} {b : Sv} {J : Nat → Rho → Store → Prop} {D : Dk} : ∀ (xs : List Vl) (k : Nat) (ρ : Rho) (S : Store), J k ρ S →
    (∀ i x ρ S, xs[i]? = some x → J (k + i) ρ S → ∃ ρ0, g x ρ = some ρ0 ∧ Ws (b ρ0 S) ⟨J (k + i + 1), D.rt, D.nx, J (k + i + 1), D.er⟩) → (∀ ρ S, J (k + xs.length) ρ S → D.nx ρ S) → Ws (loop g b xs ρ S) D
  | [], k, ρ, S, h0, hs, he => he ρ S h0
  | x :: xs, k, ρ, S, h0, hs, he => by
    obtain ⟨ρ0, e, h⟩ := hs 0 x ρ S rfl h0
    have go : ∀ ρ1 S1, J (k + 1) ρ1 S1 → Ws (loop g b xs ρ1 S1) D := fun ρ1 S1 h1 => ws_loopAt xs (k + 1) ρ1 S1 h1
      (fun i y ρ S hy hj => by have := hs (i + 1) y ρ S (by simpa using hy) (by rw [show k + (i + 1) = k + 1 + i by omega]; exact hj); rw [show k + (i + 1) = k + 1 + i by omega] at this; exact this)
      (fun ρ S hj => he ρ S (by rw [show k + (x :: xs).length = k + 1 + xs.length by simp; omega]; exact hj))
    unfold loop
    simp only [e]
    revert h
    cases b ρ0 S with
    | none => intro h; exact h
    | some r => cases r with
      | ok f S1 => cases f with
        | nx ρ1 => exact go ρ1 S1
        | ct ρ1 => exact go ρ1 S1
        | bk ρ1 => intro h; exact h
        | rt v => intro h; exact h
      | er c ρ1 S1 => intro h; exact h
theorem ws_loop {g : Tg} {b : Sv} {xs : List Vl} (J : Nat → Rho → Store → Prop) (h0 : J 0 ρ S) (hs : ∀ i x ρ S, xs[i]? = some x → J i ρ S → ∃ ρ0, g x ρ = some ρ0 ∧ Ws (b ρ0 S) ⟨J (i + 1), D.rt, D.nx, J (i + 1), D.er⟩)
    (he : ∀ ρ S, J xs.length ρ S → D.nx ρ S) : Ws (loop g b xs ρ S) D :=
  ws_loopAt xs 0 ρ S h0 (fun i x ρ S hx hj => by rw [Nat.zero_add] at hj ⊢; exact hs i x ρ S hx hj) (fun ρ S hj => he ρ S (by rw [Nat.zero_add] at hj; exact hj))
theorem irange_get {lo : Int} {n i : Nat} {x : Vl} (h : (irange lo n)[i]? = some x) : i < n ∧ x = .int (lo + i) := by
  unfold irange at h
  rw [List.getElem?_map] at h
  by_cases hi : i < n
  · rw [List.getElem?_range hi] at h
    exact ⟨hi, (Option.some.inj h).symm⟩
  · rw [List.getElem?_eq_none (by simp; omega)] at h
    cases h
theorem irange_len {lo : Int} {n : Nat} : (irange lo n).length = n := by simp [irange]
theorem ws_range {g : Tg} {b : Sv} {lo : Int} {n : Nat} (J : Nat → Rho → Store → Prop) (h0 : J 0 ρ S) (hs : ∀ i ρ S, i < n → J i ρ S → ∃ ρ0, g (.int (lo + i)) ρ = some ρ0 ∧ Ws (b ρ0 S) ⟨J (i + 1), D.rt, D.nx, J (i + 1), D.er⟩)
    (he : ∀ ρ S, J n ρ S → D.nx ρ S) : Ws (loop g b (irange lo n) ρ S) D :=
  ws_loop J h0 (fun i x ρ S hx hj => by obtain ⟨hi, rfl⟩ := irange_get hx; exact hs i ρ S hi hj) (fun ρ S hj => he ρ S (by rw [irange_len] at hj; exact hj))
theorem ws_for1 {f : Ev} {g : Tg} {b : Sv} : Ws (sForR1 f g b ρ S) D ↔ Wp (f ρ) S (fun x S1 => ∃ j, x = .int j ∧ (-(2 ^ 62) ≤ j ∧ j < 2 ^ 62) ∧ Ws (loop g b (irange 0 j.toNat) ρ S1) D) (fun c S1 => D.er c ρ S1) := by
  unfold sForR1; rw [ws_bnd]
  refine iff_of_eq (congrArg (fun q => Wp (f ρ) S q _) (funext fun x => funext fun S1 => propext ?_))
  cases x with
  | int j =>
    show Ws ((if -(2 ^ 62) ≤ j ∧ j < 2 ^ 62 then loop g b (irange 0 j.toNat) ρ else fun _ => none) S1) D ↔ _
    by_cases h : -(2 ^ 62) ≤ j ∧ j < 2 ^ 62
    · rw [if_pos h]; exact ⟨fun z => ⟨j, rfl, h, z⟩, fun ⟨_, e, _, z⟩ => by cases e; exact z⟩
    · rw [if_neg h]; exact ⟨fun z => z.elim, fun ⟨_, e, z, _⟩ => by cases e; exact (h z).elim⟩
  | _ => exact ⟨fun z => z.elim, fun ⟨_, e, _⟩ => nomatch e⟩
theorem ws_forF {f : Ev} {g : Tg} {b : Sv} {xs : List Vl} (h : Wp (f ρ) S (fun x S1 => (x = .tup xs ∨ x = .frz xs) ∧ Ws (loop g b xs ρ S1) D) (fun c S1 => D.er c ρ S1)) : Ws (sFor f g b ρ S) D := by
  unfold sFor; rw [ws_bnd]
  refine h.imp fun x S1 ⟨e, q⟩ => ?_
  rcases e with rfl | rfl <;> exact q
/-! ### all(..), any(..) of a tuple -/
theorem wp_quantT {stop : Bool} {fi fe : Ev} {xs : List Vl} {S1 : Store} {p : Vl → Bool} (hi : fi ρ S = some (.ok (.tup xs) S1)) (he : ∀ x ∈ xs, fe (ρ ++ [some x]) S1 = some (.ok (.bl (p x)) S1)) :
    eQuant stop fi fe ρ S = some (.ok (.bl (if stop = true then xs.any p else xs.all p)) S1) := by
  have go : ∀ ys : List Vl, (∀ x ∈ ys, fe (ρ ++ [some x]) S1 = some (.ok (.bl (p x)) S1)) → quant stop none fe ρ ys S1 = some (.ok (.bl (if stop = true then ys.any p else ys.all p)) S1) := by
    intro ys
    induction ys with
    | nil =>
      intro _
      unfold quant
      rw [if_pos (show okS none S1 from trivial)]
      cases stop <;> rfl
    | cons y ys ih =>
      intro h
      have ih := ih fun x hx => h x (List.mem_cons_of_mem _ hx)
      unfold quant
      rw [if_pos (show okS none S1 from trivial)]
      have e1 : nr (fe (ρ ++ [some y])) S1 = some (.ok (.bl (p y)) S1) := by unfold nr; rw [h y List.mem_cons_self]
      rw [show bnd (nr (fe (ρ ++ [some y]))) (fun y => bnd (asB y) fun c => if c = stop then ret (.bl stop) else quant stop none fe ρ ys) S1 = (bnd (asB (.bl (p y))) fun c => if c = stop then ret (.bl stop) else quant stop none fe ρ ys) S1 by unfold bnd; rw [e1]]
      show (if p y = stop then ret (.bl stop) else quant stop none fe ρ ys) S1 = _
      by_cases hp : p y = stop
      · rw [if_pos hp]
        cases stop <;> simp_all [ret]
      · rw [if_neg hp, ih]
        cases stop <;> simp_all
  unfold eQuant
  unfold bnd
  rw [hi]
  exact go xs he
end
/-! a text's own numbers -/
theorem lgb {n k : Nat} (h : n < 2 ^ k) (hk : 0 < k) : n.log2 < k := by
  by_cases h0 : n = 0
  · subst h0; exact hk
  · exact (Nat.log2_lt h0).2 h
theorem lg40 {i : Int} (h0 : -1099511627776 < i) (h : i < 1099511627776) : i.natAbs.log2 < 40 := lgb (by have : (2:Nat) ^ 40 = 1099511627776 := rfl; omega) (by omega)
end Tw
end

section
set_option Elab.async false
set_option maxRecDepth 100000
set_option maxHeartbeats 3000000
set_option autoImplicit true
set_option linter.all false
set_option relaxedAutoImplicit true
namespace Tw
open PySem L2 PySem.Spec PyProof.Rows
/-! ## 24. The end -/
/-- the heap in which the law begins: the tables, and the script where it is not of the written part -/
noncomputable def H0 (K : PySem.W.Frag) (ts : List Addr) (a : Addr) (so : Obj) (ns : List Int) : Hp := fun b => if b ∈ ts then some (.tbl #[]) else if b = a ∧ K.lookup a = none then some (.frz so (.lst (ns.map V.int))) else none
theorem H0_some {K : PySem.W.Frag} {ts : List Addr} {a : Addr} {so : Obj} {ns : List Int} {b : Addr} {u : HO} (h : H0 K ts a so ns b = some u) : (b ∈ ts ∧ u = .tbl #[]) ∨ (b ∉ ts ∧ b = a ∧ K.lookup a = none ∧ u = .frz so (.lst (ns.map V.int))) := by
  unfold H0 at h
  by_cases h1 : b ∈ ts
  · rw [if_pos h1] at h; exact .inl ⟨h1, (Option.some.inj h).symm⟩
  · rw [if_neg h1] at h
    by_cases h2 : b = a ∧ K.lookup a = none
    · rw [if_pos h2] at h; exact .inr ⟨h1, h2.1, h2.2, (Option.some.inj h).symm⟩
    · rw [if_neg h2] at h; cases h
theorem rvs_ints {G : GG} {μ : List Addr} {H : Hp} : ∀ ns : List Int, Rvs G μ H (ns.map Vl.int) (ns.map V.int)
  | [] => .nil
  | n :: ns => .cons (.int n) (rvs_ints ns)
theorem law_callG {P : Program} {w : World} {K : PySem.W.Frag} {mg mb : Str → Option Value} {k : Nat} {fa a : Addr} {cs : List (Addr × Addr)} {fd : FuncData} {x : Str} {g : List Vl → M Vl} {s₁ : Shared} {vs : List Value} {ns : List Int}
    (KX : K.In s₁.heap) (hns : s₁.heap.Ns mainGlobals mg) (hb : s₁.heap.Ns builtinsNs mb) (hbb : ∀ y : Str, y ≠ "__name__" → mb y = bootBuiltins y)
    (hlim : s₁.heap.NoLimit) (hg : s₁.gens = #[]) (hT : ∀ p ∈ cs, s₁.heap.get? p.2 = some { cls := .none, data := .fields #[] })
    (nT : ∀ p ∈ cs, K.lookup p.2 = none) (C : ∀ p ∈ cs, PySem.W.codeHdIn K p.1 p.2 = true)
    (hbm : ∃ (bm : Addr) (ob : Obj), mg "__builtins__" = some (.ref bm) ∧ bm ≠ builtinsNs ∧ s₁.heap.get? bm = some ob ∧ ob.cls = .type "module" ∧ ob.dict = some builtinsNs ∧ ob.data = .plain)
    (ha : s₁.heap.get? a = some { cls := .type "list", data := .seq vs.toArray }) (hi : IntsAre vs ns) (hl : ns.length ≤ sizeLine) (hr : Room k callerA)
    (F : ∀ base : Heap, K.In base → base.Ns mainGlobals mg → (∀ p ∈ cs, GxR.TabB base mg p.1 p.2) → FnG P w K mg base k fa fd [x] (spM ⟨K, mg, cs.map (·.2)⟩ g))
    (hbind : ∀ (s : Shared) (u : Value), BindsTo s fd ⟨[u], []⟩ [(x, u)]) (run : ∃ S', g [.frz (ns.map .int)] [] = some (.ok (.bl true) S')) :
    codeAny (model P w) callerA (.call (.ref fa) ⟨[.ref a], []⟩) (fun r s' => r = .ok (.ret (.bool true)) ∧ OldK s₁.heap s'.heap ∧ s'.os = s₁.os ∧ AllBare s'.gens) s₁ := by
  have vl := vals_ints hi
  have lv := hi.length
  generalize hso : ({ cls := .type "list", data := .seq vs.toArray } : Obj) = so at ha
  have sod : so.data = .seq vs.toArray := by rw [← hso]
  have tget : ∀ b, b ∈ cs.map (·.2) → s₁.heap.get? b = some { cls := .none, data := .fields #[] } ∧ K.lookup b = none := fun b hb' => by
    obtain ⟨p, hp, rfl⟩ := List.mem_map.mp hb'
    exact ⟨hT p hp, nT p hp⟩
  generalize hH : H0 K (cs.map (·.2)) a so ns = H
  have hHs : ∀ {b u}, H b = some u → (b ∈ cs.map (·.2) ∧ u = .tbl #[]) ∨ (b ∉ cs.map (·.2) ∧ b = a ∧ K.lookup a = none ∧ u = .frz so (.lst (ns.map V.int))) := fun {b u} q => H0_some (by rw [hH]; exact q)
  -- what stands in the heap, and is neither a table nor the script, is not tracked
  have plainH : ∀ {b : Addr} {o : Obj}, s₁.heap.get? b = some o → o.data ≠ .fields #[] → (∀ us n, o.data ≠ .seq us n) → H b = none := fun {b o} e n1 n2 => by
    cases q : H b with
    | none => rfl
    | some u =>
      rcases hHs q with ⟨hm, _⟩ | ⟨_, rfl, _⟩
      · have := (tget b hm).1; rw [e] at this; cases this; exact absurd rfl n1
      · rw [ha] at e; cases e; exact absurd sod (n2 _ _)
  have dictH : ∀ {b : Addr} {m : Str → Option Value}, s₁.heap.Ns b m → (hidT s₁.heap H).Ns b m := fun {b m} hN => by
    obtain ⟨o, es, ep, e, hd, r⟩ := hN
    exact ⟨o, es, ep, hidT_get e (plainH e (by rw [hd]; exact fun z => nomatch z) (by rw [hd]; exact fun _ _ z => nomatch z)), hd, r⟩
  have inK : K.In (hidT s₁.heap H) := fun b o e => hidT_get (KX b o e) (by
    cases q : H b with
    | none => rfl
    | some u =>
      rcases hHs q with ⟨hm, _⟩ | ⟨_, rfl, hn, _⟩
      · rw [(tget b hm).2] at e; cases e
      · rw [hn] at e; cases e)
  have hM : L2.Mod K mg (hidT s₁.heap H) := ⟨inK, dictH hns, ⟨mb, dictH hb, hbb⟩, by obtain ⟨mc, q1, q2⟩ := hlim; exact ⟨mc, dictH q1, q2⟩⟩
  have tabsB : ∀ p ∈ cs, GxR.TabB (hidT s₁.heap H) mg p.1 p.2 := fun p hp => by
    have tp := hT p hp
    refine ⟨PySem.W.codeHd_of_K inK (C p hp), ?_, fun z => ?_⟩
    · obtain ⟨bm, ob, b1, b2, b3, b4, b5, b6⟩ := hbm
      refine ⟨bm, ob, b1, b2, fun z => ?_, fun z => ?_, hidT_get b3 (plainH b3 (by rw [b6]; exact fun z => nomatch z) (by rw [b6]; exact fun _ _ z => nomatch z)), b4, b5, b6⟩
      · obtain ⟨o, es, ep, e, hd, _⟩ := hns
        rw [z, e] at b3; cases b3; rw [hd] at b6; cases b6
      · rw [z, tp] at b3; cases b3; cases b6
    · obtain ⟨o, es, ep, e, hd, _⟩ := hns
      rw [z, tp] at e; cases e; cases hd
  have okH : HOk P w H s₁.heap := fun b u q => by
    rcases hHs q with ⟨hm, rfl⟩ | ⟨_, rfl, hn, rfl⟩
    · exact (tget b hm).1
    · exact ⟨ha, by rw [List.length_map]; exact hl, vs, _, vl, by rw [hso]; exact ha⟩
  have sqa : SqC K H a (ns.map V.int) := by
    cases q : K.lookup a with
    | none =>
      refine .inl ⟨so, ?_⟩
      rw [← hH]; unfold H0
      rw [if_neg (fun hm => by have := (tget a hm).1; rw [ha] at this; cases this; cases sod), if_pos ⟨rfl, q⟩]
    | some o =>
      have e := KX a o q
      rw [ha] at e; cases e
      exact .inr (.inr ⟨_, vs.toArray, _, q, by rw [← hso], by rw [← hso], sod, by rw [List.size_toArray, lv]; exact hl, by simpa using vl⟩)
  have tabH : ∀ b ∈ cs.map (·.2), H b = some (.tbl #[]) := fun b hm => by rw [← hH]; exact if_pos hm
  have rs : RS ⟨K, mg, cs.map (·.2)⟩ [] H [] := ⟨rfl, List.nodup_nil, fun n o e => by simp at e, fun b hm => ⟨#[], tabH b hm, trivial⟩⟩
  obtain ⟨S', hrun⟩ := run
  have hsp : spM ⟨K, mg, cs.map (·.2)⟩ g [.ref a] H (fun v _ => v = .bl true) (fun _ _ _ => False) :=
    ⟨[], [.frz (ns.map .int)], [], rs, .cons (.frz sqa (rvs_ints ns)) .nil, _, hrun, fun μ' H' v gr rv _ => by cases rv; rfl⟩
  have e0 : Env0 P w K mg (hidT s₁.heap H) callerA [] s₁ H := ⟨rfl, hM, fun b o e => of_hidT e, Nat.le_of_eq (hidT_size _ _), trivial, fun b hb => absurd (show b ∈ ([] : List Addr) from hb) (by simp), okH, .of_eq hg⟩
  refine codeAny_mono ((F _ inK (dictH hns) tabsB).run callerA [] s₁ H ⟨[.ref a], []⟩ [.ref a] [.ref a] _ _ hr rfl e0 (hbind s₁ (.ref a)) (.cons rfl .nil) hsp) fun r s' h => ?_
  cases r with
  | error e =>
    obtain ⟨_, _, _, _, _, _, _, _, _, _, _, _, q⟩ := h
    exact q.elim
  | ok fl =>
    cases fl with
    | ret u =>
      obtain ⟨v, H', eos, bare, un, ok', rv, q⟩ := h
      subst q
      cases (show u = Value.bool true from rv)
      have same : ∀ b o, b ∉ cs.map (·.2) → s₁.heap.get? b = some o → s'.heap.get? b = some o := fun b o nb e => by
        cases q : H b with
        | none => exact un.keep b o e q (fun z => absurd (show b ∈ ([] : List Addr) from z) (by simp)) (by simp)
        | some u =>
          rcases hHs q with ⟨hm, _⟩ | ⟨_, rfl, _, rfl⟩
          · exact absurd hm nb
          · have z1 := (ok' _ _ (un.frzs _ _ _ q)).1
            rw [ha] at e; cases e
            exact z1
      have tabs' : ∀ p ∈ cs, ∃ more : Array Value, s'.heap.get? p.2 = some { cls := .none, data := .fields more } := fun p hp => by
        obtain ⟨more, z⟩ := un.tbls p.2 #[] (tabH p.2 (List.mem_map.mpr ⟨p, hp, rfl⟩))
        exact ⟨_, ok' p.2 _ z⟩
      refine ⟨rfl, ⟨fun b o e => ?_, fun b o e => ?_⟩, eos, bare⟩
      · by_cases hm : b ∈ cs.map (·.2)
        · obtain ⟨p, hp, rfl⟩ := List.mem_map.mp hm
          obtain ⟨more, h2⟩ := tabs' p hp
          rw [hT p hp] at e; cases e
          exact .inr (.inl ⟨((PySem.W.codeHd_of_K KX (C p hp)).tab (hT p hp)).isCodeTable, rfl, #[], more, rfl, by rw [Array.empty_append]; exact h2⟩)
        · exact .inl (same b o hm e)
      · by_cases hm : b ∈ cs.map (·.2)
        · obtain ⟨p, hp, rfl⟩ := List.mem_map.mp hm
          obtain ⟨more, h2⟩ := tabs' p hp
          exact ⟨_, h2⟩
        · exact ⟨o, same b o hm e⟩
    | _ => exact False.elim h
/-- a code object of the written part, and its table -/
theorem hd_look {K : PySem.W.Frag} {c P : Addr} (e : PySem.W.codeHdIn K c P = true) : ∃ dd vs sl, K.lookup c = some ⟨.type "code", dd, .fields vs, sl⟩ ∧ vs[11]? = some (.ref P) := by
  unfold PySem.W.codeHdIn at e
  split at e
  · rename_i dd vs sl hk
    refine ⟨dd, vs, sl, hk, ?_⟩
    simp only [Bool.and_eq_true] at e
    obtain ⟨⟨⟨⟨⟨e1, _⟩, _⟩, _⟩, _⟩, _⟩ := e
    split at e1
    · rename_i P' h
      rw [h, beq_iff_eq.mp e1]
    · cases e1
  · cases e
/-- what the law's def must be -/
def LawG (P : Program) (w : World) (K : PySem.W.Frag) (k : Nat) (x : Str) (mg : Str → Option Value) (fa : Addr) (h : Heap) : Prop :=
  ∃ (fd : FuncData) (cs : List (Addr × Addr)) (g : List Vl → M Vl), (∀ p ∈ cs, h.get? p.2 = some { cls := .none, data := .fields #[] }) ∧ (∀ p ∈ cs, K.lookup p.2 = none) ∧ (∀ p ∈ cs, PySem.W.codeHdIn K p.1 p.2 = true) ∧
    (∀ (s : Shared) (u : Value), BindsTo s fd ⟨[u], []⟩ [(x, u)]) ∧ (∀ ns : List Int, ns.length ≤ 63 → ∃ S', g [.frz (ns.map .int)] [] = some (.ok (.bl true) S')) ∧
    ∀ base : Heap, K.In base → base.Ns mainGlobals mg → (∀ p ∈ cs, GxR.TabB base mg p.1 p.2) → FnG P w K mg base k fa fd [x] (spM ⟨K, mg, cs.map (·.2)⟩ g)
/-- the tables of the defs of the text are empty at the head's end -/
def Tabs0 (q : Program) (K : PySem.W.Frag) (mg : Str → Option Value) (h : Heap) : Prop := ∀ (y : Str) (f c P : Addr) (oc : Value) (od : Option Addr) (fd : FuncData) (sl : Array (Option Value)), ((recsOf q).any fun e => e.name == y) = true →
  mg y = some (.ref f) → K.lookup f = some ⟨oc, od, .func fd, sl⟩ → fd.code = .ref c → PySem.W.codeHdIn K c P = true → h.get? P = some { cls := .none, data := .fields #[] }
theorem walkG {l : PySem.W.OpenLaw} {k : Nat} {q : Program} {loose : List Str} {XP : (Str → Option Value) → Heap → Prop} {YP : World → Heap → Prop} {d : DefRec} {K : Params → PySem.W.Frag} {x : Str}
    (hn : l.most = some 63) (hdf : d.params.defaults = []) (hr : Room k callerA) (hY : ∀ (w : World) (h : Heap), YP w h → (K w.params).In h)
    (F : ∀ (w : World) (mg : Str → Option Value) (fa : Addr) (h : Heap), YP w h → (K w.params).In h → h.Ns mainGlobals mg → mg d.name = some (.ref fa) → Tabs0 q (K w.params) mg h → LawG l.prog w (K w.params) k x mg fa h) :
    PySem.W.WalkO q loose XP YP l.row.toRowW d [] (fun f vs => PySem.call f vs) := by
  refine Att.attach_callB hn hdf fun w s₀ s₁ mg mb fa o pm cd doc a vs ns G Y _ _ _ hmg hobj hints hlen _ hg => ?_
  have KX := hY w _ Y
  have own : Tabs0 q (K w.params) mg s₁.heap := fun y f c P oc od fd sl hy my lf fc hd => by
    obtain ⟨dL, hm, e1⟩ := List.any_eq_true.mp hy
    obtain ⟨a', o', fd', c', P', t1, t2, t3, t4, t5, t6⟩ := G.T.tab dL hm
    rw [beq_iff_eq.mp e1, my] at t1; cases t1
    rw [KX _ _ lf] at t2; cases t2; cases t3
    rw [fc] at t4; cases t4
    obtain ⟨⟨oc2, vc, u1, _, u3, u4⟩, hP⟩ := t6
    obtain ⟨dd, vs2, sl2, lc, v11⟩ := hd_look hd
    rw [KX _ _ lc] at u1; cases u1; cases u3
    rw [v11] at u4; cases u4
    exact hP
  obtain ⟨fd, cs, g, hT, nT, C, hb, run, hF⟩ := F w mg fa _ Y KX G.T.g hmg own
  exact law_callG KX G.T.g G.T.b G.T.builtins G.T.nolimit hg hT nT C G.T.bmain hobj hints (Nat.le_trans hlen (by decide)) hr hF hb (run ns hlen)
end Tw
end

section
set_option Elab.async false
set_option maxRecDepth 100000
set_option maxHeartbeats 3000000
set_option autoImplicit true
set_option linter.all false
set_option relaxedAutoImplicit true
namespace Tw
open PySem L2 PySem.Spec PyProof.Rows
/-! ## 25. Clauses -/
/-- takes x, and none of ys -/
def tkx (x : Str) (ys : List Str) : Str → Option Bool := fun c => if c = x then some true else if c ∈ ys then some false else none
theorem clause_of {G : GG} {x : Str} {e : Addr} {ys : List Str} (m : G.mg x = some (.ref e)) (k : PySem.W.exmOne G.K (.ref e) (.ref e) = some true) (h : ∀ y ∈ ys, ∃ C, G.mg y = some (.ref C) ∧ PySem.W.exmOne G.K (.ref C) (.ref e) = some false) : Clause G (.ref e) (tkx x ys) := by
  intro c b q
  unfold tkx at q
  by_cases h1 : c = x
  · rw [if_pos h1] at q; cases q; subst h1; exact ⟨e, m, k⟩
  · rw [if_neg h1] at q
    by_cases h2 : c ∈ ys
    · rw [if_pos h2] at q; cases q; exact h c h2
    · rw [if_neg h2] at q; cases q
theorem kit_ref {K : PySem.W.Frag} {t : Value} {C : Addr} {b : Bool} (d : (t == .ref C) = false) (i : PySem.W.isClsIn K C = true) (j : PySem.W.typeIn K (.ref C) = some (.type "type")) (s : PySem.W.subIn K t (.ref C) = some b) : PySem.W.kitOne K t (.ref C) = some b := by
  have i' : (PySem.W.clsIn K C).isSome = true := i
  unfold PySem.W.kitOne
  rw [if_neg (by rw [d]; decide)]
  show (if ((PySem.W.clsIn K C).isSome && PySem.W.typeIn K (.ref C) == some (.type "type")) = true then PySem.W.subIn K t (.ref C) else none) = some b
  rw [i', j, if_pos (by decide +kernel)]
  exact s
theorem kit_type {K : PySem.W.Frag} {C : Addr} {n : String} {b : Bool} (d : PySem.W.kitMeta n = true) (s : PySem.W.subIn K (.ref C) (.type n) = some b) : PySem.W.kitOne K (.ref C) (.type n) = some b := by
  unfold PySem.W.kitOne
  rw [if_neg (by intro z; cases z)]
  show (if PySem.W.kitMeta n = true then PySem.W.subIn K (.ref C) (.type n) else none) = some b
  rw [if_pos d]
  exact s
end Tw
end

section
set_option Elab.async false
set_option linter.all false
set_option maxRecDepth 100000
set_option maxHeartbeats 3000000
namespace Tw
open PySem L2
namespace LW
section
variable {P : Program} {w : PySem.World} {K : PySem.W.Frag} {mg : Str → Option Value} {base : Heap} {tabs : List Addr}
def top (i : Nat) : Stmt := PySem.Challenge.pw_twinpurse_k02_standings_are_checked.main.body.getD i (.Pass ⟨0, 0, 0, 0⟩)
abbrev s_is_integer : Stmt := top 5
theorem sc_is_integer : FnScope ["value"] ["value"] (defScope s_is_integer) := ⟨rfl, rfl, rfl, by decide +kernel, rfl, by decide +kernel, by decide +kernel⟩
noncomputable def b_is_integer : Sv :=
  sRet (eAnd (eCall bIsi (aCons (eVar 0) (aCons (eC (.ty "int")) (aNil)))) (eNot (eCall bIsi (aCons (eVar 0) (aCons (eC (.ty "bool")) (aNil))))))
noncomputable def r_is_integer : List Vl → M Vl := fnM 1 1 b_is_integer
theorem d_is_integer {ad : Addr} {od an : Option Addr} {osl : Array (Option Value)} {kV doc pm cdv ct oc : Value} (hg : mg "is_integer" = some (.ref ad)) (lk : K.lookup ad = some ⟨oc, od, .func (PySem.W.fnOf "is_integer" "is_integer" (defArgs s_is_integer) (defBody s_is_integer) (defScope s_is_integer) .none kV doc pm an cdv ct), osl⟩)
    (hcd : PySem.W.codeIn K cdv "is_integer" = true) (hk : PySem.W.keepIn K (.ref ad) = true) (z_isinstance : mg "isinstance" = none) (z_int : mg "int" = none) (z_bool : mg "bool" = none) : Def P w K mg base tabs 1 "is_integer" ["value"] r_is_integer :=
  ⟨ad, _, hg, hk, .all (fun us hl => match us, hl with | [_], _ => rfl), fn_ok (k := 0) lk hcd sc_is_integer (fun X W A outer s H E hX at_ => by subst hX; exact
    (xs_one (xs_ret (xe_and (x_isi z_isinstance (xa_cons (xe_var 0) (xa_cons (xe_ty z_int (by decide +kernel)) xa_nil))) (xe_one (xe_not (x_isi z_isinstance (xa_cons (xe_var 0) (xa_cons (xe_ty z_bool (by decide +kernel)) xa_nil)))))))))⟩
abbrev s_is_between : Stmt := top 6
theorem sc_is_between : FnScope ["value", "low", "high"] ["value", "low", "high"] (defScope s_is_between) := ⟨rfl, rfl, rfl, by decide +kernel, rfl, by decide +kernel, by decide +kernel⟩
noncomputable def b_is_between : Sv :=
  sRet (eAnd (eCall r_is_integer (aCons (eVar 0) (aNil))) (eChain oLe oLe (eVar 1) (eVar 0) (eVar 2)))
noncomputable def r_is_between : List Vl → M Vl := fnM 3 3 b_is_between
theorem d_is_between {ad : Addr} {od an : Option Addr} {osl : Array (Option Value)} {kV doc pm cdv ct oc : Value} (hg : mg "is_between" = some (.ref ad)) (lk : K.lookup ad = some ⟨oc, od, .func (PySem.W.fnOf "is_between" "is_between" (defArgs s_is_between) (defBody s_is_between) (defScope s_is_between) .none kV doc pm an cdv ct), osl⟩)
    (hcd : PySem.W.codeIn K cdv "is_between" = true) (hk : PySem.W.keepIn K (.ref ad) = true) (D_is_integer : Def P w K mg base tabs 1 "is_integer" ["value"] r_is_integer) : Def P w K mg base tabs 2 "is_between" ["value", "low", "high"] r_is_between :=
  ⟨ad, _, hg, hk, .all (fun us hl => match us, hl with | [_, _, _], _ => rfl), fn_ok (k := 1) lk hcd sc_is_between (fun X W A outer s H E hX at_ => by subst hX; exact
    (xs_one (xs_ret (xe_and (xe_call at_ D_is_integer (by decide) (xa_cons (xe_var 0) xa_nil)) (xe_one (x_lele (xe_var 1) (xe_var 0) (xe_var 2)))))))⟩
abbrev s_is_count : Stmt := top 7
theorem sc_is_count : FnScope ["value"] ["value"] (defScope s_is_count) := ⟨rfl, rfl, rfl, by decide +kernel, rfl, by decide +kernel, by decide +kernel⟩
noncomputable def b_is_count : Sv :=
  sRet (eAnd (eCall r_is_integer (aCons (eVar 0) (aNil))) (eOp oGe (eVar 0) (eC (.int 0))))
noncomputable def r_is_count : List Vl → M Vl := fnM 1 1 b_is_count
theorem d_is_count {ad : Addr} {od an : Option Addr} {osl : Array (Option Value)} {kV doc pm cdv ct oc : Value} (hg : mg "is_count" = some (.ref ad)) (lk : K.lookup ad = some ⟨oc, od, .func (PySem.W.fnOf "is_count" "is_count" (defArgs s_is_count) (defBody s_is_count) (defScope s_is_count) .none kV doc pm an cdv ct), osl⟩)
    (hcd : PySem.W.codeIn K cdv "is_count" = true) (hk : PySem.W.keepIn K (.ref ad) = true) (D_is_integer : Def P w K mg base tabs 1 "is_integer" ["value"] r_is_integer) : Def P w K mg base tabs 2 "is_count" ["value"] r_is_count :=
  ⟨ad, _, hg, hk, .all (fun us hl => match us, hl with | [_], _ => rfl), fn_ok (k := 1) lk hcd sc_is_count (fun X W A outer s H E hX at_ => by subst hX; exact
    (xs_one (xs_ret (xe_and (xe_call at_ D_is_integer (by decide) (xa_cons (xe_var 0) xa_nil)) (xe_one (x_ge (xe_var 0) xe_int))))))⟩
abbrev s_is_tuple_of : Stmt := top 8
theorem sc_is_tuple_of : FnScope ["value", "size"] ["value", "size"] (defScope s_is_tuple_of) := ⟨rfl, rfl, rfl, by decide +kernel, rfl, by decide +kernel, by decide +kernel⟩
noncomputable def b_is_tuple_of : Sv :=
  sRet (eAnd (eCall bIsi (aCons (eVar 0) (aCons (eC (.ty "tuple")) (aNil)))) (eOp oEq (eCall bLen (aCons (eVar 0) (aNil))) (eVar 1)))
noncomputable def r_is_tuple_of : List Vl → M Vl := fnM 2 2 b_is_tuple_of
theorem d_is_tuple_of {ad : Addr} {od an : Option Addr} {osl : Array (Option Value)} {kV doc pm cdv ct oc : Value} (hg : mg "is_tuple_of" = some (.ref ad)) (lk : K.lookup ad = some ⟨oc, od, .func (PySem.W.fnOf "is_tuple_of" "is_tuple_of" (defArgs s_is_tuple_of) (defBody s_is_tuple_of) (defScope s_is_tuple_of) .none kV doc pm an cdv ct), osl⟩)
    (hcd : PySem.W.codeIn K cdv "is_tuple_of" = true) (hk : PySem.W.keepIn K (.ref ad) = true) (z_isinstance : mg "isinstance" = none) (z_tuple : mg "tuple" = none) (z_len : mg "len" = none) : Def P w K mg base tabs 1 "is_tuple_of" ["value", "size"] r_is_tuple_of :=
  ⟨ad, _, hg, hk, .all (fun us hl => match us, hl with | [_, _], _ => rfl), fn_ok (k := 0) lk hcd sc_is_tuple_of (fun X W A outer s H E hX at_ => by subst hX; exact
    (xs_one (xs_ret (xe_and (x_isi z_isinstance (xa_cons (xe_var 0) (xa_cons (xe_ty z_tuple (by decide +kernel)) xa_nil))) (xe_one (x_eq at_ (x_len z_len (xa_cons (xe_var 0) xa_nil)) (xe_var 1)))))))⟩
abbrev s_is_tuple_up_to : Stmt := top 9
theorem sc_is_tuple_up_to : FnScope ["value", "most"] ["value", "most"] (defScope s_is_tuple_up_to) := ⟨rfl, rfl, rfl, by decide +kernel, rfl, by decide +kernel, by decide +kernel⟩
noncomputable def b_is_tuple_up_to : Sv :=
  sRet (eAnd (eCall bIsi (aCons (eVar 0) (aCons (eC (.ty "tuple")) (aNil)))) (eOp oLe (eCall bLen (aCons (eVar 0) (aNil))) (eVar 1)))
noncomputable def r_is_tuple_up_to : List Vl → M Vl := fnM 2 2 b_is_tuple_up_to
theorem d_is_tuple_up_to {ad : Addr} {od an : Option Addr} {osl : Array (Option Value)} {kV doc pm cdv ct oc : Value} (hg : mg "is_tuple_up_to" = some (.ref ad)) (lk : K.lookup ad = some ⟨oc, od, .func (PySem.W.fnOf "is_tuple_up_to" "is_tuple_up_to" (defArgs s_is_tuple_up_to) (defBody s_is_tuple_up_to) (defScope s_is_tuple_up_to) .none kV doc pm an cdv ct), osl⟩)
    (hcd : PySem.W.codeIn K cdv "is_tuple_up_to" = true) (hk : PySem.W.keepIn K (.ref ad) = true) (z_isinstance : mg "isinstance" = none) (z_tuple : mg "tuple" = none) (z_len : mg "len" = none) : Def P w K mg base tabs 1 "is_tuple_up_to" ["value", "most"] r_is_tuple_up_to :=
  ⟨ad, _, hg, hk, .all (fun us hl => match us, hl with | [_, _], _ => rfl), fn_ok (k := 0) lk hcd sc_is_tuple_up_to (fun X W A outer s H E hX at_ => by subst hX; exact
    (xs_one (xs_ret (xe_and (x_isi z_isinstance (xa_cons (xe_var 0) (xa_cons (xe_ty z_tuple (by decide +kernel)) xa_nil))) (xe_one (x_le (x_len z_len (xa_cons (xe_var 0) xa_nil)) (xe_var 1)))))))⟩
abbrev s__are_rooms : Stmt := top 21
theorem sc__are_rooms : FnScope ["places", "rooms"] ["places", "rooms"] (defScope s__are_rooms) := ⟨rfl, rfl, rfl, by decide +kernel, rfl, by decide +kernel, by decide +kernel⟩
noncomputable def b__are_rooms : Sv :=
  sRet (eQuant false (eVar 0) (eCall r_is_between (aCons (eVar 2) (aCons (eC (.int 0)) (aCons (eOp oSub (eVar 1) (eC (.int 1))) (aNil))))))
noncomputable def r__are_rooms : List Vl → M Vl := fnM 2 2 b__are_rooms
theorem d__are_rooms {ac Pt : Addr} {ad : Addr} {od an : Option Addr} {osl : Array (Option Value)} {kV doc pm ct oc : Value} (hg : mg "_are_rooms" = some (.ref ad)) (lk : K.lookup ad = some ⟨oc, od, .func (PySem.W.fnOf "_are_rooms" "_are_rooms" (defArgs s__are_rooms) (defBody s__are_rooms) (defScope s__are_rooms) .none kV doc pm an (.ref ac) ct), osl⟩)
    (hcd : PySem.W.codeIn K (.ref ac) "_are_rooms" = true) (hk : PySem.W.keepIn K (.ref ad) = true) (D_is_between : Def P w K mg base tabs 2 "is_between" ["value", "low", "high"] r_is_between) (z_all : mg "all" = none) (TB : GxR.TabB base mg ac Pt) (hP : Pt ∈ tabs) : Def P w K mg base tabs 4 "_are_rooms" ["places", "rooms"] r__are_rooms :=
  ⟨ad, _, hg, hk, .all (fun us hl => match us, hl with | [_, _], _ => rfl), fn_ok (k := 3) lk hcd sc__are_rooms (fun X W A outer s H E hX at_ => by subst hX; exact
    (xs_one (xs_ret (x_all (by first | rfl | kernel_rfl) at_ z_all TB hP rfl (xe_var 0) (fun X1 _ _ _ hx at1 => by obtain ⟨sc, Hc, cl, C, code, bi, Ao, pn, fp, rfl⟩ := hx; exact (xe_call at1 D_is_between (by decide) (xa_cons (xe_var 2) (xa_cons xe_int (xa_cons (x_sub (xe_var 1) xe_int) xa_nil)))))))))⟩
abbrev s__is_step : Stmt := top 19
theorem sc__is_step : FnScope ["step", "rooms"] ["step", "rooms"] (defScope s__is_step) := ⟨rfl, rfl, rfl, by decide +kernel, rfl, by decide +kernel, by decide +kernel⟩
noncomputable def b__is_step : Sv :=
  sSeq (sIf (tNot (tVal (eCall r_is_tuple_of (aCons (eVar 0) (aCons (eC (.int 4)) (aNil)))))) (sRet (eC (.bl false))) (sNext))
  (sRet (eAnd (eCall r__are_rooms (aCons (eSl (eVar 0) (pNone) (pSome (eC (.int 2)))) (aCons (eVar 1) (aNil)))) (eQuant false (eSl (eVar 0) (pSome (eC (.int 2))) (pNone)) (eCall r_is_between (aCons (eVar 2) (aCons (eUn oNeg (eC (.int 2))) (aCons (eC (.int 2)) (aNil))))))))
noncomputable def r__is_step : List Vl → M Vl := fnM 2 2 b__is_step
theorem d__is_step {ac Pt : Addr} {ad : Addr} {od an : Option Addr} {osl : Array (Option Value)} {kV doc pm ct oc : Value} (hg : mg "_is_step" = some (.ref ad)) (lk : K.lookup ad = some ⟨oc, od, .func (PySem.W.fnOf "_is_step" "_is_step" (defArgs s__is_step) (defBody s__is_step) (defScope s__is_step) .none kV doc pm an (.ref ac) ct), osl⟩)
    (hcd : PySem.W.codeIn K (.ref ac) "_is_step" = true) (hk : PySem.W.keepIn K (.ref ad) = true) (D_is_tuple_of : Def P w K mg base tabs 1 "is_tuple_of" ["value", "size"] r_is_tuple_of) (D__are_rooms : Def P w K mg base tabs 4 "_are_rooms" ["places", "rooms"] r__are_rooms) (D_is_between : Def P w K mg base tabs 2 "is_between" ["value", "low", "high"] r_is_between) (z_all : mg "all" = none) {t_MOST_MOVED : Tok} (c_MOST_MOVED : mg "MOST_MOVED" = some (.int 2 t_MOST_MOVED)) (TB : GxR.TabB base mg ac Pt) (hP : Pt ∈ tabs) : Def P w K mg base tabs 5 "_is_step" ["step", "rooms"] r__is_step :=
  ⟨ad, _, hg, hk, .all (fun us hl => match us, hl with | [_, _], _ => rfl), fn_ok (k := 4) lk hcd sc__is_step (fun X W A outer s H E hX at_ => by subst hX; exact
    (xs_cons (xs_if (xt_not (xt_val (xe_call at_ D_is_tuple_of (by decide) (xa_cons (xe_var 0) (xa_cons xe_int xa_nil))))) (xs_one (xs_ret xe_bl)) xs_nil)
  (xs_one (xs_ret (xe_and (xe_call at_ D__are_rooms (by decide) (xa_cons (xe_sl (xe_var 0) xo_none (xo_some xe_int)) (xa_cons (xe_var 1) xa_nil))) (xe_one (x_all (by first | rfl | kernel_rfl) at_ z_all TB hP rfl (xe_sl (xe_var 0) (xo_some xe_int) xo_none) (fun X1 _ _ _ hx at1 => by obtain ⟨sc, Hc, cl, C, code, bi, Ao, pn, fp, rfl⟩ := hx; exact (xe_call at1 D_is_between (by decide) (xa_cons (xe_var 2) (xa_cons (x_neg (xe_gint c_MOST_MOVED)) (xa_cons (xe_gint c_MOST_MOVED) xa_nil))))))))))))⟩
abbrev s__is_test : Stmt := top 20
theorem sc__is_test : FnScope ["test", "rooms"] ["test", "rooms"] (defScope s__is_test) := ⟨rfl, rfl, rfl, by decide +kernel, rfl, by decide +kernel, by decide +kernel⟩
noncomputable def b__is_test : Sv :=
  sRet (eAnd (eCall r_is_tuple_of (aCons (eVar 0) (aCons (eC (.int 2)) (aNil)))) (eCall r__are_rooms (aCons (eVar 0) (aCons (eVar 1) (aNil)))))
noncomputable def r__is_test : List Vl → M Vl := fnM 2 2 b__is_test
theorem d__is_test {ad : Addr} {od an : Option Addr} {osl : Array (Option Value)} {kV doc pm cdv ct oc : Value} (hg : mg "_is_test" = some (.ref ad)) (lk : K.lookup ad = some ⟨oc, od, .func (PySem.W.fnOf "_is_test" "_is_test" (defArgs s__is_test) (defBody s__is_test) (defScope s__is_test) .none kV doc pm an cdv ct), osl⟩)
    (hcd : PySem.W.codeIn K cdv "_is_test" = true) (hk : PySem.W.keepIn K (.ref ad) = true) (D_is_tuple_of : Def P w K mg base tabs 1 "is_tuple_of" ["value", "size"] r_is_tuple_of) (D__are_rooms : Def P w K mg base tabs 4 "_are_rooms" ["places", "rooms"] r__are_rooms) : Def P w K mg base tabs 5 "_is_test" ["test", "rooms"] r__is_test :=
  ⟨ad, _, hg, hk, .all (fun us hl => match us, hl with | [_, _], _ => rfl), fn_ok (k := 4) lk hcd sc__is_test (fun X W A outer s H E hX at_ => by subst hX; exact
    (xs_one (xs_ret (xe_and (xe_call at_ D_is_tuple_of (by decide) (xa_cons (xe_var 0) (xa_cons xe_int xa_nil))) (xe_one (xe_call at_ D__are_rooms (by decide) (xa_cons (xe_var 0) (xa_cons (xe_var 1) xa_nil))))))))⟩
abbrev s_is_program : Stmt := top 18
theorem sc_is_program : FnScope ["program", "rooms", "steps", "tests"] ["program"] (defScope s_is_program) := ⟨rfl, rfl, rfl, by decide +kernel, rfl, by decide +kernel, by decide +kernel⟩
noncomputable def b_is_program : Sv :=
  sSeq (sIf (tNot (tVal (eCall r_is_tuple_of (aCons (eVar 0) (aCons (eC (.int 3)) (aNil)))))) (sRet (eC (.bl false))) (sNext))
  (sSeq (sAsg (eVar 0) (gPair 3 (gsCons (gSlot 1) (gsCons (gSlot 2) (gsCons (gSlot 3) (gsNil))))))
  (sSeq (sIf (tNot (tVal (eCall r_is_between (aCons (eVar 1) (aCons (eC (.int 1)) (aCons (eC (.int 3)) (aNil))))))) (sRet (eC (.bl false))) (sNext))
  (sSeq (sIf (tOr (tNot (tVal (eCall r_is_tuple_up_to (aCons (eVar 2) (aCons (eC (.int 4)) (aNil)))))) (tNot (tVal (eCall r_is_tuple_up_to (aCons (eVar 3) (aCons (eC (.int 2)) (aNil))))))) (sRet (eC (.bl false))) (sNext))
  (sRet (eAnd (eQuant false (eVar 2) (eCall r__is_step (aCons (eVar 4) (aCons (eVar 1) (aNil))))) (eQuant false (eVar 3) (eCall r__is_test (aCons (eVar 4) (aCons (eVar 1) (aNil))))))))))
noncomputable def r_is_program : List Vl → M Vl := fnM 1 4 b_is_program
theorem d_is_program {ac Pt : Addr} {ad : Addr} {od an : Option Addr} {osl : Array (Option Value)} {kV doc pm ct oc : Value} (hg : mg "is_program" = some (.ref ad)) (lk : K.lookup ad = some ⟨oc, od, .func (PySem.W.fnOf "is_program" "is_program" (defArgs s_is_program) (defBody s_is_program) (defScope s_is_program) .none kV doc pm an (.ref ac) ct), osl⟩)
    (hcd : PySem.W.codeIn K (.ref ac) "is_program" = true) (hk : PySem.W.keepIn K (.ref ad) = true) (D_is_tuple_of : Def P w K mg base tabs 1 "is_tuple_of" ["value", "size"] r_is_tuple_of) (D_is_between : Def P w K mg base tabs 2 "is_between" ["value", "low", "high"] r_is_between) (D_is_tuple_up_to : Def P w K mg base tabs 1 "is_tuple_up_to" ["value", "most"] r_is_tuple_up_to) (D__is_step : Def P w K mg base tabs 5 "_is_step" ["step", "rooms"] r__is_step) (D__is_test : Def P w K mg base tabs 5 "_is_test" ["test", "rooms"] r__is_test) (z_all : mg "all" = none) {t_MOST_ROOMS : Tok} (c_MOST_ROOMS : mg "MOST_ROOMS" = some (.int 3 t_MOST_ROOMS)) {t_MOST_STEPS : Tok} (c_MOST_STEPS : mg "MOST_STEPS" = some (.int 4 t_MOST_STEPS)) {t_MOST_TESTS : Tok} (c_MOST_TESTS : mg "MOST_TESTS" = some (.int 2 t_MOST_TESTS)) (TB : GxR.TabB base mg ac Pt) (hP : Pt ∈ tabs) : Def P w K mg base tabs 7 "is_program" ["program"] r_is_program :=
  ⟨ad, _, hg, hk, .all (fun us hl => match us, hl with | [_], _ => rfl), fn_ok (k := 6) lk hcd sc_is_program (fun X W A outer s H E hX at_ => by subst hX; exact
    (xs_cons (xs_if (xt_not (xt_val (xe_call at_ D_is_tuple_of (by decide) (xa_cons (xe_var 0) (xa_cons xe_int xa_nil))))) (xs_one (xs_ret xe_bl)) xs_nil)
  (xs_cons (xs_asg (xe_var 0) (xg_pair rfl at_.calm (xgs_cons (xg_slot 1 at_.nd) (xgs_cons (xg_slot 2 at_.nd) (xgs_cons (xg_slot 3 at_.nd) xgs_nil)))))
  (xs_cons (xs_if (xt_not (xt_val (xe_call at_ D_is_between (by decide) (xa_cons (xe_var 1) (xa_cons xe_int (xa_cons (xe_gint c_MOST_ROOMS) xa_nil)))))) (xs_one (xs_ret xe_bl)) xs_nil)
  (xs_cons (xs_if (xw_or (xt_not (xt_val (xe_call at_ D_is_tuple_up_to (by decide) (xa_cons (xe_var 2) (xa_cons (xe_gint c_MOST_STEPS) xa_nil))))) (xw_or1 (xt_not (xt_val (xe_call at_ D_is_tuple_up_to (by decide) (xa_cons (xe_var 3) (xa_cons (xe_gint c_MOST_TESTS) xa_nil))))))).pt (xs_one (xs_ret xe_bl)) xs_nil)
  (xs_one (xs_ret (xe_and (x_all (by first | rfl | kernel_rfl) at_ z_all TB hP rfl (xe_var 2) (fun X1 _ _ _ hx at1 => by obtain ⟨sc, Hc, cl, C, code, bi, Ao, pn, fp, rfl⟩ := hx; exact (xe_call at1 D__is_step (by decide) (xa_cons (xe_var 4) (xa_cons (xe_var 1) xa_nil))))) (xe_one (x_all (by first | rfl | kernel_rfl) at_ z_all TB hP rfl (xe_var 3) (fun X1 _ _ _ hx at1 => by obtain ⟨sc, Hc, cl, C, code, bi, Ao, pn, fp, rfl⟩ := hx; exact (xe_call at1 D__is_test (by decide) (xa_cons (xe_var 4) (xa_cons (xe_var 1) xa_nil))))))))))))))⟩
abbrev s_check_program : Stmt := top 15
theorem sc_check_program : FnScope ["program"] ["program"] (defScope s_check_program) := ⟨rfl, rfl, rfl, by decide +kernel, rfl, by decide +kernel, by decide +kernel⟩
noncomputable def b_check_program : Sv :=
  sIf (tNot (tVal (eCall r_is_program (aCons (eVar 0) (aNil))))) (sRaise "BadProgram") (sNext)
noncomputable def r_check_program : List Vl → M Vl := fnM 1 1 b_check_program
theorem d_check_program {ad : Addr} {od an : Option Addr} {osl : Array (Option Value)} {kV doc pm cdv ct oc : Value} (hg : mg "check_program" = some (.ref ad)) (lk : K.lookup ad = some ⟨oc, od, .func (PySem.W.fnOf "check_program" "check_program" (defArgs s_check_program) (defBody s_check_program) (defScope s_check_program) .none kV doc pm an cdv ct), osl⟩)
    (hcd : PySem.W.codeIn K cdv "check_program" = true) (hk : PySem.W.keepIn K (.ref ad) = true) (D_is_program : Def P w K mg base tabs 7 "is_program" ["program"] r_is_program) {e_BadProgram : Addr} (x_BadProgram : XFact K mg "BadProgram" e_BadProgram) : Def P w K mg base tabs 8 "check_program" ["program"] r_check_program :=
  ⟨ad, _, hg, hk, .all (fun us hl => match us, hl with | [_], _ => rfl), fn_ok (k := 7) lk hcd sc_check_program (fun X W A outer s H E hX at_ => by subst hX; exact
    (xs_one (xs_if (xt_not (xt_val (xe_call at_ D_is_program (by decide) (xa_cons (xe_var 0) xa_nil)))) (xs_one (xs_raise at_ PySem.F.excBase_ValueError x_BadProgram.1 x_BadProgram.2.1 x_BadProgram.2.2.1 (raises_own x_BadProgram.2.2.2.1 x_BadProgram.2.2.2.2))) xs_nil)))⟩
abbrev s_is_place : Stmt := top 22
theorem sc_is_place : FnScope ["standing", "rooms", "room", "first", "second"] ["standing", "rooms"] (defScope s_is_place) := ⟨rfl, rfl, rfl, by decide +kernel, rfl, by decide +kernel, by decide +kernel⟩
noncomputable def b_is_place : Sv :=
  sSeq (sIf (tNot (tVal (eCall r_is_tuple_of (aCons (eVar 0) (aCons (eC (.int 3)) (aNil)))))) (sRet (eC (.bl false))) (sNext))
  (sSeq (sAsg (eVar 0) (gPair 3 (gsCons (gSlot 2) (gsCons (gSlot 3) (gsCons (gSlot 4) (gsNil))))))
  (sRet (eAnd (eCall r_is_between (aCons (eVar 2) (aCons (eC (.int 0)) (aCons (eOp oSub (eVar 1) (eC (.int 1))) (aNil))))) (eAnd (eCall r_is_count (aCons (eVar 3) (aNil))) (eCall r_is_count (aCons (eVar 4) (aNil)))))))
noncomputable def r_is_place : List Vl → M Vl := fnM 2 5 b_is_place
theorem d_is_place {ad : Addr} {od an : Option Addr} {osl : Array (Option Value)} {kV doc pm cdv ct oc : Value} (hg : mg "is_place" = some (.ref ad)) (lk : K.lookup ad = some ⟨oc, od, .func (PySem.W.fnOf "is_place" "is_place" (defArgs s_is_place) (defBody s_is_place) (defScope s_is_place) .none kV doc pm an cdv ct), osl⟩)
    (hcd : PySem.W.codeIn K cdv "is_place" = true) (hk : PySem.W.keepIn K (.ref ad) = true) (D_is_tuple_of : Def P w K mg base tabs 1 "is_tuple_of" ["value", "size"] r_is_tuple_of) (D_is_between : Def P w K mg base tabs 2 "is_between" ["value", "low", "high"] r_is_between) (D_is_count : Def P w K mg base tabs 2 "is_count" ["value"] r_is_count) : Def P w K mg base tabs 3 "is_place" ["standing", "rooms"] r_is_place :=
  ⟨ad, _, hg, hk, .all (fun us hl => match us, hl with | [_, _], _ => rfl), fn_ok (k := 2) lk hcd sc_is_place (fun X W A outer s H E hX at_ => by subst hX; exact
    (xs_cons (xs_if (xt_not (xt_val (xe_call at_ D_is_tuple_of (by decide) (xa_cons (xe_var 0) (xa_cons xe_int xa_nil))))) (xs_one (xs_ret xe_bl)) xs_nil)
  (xs_cons (xs_asg (xe_var 0) (xg_pair rfl at_.calm (xgs_cons (xg_slot 2 at_.nd) (xgs_cons (xg_slot 3 at_.nd) (xgs_cons (xg_slot 4 at_.nd) xgs_nil)))))
  (xs_one (xs_ret (xe_and (xe_call at_ D_is_between (by decide) (xa_cons (xe_var 2) (xa_cons xe_int (xa_cons (x_sub (xe_var 1) xe_int) xa_nil)))) (xe_and (xe_call at_ D_is_count (by decide) (xa_cons (xe_var 3) xa_nil)) (xe_one (xe_call at_ D_is_count (by decide) (xa_cons (xe_var 4) xa_nil))))))))))⟩
abbrev s_check_place : Stmt := top 17
theorem sc_check_place : FnScope ["standing", "rooms"] ["standing", "rooms"] (defScope s_check_place) := ⟨rfl, rfl, rfl, by decide +kernel, rfl, by decide +kernel, by decide +kernel⟩
noncomputable def b_check_place : Sv :=
  sIf (tNot (tVal (eCall r_is_place (aCons (eVar 0) (aCons (eVar 1) (aNil)))))) (sRaise "BadStanding") (sNext)
noncomputable def r_check_place : List Vl → M Vl := fnM 2 2 b_check_place
theorem d_check_place {ad : Addr} {od an : Option Addr} {osl : Array (Option Value)} {kV doc pm cdv ct oc : Value} (hg : mg "check_place" = some (.ref ad)) (lk : K.lookup ad = some ⟨oc, od, .func (PySem.W.fnOf "check_place" "check_place" (defArgs s_check_place) (defBody s_check_place) (defScope s_check_place) .none kV doc pm an cdv ct), osl⟩)
    (hcd : PySem.W.codeIn K cdv "check_place" = true) (hk : PySem.W.keepIn K (.ref ad) = true) (D_is_place : Def P w K mg base tabs 3 "is_place" ["standing", "rooms"] r_is_place) {e_BadStanding : Addr} (x_BadStanding : XFact K mg "BadStanding" e_BadStanding) : Def P w K mg base tabs 4 "check_place" ["standing", "rooms"] r_check_place :=
  ⟨ad, _, hg, hk, .all (fun us hl => match us, hl with | [_, _], _ => rfl), fn_ok (k := 3) lk hcd sc_check_place (fun X W A outer s H E hX at_ => by subst hX; exact
    (xs_one (xs_if (xt_not (xt_val (xe_call at_ D_is_place (by decide) (xa_cons (xe_var 0) (xa_cons (xe_var 1) xa_nil))))) (xs_one (xs_raise at_ PySem.F.excBase_ValueError x_BadStanding.1 x_BadStanding.2.1 x_BadStanding.2.2.1 (raises_own x_BadStanding.2.2.2.1 x_BadStanding.2.2.2.2))) xs_nil)))⟩
abbrev s_check_standing : Stmt := top 16
theorem sc_check_standing : FnScope ["program", "standing"] ["program", "standing"] (defScope s_check_standing) := ⟨rfl, rfl, rfl, by decide +kernel, rfl, by decide +kernel, by decide +kernel⟩
noncomputable def b_check_standing : Sv :=
  sSeq (sExpr (eCall r_check_program (aCons (eVar 0) (aNil))))
  (sExpr (eCall r_check_place (aCons (eVar 1) (aCons (eOp oIx (eVar 0) (eC (.int 0))) (aNil)))))
noncomputable def r_check_standing : List Vl → M Vl := fnM 2 2 b_check_standing
theorem d_check_standing {ad : Addr} {od an : Option Addr} {osl : Array (Option Value)} {kV doc pm cdv ct oc : Value} (hg : mg "check_standing" = some (.ref ad)) (lk : K.lookup ad = some ⟨oc, od, .func (PySem.W.fnOf "check_standing" "check_standing" (defArgs s_check_standing) (defBody s_check_standing) (defScope s_check_standing) .none kV doc pm an cdv ct), osl⟩)
    (hcd : PySem.W.codeIn K cdv "check_standing" = true) (hk : PySem.W.keepIn K (.ref ad) = true) (D_check_program : Def P w K mg base tabs 8 "check_program" ["program"] r_check_program) (D_check_place : Def P w K mg base tabs 4 "check_place" ["standing", "rooms"] r_check_place) : Def P w K mg base tabs 9 "check_standing" ["program", "standing"] r_check_standing :=
  ⟨ad, _, hg, hk, .all (fun us hl => match us, hl with | [_, _], _ => rfl), fn_ok (k := 8) lk hcd sc_check_standing (fun X W A outer s H E hX at_ => by subst hX; exact
    (xs_cons (xs_expr (xe_call at_ D_check_program (by decide) (xa_cons (xe_var 0) xa_nil)))
  (xs_one (xs_expr (xe_call at_ D_check_place (by decide) (xa_cons (xe_var 1) (xa_cons (xe_ix (xe_var 0) xe_int) xa_nil)))))))⟩
abbrev s__law_mixed : Stmt := top 24
theorem sc__law_mixed : FnScope ["number", "k", "step"] ["number", "k"] (defScope s__law_mixed) := ⟨rfl, rfl, rfl, by decide +kernel, rfl, by decide +kernel, by decide +kernel⟩
noncomputable def b__law_mixed : Sv :=
  sSeq (sSet 2 (eOp oMod (eOp oAdd (eOp oAdd (eOp oMul (eVar 0) (eC (.int 48271))) (eOp oMul (eVar 1) (eC (.int 69621)))) (eC (.int 12345))) (eC (.int 2147483647))))
  (sRet (eOp oMod (eOp oAdd (eOp oMul (eVar 2) (eOp oAdd (eOp oDiv (eVar 2) (eC (.int 65536))) (eC (.int 3)))) (eVar 1)) (eC (.int 2147483647))))
noncomputable def r__law_mixed : List Vl → M Vl := fnM 2 3 b__law_mixed
theorem d__law_mixed {ad : Addr} {od an : Option Addr} {osl : Array (Option Value)} {kV doc pm cdv ct oc : Value} (hg : mg "_law_mixed" = some (.ref ad)) (lk : K.lookup ad = some ⟨oc, od, .func (PySem.W.fnOf "_law_mixed" "_law_mixed" (defArgs s__law_mixed) (defBody s__law_mixed) (defScope s__law_mixed) .none kV doc pm an cdv ct), osl⟩)
    (hcd : PySem.W.codeIn K cdv "_law_mixed" = true) (hk : PySem.W.keepIn K (.ref ad) = true) : Def P w K mg base tabs 1 "_law_mixed" ["number", "k"] r__law_mixed :=
  ⟨ad, _, hg, hk, .all (fun us hl => match us, hl with | [_, _], _ => rfl), fn_ok (k := 0) lk hcd sc__law_mixed (fun X W A outer s H E hX at_ => by subst hX; exact
    (xs_cons (xs_set 2 at_.nd (x_mod (x_add (x_add (x_mul (xe_var 0) xe_int) (x_mul (xe_var 1) xe_int)) xe_int) xe_int))
  (xs_one (xs_ret (x_mod (x_add (x_mul (xe_var 2) (x_add (x_div (xe_var 2) xe_int) xe_int)) (xe_var 1)) xe_int)))))⟩
abbrev s__law_numbers : Stmt := top 25
theorem sc__law_numbers : FnScope ["script", "numbers", "cell", "rest", "k"] ["script"] (defScope s__law_numbers) := ⟨rfl, rfl, rfl, by decide +kernel, rfl, by decide +kernel, by decide +kernel⟩
noncomputable def b__law_numbers : Sv :=
  sSeq (sSet 1 (eLst (aNil)))
  (sSeq (sFor (eVar 0) (gSlot 2) (sIf (tVal (eOp oGe (eVar 2) (eOp oPow (eC (.int 10)) (eC (.int 18))))) (sSeq (sSet 3 (eVar 2))
  (sForR1 (eC (.int 60)) (gSlot 4) (sIf (tVal (eOp oGt (eVar 3) (eC (.int 0)))) (sSeq (sExpr (eApp (eVar 1) (eOp oMod (eVar 3) (eC (.int 1000000)))))
  (sSet 3 (eOp oDiv (eVar 3) (eC (.int 1000000))))) (sNext)))) (sSeq (sExpr (eApp (eVar 1) (eOp oMod (eVar 2) (eC (.int 1000000)))))
  (sForR1 (eC (.int 5)) (gSlot 4) (sExpr (eApp (eVar 1) (eOp oMod (eCall r__law_mixed (aCons (eCall r__law_mixed (aCons (eOp oMod (eVar 2) (eC (.int 2147483647))) (aCons (eVar 4) (aNil)))) (aCons (eOp oAdd (eVar 4) (eC (.int 7))) (aNil)))) (eC (.int 1000000)))))))))
  (sRet (eVar 1)))
noncomputable def r__law_numbers : List Vl → M Vl := fnM 1 5 b__law_numbers
theorem d__law_numbers {ad : Addr} {od an : Option Addr} {osl : Array (Option Value)} {kV doc pm cdv ct oc : Value} (hg : mg "_law_numbers" = some (.ref ad)) (lk : K.lookup ad = some ⟨oc, od, .func (PySem.W.fnOf "_law_numbers" "_law_numbers" (defArgs s__law_numbers) (defBody s__law_numbers) (defScope s__law_numbers) .none kV doc pm an cdv ct), osl⟩)
    (hcd : PySem.W.codeIn K cdv "_law_numbers" = true) (hk : PySem.W.keepIn K (.ref ad) = true) (D__law_mixed : Def P w K mg base tabs 1 "_law_mixed" ["number", "k"] r__law_mixed) (z_range : mg "range" = none) : Def P w K mg base tabs 2 "_law_numbers" ["script"] r__law_numbers :=
  ⟨ad, _, hg, hk, .all (fun us hl => match us, hl with | [_], _ => rfl), fn_ok (k := 1) lk hcd sc__law_numbers (fun X W A outer s H E hX at_ => by subst hX; exact
    (xs_cons (xs_set 1 at_.nd (xe_lst xa_nil))
  (xs_cons (xs_for at_ (xe_var 0) (xg_slot 2 at_.nd) (xs_one (xs_if (xt_ge (xe_var 2) (x_pow xe_int xe_int)) (xs_cons (xs_set 3 at_.nd (xe_var 2))
  (xs_one (xs_for_range1 at_ z_range xe_int (xg_slot 4 at_.nd) (xs_one (xs_if (xt_gt (xe_var 3) xe_int) (xs_cons (xs_expr (xe_append (xe_var 1) (x_mod (xe_var 3) xe_int)))
  (xs_one (xs_set 3 at_.nd (x_div (xe_var 3) xe_int)))) xs_nil))))) (xs_cons (xs_expr (xe_append (xe_var 1) (x_mod (xe_var 2) xe_int)))
  (xs_one (xs_for_range1 at_ z_range xe_int (xg_slot 4 at_.nd) (xs_one (xs_expr (xe_append (xe_var 1) (x_mod (xe_call at_ D__law_mixed (by decide) (xa_cons (xe_call at_ D__law_mixed (by decide) (xa_cons (x_mod (xe_var 2) xe_int) (xa_cons (xe_var 4) xa_nil))) (xa_cons (x_add (xe_var 4) xe_int) xa_nil))) xe_int))))))))))
  (xs_one (xs_ret (xe_var 1))))))⟩
abbrev s__law_draw : Stmt := top 26
theorem sc__law_draw : FnScope ["draws", "at", "first"] ["draws"] (defScope s__law_draw) := ⟨rfl, rfl, rfl, by decide +kernel, rfl, by decide +kernel, by decide +kernel⟩
noncomputable def b__law_draw : Sv :=
  sSeq (sSet 1 (eOp oIx (eVar 0) (eC (.int 1))))
  (sSeq (sPut (eVar 0) (eC (.int 1)) (eOp oAdd (eVar 1) (eC (.int 1))))
  (sSeq (sIf (tVal (eOp oLt (eVar 1) (eCall bLen (aCons (eOp oIx (eVar 0) (eC (.int 0))) (aNil))))) (sRet (eOp oIx (eOp oIx (eVar 0) (eC (.int 0))) (eVar 1))) (sNext))
  (sSeq (sSet 2 (eOp oAdd (eC (.int 1)) (eVar 1)))
  (sSeq (sIf (tVal (eOp oGt (eCall bLen (aCons (eOp oIx (eVar 0) (eC (.int 0))) (aNil))) (eC (.int 0)))) (sSet 2 (eOp oAdd (eVar 2) (eOp oMul (eC (.int 1009)) (eOp oIx (eOp oIx (eVar 0) (eC (.int 0))) (eC (.int 0)))))) (sNext))
  (sRet (eOp oMod (eCall r__law_mixed (aCons (eCall r__law_mixed (aCons (eVar 2) (aCons (eVar 1) (aNil)))) (aCons (eC (.int 5)) (aNil)))) (eC (.int 1000000))))))))
noncomputable def r__law_draw : List Vl → M Vl := fnM 1 3 b__law_draw
theorem d__law_draw {ad : Addr} {od an : Option Addr} {osl : Array (Option Value)} {kV doc pm cdv ct oc : Value} (hg : mg "_law_draw" = some (.ref ad)) (lk : K.lookup ad = some ⟨oc, od, .func (PySem.W.fnOf "_law_draw" "_law_draw" (defArgs s__law_draw) (defBody s__law_draw) (defScope s__law_draw) .none kV doc pm an cdv ct), osl⟩)
    (hcd : PySem.W.codeIn K cdv "_law_draw" = true) (hk : PySem.W.keepIn K (.ref ad) = true) (D__law_mixed : Def P w K mg base tabs 1 "_law_mixed" ["number", "k"] r__law_mixed) (z_len : mg "len" = none) : Def P w K mg base tabs 2 "_law_draw" ["draws"] r__law_draw :=
  ⟨ad, _, hg, hk, .all (fun us hl => match us, hl with | [_], _ => rfl), fn_ok (k := 1) lk hcd sc__law_draw (fun X W A outer s H E hX at_ => by subst hX; exact
    (xs_cons (xs_set 1 at_.nd (xe_ix (xe_var 0) xe_int))
  (xs_cons (xs_put (xe_var 0) xe_int (x_add (xe_var 1) xe_int))
  (xs_cons (xs_if (xt_lt (xe_var 1) (x_len z_len (xa_cons (xe_ix (xe_var 0) xe_int) xa_nil))) (xs_one (xs_ret (xe_ix (xe_ix (xe_var 0) xe_int) (xe_var 1)))) xs_nil)
  (xs_cons (xs_set 2 at_.nd (x_add xe_int (xe_var 1)))
  (xs_cons (xs_if (xt_gt (x_len z_len (xa_cons (xe_ix (xe_var 0) xe_int) xa_nil)) xe_int) (xs_one (xs_set 2 at_.nd (x_add (xe_var 2) (x_mul xe_int (xe_ix (xe_ix (xe_var 0) xe_int) xe_int))))) xs_nil)
  (xs_one (xs_ret (x_mod (xe_call at_ D__law_mixed (by decide) (xa_cons (xe_call at_ D__law_mixed (by decide) (xa_cons (xe_var 2) (xa_cons (xe_var 1) xa_nil))) (xa_cons xe_int xa_nil))) xe_int)))))))))⟩
abbrev s__law_program : Stmt := top 27
theorem sc__law_program : FnScope ["draws", "rooms", "steps", "k", "room", "target", "tests"] ["draws"] (defScope s__law_program) := ⟨rfl, rfl, rfl, by decide +kernel, rfl, by decide +kernel, by decide +kernel⟩
noncomputable def b__law_program : Sv :=
  sSeq (sSet 1 (eOp oIx (eLst (aCons (eC (.int 1)) (aCons (eC (.int 2)) (aCons (eC (.int 1)) (aCons (eC (.int 3)) (aCons (eC (.int 2)) (aNil))))))) (eOp oMod (eCall r__law_draw (aCons (eVar 0) (aNil))) (eC (.int 5)))))
  (sSeq (sSet 2 (eLst (aNil)))
  (sSeq (sForR1 (eOp oIx (eLst (aCons (eC (.int 2)) (aCons (eC (.int 3)) (aCons (eC (.int 1)) (aCons (eC (.int 4)) (aCons (eC (.int 4)) (aCons (eC (.int 3)) (aCons (eC (.int 0)) (aNil))))))))) (eOp oMod (eCall r__law_draw (aCons (eVar 0) (aNil))) (eC (.int 7)))) (gSlot 3) (sSeq (sSet 4 (eOp oMod (eCall r__law_draw (aCons (eVar 0) (aNil))) (eVar 1)))
  (sSeq (sSet 5 (eOp oMod (eCall r__law_draw (aCons (eVar 0) (aNil))) (eVar 1)))
  (sExpr (eApp (eVar 2) (eTup (aCons (eVar 4) (aCons (eVar 5) (aCons (eOp oSub (eOp oMod (eCall r__law_draw (aCons (eVar 0) (aNil))) (eC (.int 5))) (eC (.int 2))) (aCons (eOp oSub (eOp oMod (eCall r__law_draw (aCons (eVar 0) (aNil))) (eC (.int 5))) (eC (.int 2))) (aNil)))))))))))
  (sSeq (sSet 6 (eLst (aNil)))
  (sSeq (sForR1 (eOp oIx (eLst (aCons (eC (.int 0)) (aCons (eC (.int 1)) (aCons (eC (.int 0)) (aCons (eC (.int 2)) (aCons (eC (.int 1)) (aNil))))))) (eOp oMod (eCall r__law_draw (aCons (eVar 0) (aNil))) (eC (.int 5)))) (gSlot 3) (sExpr (eApp (eVar 6) (eTup (aCons (eOp oMod (eCall r__law_draw (aCons (eVar 0) (aNil))) (eVar 1)) (aCons (eOp oMod (eCall r__law_draw (aCons (eVar 0) (aNil))) (eVar 1)) (aNil)))))))
  (sRet (eTup (aCons (eVar 1) (aCons (eCall bTuple (aCons (eVar 2) (aNil))) (aCons (eCall bTuple (aCons (eVar 6) (aNil))) (aNil))))))))))
noncomputable def r__law_program : List Vl → M Vl := fnM 1 7 b__law_program
theorem d__law_program {ad : Addr} {od an : Option Addr} {osl : Array (Option Value)} {kV doc pm cdv ct oc : Value} (hg : mg "_law_program" = some (.ref ad)) (lk : K.lookup ad = some ⟨oc, od, .func (PySem.W.fnOf "_law_program" "_law_program" (defArgs s__law_program) (defBody s__law_program) (defScope s__law_program) .none kV doc pm an cdv ct), osl⟩)
    (hcd : PySem.W.codeIn K cdv "_law_program" = true) (hk : PySem.W.keepIn K (.ref ad) = true) (D__law_draw : Def P w K mg base tabs 2 "_law_draw" ["draws"] r__law_draw) (z_range : mg "range" = none) (z_tuple : mg "tuple" = none) : Def P w K mg base tabs 3 "_law_program" ["draws"] r__law_program :=
  ⟨ad, _, hg, hk, .all (fun us hl => match us, hl with | [_], _ => rfl), fn_ok (k := 2) lk hcd sc__law_program (fun X W A outer s H E hX at_ => by subst hX; exact
    (xs_cons (xs_set 1 at_.nd (xe_ix (xe_lst (xa_cons xe_int (xa_cons xe_int (xa_cons xe_int (xa_cons xe_int (xa_cons xe_int xa_nil)))))) (x_mod (xe_call at_ D__law_draw (by decide) (xa_cons (xe_var 0) xa_nil)) xe_int)))
  (xs_cons (xs_set 2 at_.nd (xe_lst xa_nil))
  (xs_cons (xs_for_range1 at_ z_range (xe_ix (xe_lst (xa_cons xe_int (xa_cons xe_int (xa_cons xe_int (xa_cons xe_int (xa_cons xe_int (xa_cons xe_int (xa_cons xe_int xa_nil)))))))) (x_mod (xe_call at_ D__law_draw (by decide) (xa_cons (xe_var 0) xa_nil)) xe_int)) (xg_slot 3 at_.nd) (xs_cons (xs_set 4 at_.nd (x_mod (xe_call at_ D__law_draw (by decide) (xa_cons (xe_var 0) xa_nil)) (xe_var 1)))
  (xs_cons (xs_set 5 at_.nd (x_mod (xe_call at_ D__law_draw (by decide) (xa_cons (xe_var 0) xa_nil)) (xe_var 1)))
  (xs_one (xs_expr (xe_append (xe_var 2) (xe_tup (xa_cons (xe_var 4) (xa_cons (xe_var 5) (xa_cons (x_sub (x_mod (xe_call at_ D__law_draw (by decide) (xa_cons (xe_var 0) xa_nil)) xe_int) xe_int) (xa_cons (x_sub (x_mod (xe_call at_ D__law_draw (by decide) (xa_cons (xe_var 0) xa_nil)) xe_int) xe_int) xa_nil)))))))))))
  (xs_cons (xs_set 6 at_.nd (xe_lst xa_nil))
  (xs_cons (xs_for_range1 at_ z_range (xe_ix (xe_lst (xa_cons xe_int (xa_cons xe_int (xa_cons xe_int (xa_cons xe_int (xa_cons xe_int xa_nil)))))) (x_mod (xe_call at_ D__law_draw (by decide) (xa_cons (xe_var 0) xa_nil)) xe_int)) (xg_slot 3 at_.nd) (xs_one (xs_expr (xe_append (xe_var 6) (xe_tup (xa_cons (x_mod (xe_call at_ D__law_draw (by decide) (xa_cons (xe_var 0) xa_nil)) (xe_var 1)) (xa_cons (x_mod (xe_call at_ D__law_draw (by decide) (xa_cons (xe_var 0) xa_nil)) (xe_var 1)) xa_nil)))))))
  (xs_one (xs_ret (xe_tup (xa_cons (xe_var 1) (xa_cons (x_tuple z_tuple (xa_cons (xe_var 2) xa_nil)) (xa_cons (x_tuple z_tuple (xa_cons (xe_var 6) xa_nil)) xa_nil))))))))))))⟩
abbrev s__law_purse : Stmt := top 28
theorem sc__law_purse : FnScope ["draws"] ["draws"] (defScope s__law_purse) := ⟨rfl, rfl, rfl, by decide +kernel, rfl, by decide +kernel, by decide +kernel⟩
noncomputable def b__law_purse : Sv :=
  sRet (eOp oIx (eLst (aCons (eOp oMod (eCall r__law_draw (aCons (eVar 0) (aNil))) (eC (.int 5))) (aCons (eC (.int 0)) (aCons (eOp oAdd (eOp oPow (eC (.int 10)) (eC (.int 30))) (eCall r__law_draw (aCons (eVar 0) (aNil)))) (aCons (eCall r__law_draw (aCons (eVar 0) (aNil))) (aNil)))))) (eOp oMod (eCall r__law_draw (aCons (eVar 0) (aNil))) (eC (.int 4))))
noncomputable def r__law_purse : List Vl → M Vl := fnM 1 1 b__law_purse
theorem d__law_purse {ad : Addr} {od an : Option Addr} {osl : Array (Option Value)} {kV doc pm cdv ct oc : Value} (hg : mg "_law_purse" = some (.ref ad)) (lk : K.lookup ad = some ⟨oc, od, .func (PySem.W.fnOf "_law_purse" "_law_purse" (defArgs s__law_purse) (defBody s__law_purse) (defScope s__law_purse) .none kV doc pm an cdv ct), osl⟩)
    (hcd : PySem.W.codeIn K cdv "_law_purse" = true) (hk : PySem.W.keepIn K (.ref ad) = true) (D__law_draw : Def P w K mg base tabs 2 "_law_draw" ["draws"] r__law_draw) : Def P w K mg base tabs 3 "_law_purse" ["draws"] r__law_purse :=
  ⟨ad, _, hg, hk, .all (fun us hl => match us, hl with | [_], _ => rfl), fn_ok (k := 2) lk hcd sc__law_purse (fun X W A outer s H E hX at_ => by subst hX; exact
    (xs_one (xs_ret (xe_ix (xe_lst (xa_cons (x_mod (xe_call at_ D__law_draw (by decide) (xa_cons (xe_var 0) xa_nil)) xe_int) (xa_cons xe_int (xa_cons (x_add (x_pow xe_int xe_int) (xe_call at_ D__law_draw (by decide) (xa_cons (xe_var 0) xa_nil))) (xa_cons (xe_call at_ D__law_draw (by decide) (xa_cons (xe_var 0) xa_nil)) xa_nil))))) (x_mod (xe_call at_ D__law_draw (by decide) (xa_cons (xe_var 0) xa_nil)) xe_int)))))⟩
abbrev s__law_spoilt : Stmt := top 29
theorem sc__law_spoilt : FnScope ["draws", "rooms", "standing", "room", "a", "b", "pick"] ["draws", "rooms", "standing"] (defScope s__law_spoilt) := ⟨rfl, rfl, rfl, by decide +kernel, rfl, by decide +kernel, by decide +kernel⟩
noncomputable def b__law_spoilt : Sv :=
  sSeq (sAsg (eVar 2) (gPair 3 (gsCons (gSlot 3) (gsCons (gSlot 4) (gsCons (gSlot 5) (gsNil))))))
  (sSeq (sSet 6 (eOp oMod (eCall r__law_draw (aCons (eVar 0) (aNil))) (eC (.int 4))))
  (sSeq (sIf (tVal (eOp oEq (eVar 6) (eC (.int 0)))) (sRet (eTup (aCons (eOp oIx (eLst (aCons (eUn oNeg (eC (.int 1))) (aCons (eVar 1) (aCons (eC (.int 3)) (aCons (eC (.bl true)) (aCons (eC .non) (aCons (eC (.str "0")) (aCons (eOp oPow (eC (.int 10)) (eC (.int 9))) (aCons (eC (.bl false)) (aNil)))))))))) (eOp oMod (eCall r__law_draw (aCons (eVar 0) (aNil))) (eC (.int 8)))) (aCons (eVar 4) (aCons (eVar 5) (aNil)))))) (sNext))
  (sSeq (sIf (tVal (eOp oEq (eVar 6) (eC (.int 1)))) (sRet (eTup (aCons (eVar 3) (aCons (eOp oIx (eLst (aCons (eUn oNeg (eC (.int 1))) (aCons (eUn oNeg (eOp oPow (eC (.int 10)) (eC (.int 30)))) (aCons (eC (.bl true)) (aCons (eC .non) (aCons (eC (.str "0")) (aCons (eC (.bl false)) (aNil)))))))) (eOp oMod (eCall r__law_draw (aCons (eVar 0) (aNil))) (eC (.int 6)))) (aCons (eVar 5) (aNil)))))) (sNext))
  (sSeq (sIf (tVal (eOp oEq (eVar 6) (eC (.int 2)))) (sRet (eTup (aCons (eVar 3) (aCons (eVar 4) (aCons (eOp oIx (eLst (aCons (eUn oNeg (eC (.int 1))) (aCons (eUn oNeg (eOp oPow (eC (.int 10)) (eC (.int 30)))) (aCons (eC (.bl true)) (aCons (eC .non) (aCons (eC (.str "0")) (aCons (eC (.bl false)) (aNil)))))))) (eOp oMod (eCall r__law_draw (aCons (eVar 0) (aNil))) (eC (.int 6)))) (aNil)))))) (sNext))
  (sRet (eOp oIx (eLst (aCons (eTup (aCons (eVar 3) (aCons (eVar 4) (aNil)))) (aCons (eTup (aCons (eVar 3) (aCons (eVar 4) (aCons (eVar 5) (aCons (eC (.int 0)) (aNil)))))) (aCons (eLst (aCons (eVar 3) (aCons (eVar 4) (aCons (eVar 5) (aNil))))) (aCons (eC .non) (aCons (eC (.int 0)) (aCons (eTup (aNil)) (aCons (eTup (aCons (eVar 3) (aCons (eTup (aCons (eVar 4) (aCons (eVar 5) (aNil)))) (aNil)))) (aNil))))))))) (eOp oMod (eCall r__law_draw (aCons (eVar 0) (aNil))) (eC (.int 7)))))))))
noncomputable def r__law_spoilt : List Vl → M Vl := fnM 3 7 b__law_spoilt
theorem d__law_spoilt {ad : Addr} {od an : Option Addr} {osl : Array (Option Value)} {kV doc pm cdv ct oc : Value} (hg : mg "_law_spoilt" = some (.ref ad)) (lk : K.lookup ad = some ⟨oc, od, .func (PySem.W.fnOf "_law_spoilt" "_law_spoilt" (defArgs s__law_spoilt) (defBody s__law_spoilt) (defScope s__law_spoilt) .none kV doc pm an cdv ct), osl⟩)
    (hcd : PySem.W.codeIn K cdv "_law_spoilt" = true) (hk : PySem.W.keepIn K (.ref ad) = true) (D__law_draw : Def P w K mg base tabs 2 "_law_draw" ["draws"] r__law_draw) : Def P w K mg base tabs 3 "_law_spoilt" ["draws", "rooms", "standing"] r__law_spoilt :=
  ⟨ad, _, hg, hk, .all (fun us hl => match us, hl with | [_, _, _], _ => rfl), fn_ok (k := 2) lk hcd sc__law_spoilt (fun X W A outer s H E hX at_ => by subst hX; exact
    (xs_cons (xs_asg (xe_var 2) (xg_pair rfl at_.calm (xgs_cons (xg_slot 3 at_.nd) (xgs_cons (xg_slot 4 at_.nd) (xgs_cons (xg_slot 5 at_.nd) xgs_nil)))))
  (xs_cons (xs_set 6 at_.nd (x_mod (xe_call at_ D__law_draw (by decide) (xa_cons (xe_var 0) xa_nil)) xe_int))
  (xs_cons (xs_if (xt_eq at_ (xe_var 6) xe_int) (xs_one (xs_ret (xe_tup (xa_cons (xe_ix (xe_lst (xa_cons (x_neg xe_int) (xa_cons (xe_var 1) (xa_cons xe_int (xa_cons xe_bl (xa_cons xe_non (xa_cons xe_str (xa_cons (x_pow xe_int xe_int) (xa_cons xe_bl xa_nil))))))))) (x_mod (xe_call at_ D__law_draw (by decide) (xa_cons (xe_var 0) xa_nil)) xe_int)) (xa_cons (xe_var 4) (xa_cons (xe_var 5) xa_nil)))))) xs_nil)
  (xs_cons (xs_if (xt_eq at_ (xe_var 6) xe_int) (xs_one (xs_ret (xe_tup (xa_cons (xe_var 3) (xa_cons (xe_ix (xe_lst (xa_cons (x_neg xe_int) (xa_cons (x_neg (x_pow xe_int xe_int)) (xa_cons xe_bl (xa_cons xe_non (xa_cons xe_str (xa_cons xe_bl xa_nil))))))) (x_mod (xe_call at_ D__law_draw (by decide) (xa_cons (xe_var 0) xa_nil)) xe_int)) (xa_cons (xe_var 5) xa_nil)))))) xs_nil)
  (xs_cons (xs_if (xt_eq at_ (xe_var 6) xe_int) (xs_one (xs_ret (xe_tup (xa_cons (xe_var 3) (xa_cons (xe_var 4) (xa_cons (xe_ix (xe_lst (xa_cons (x_neg xe_int) (xa_cons (x_neg (x_pow xe_int xe_int)) (xa_cons xe_bl (xa_cons xe_non (xa_cons xe_str (xa_cons xe_bl xa_nil))))))) (x_mod (xe_call at_ D__law_draw (by decide) (xa_cons (xe_var 0) xa_nil)) xe_int)) xa_nil)))))) xs_nil)
  (xs_one (xs_ret (xe_ix (xe_lst (xa_cons (xe_tup (xa_cons (xe_var 3) (xa_cons (xe_var 4) xa_nil))) (xa_cons (xe_tup (xa_cons (xe_var 3) (xa_cons (xe_var 4) (xa_cons (xe_var 5) (xa_cons xe_int xa_nil))))) (xa_cons (xe_lst (xa_cons (xe_var 3) (xa_cons (xe_var 4) (xa_cons (xe_var 5) xa_nil)))) (xa_cons xe_non (xa_cons xe_int (xa_cons (xe_tup xa_nil) (xa_cons (xe_tup (xa_cons (xe_var 3) (xa_cons (xe_tup (xa_cons (xe_var 4) (xa_cons (xe_var 5) xa_nil))) xa_nil))) xa_nil)))))))) (x_mod (xe_call at_ D__law_draw (by decide) (xa_cons (xe_var 0) xa_nil)) xe_int))))))))))⟩
abbrev s__law_told : Stmt := top 30
theorem sc__law_told : FnScope ["program", "standing"] ["program", "standing"] (defScope s__law_told) := ⟨rfl, rfl, rfl, by decide +kernel, rfl, by decide +kernel, by decide +kernel⟩
noncomputable def b__law_told : Sv :=
  sSeq (sTry (sIf (tVal (eOp oNot0 (eCall r_check_standing (aCons (eVar 0) (aCons (eVar 1) (aNil)))) (eC .non))) (sRet (eC (.str "other"))) (sNext)) ((tkx "BadProgram" ["BadStanding"], sRet (eC (.str "program"))) :: (tkx "BadStanding" ["BadProgram"], sRet (eC (.str "standing"))) :: []))
  (sRet (eC (.str "right")))
noncomputable def r__law_told : List Vl → M Vl := fnM 2 2 b__law_told
theorem d__law_told {ad : Addr} {od an : Option Addr} {osl : Array (Option Value)} {kV doc pm cdv ct oc : Value} (hg : mg "_law_told" = some (.ref ad)) (lk : K.lookup ad = some ⟨oc, od, .func (PySem.W.fnOf "_law_told" "_law_told" (defArgs s__law_told) (defBody s__law_told) (defScope s__law_told) .none kV doc pm an cdv ct), osl⟩)
    (hcd : PySem.W.codeIn K cdv "_law_told" = true) (hk : PySem.W.keepIn K (.ref ad) = true) (D_check_standing : Def P w K mg base tabs 9 "check_standing" ["program", "standing"] r_check_standing) {e_BadStanding : Addr} (x_BadStanding : XFact K mg "BadStanding" e_BadStanding) {e_BadProgram : Addr} (x_BadProgram : XFact K mg "BadProgram" e_BadProgram) (kc_BadStanding_BadProgram : Clause ⟨K, mg, tabs⟩ (.ref e_BadStanding) (tkx "BadStanding" ["BadProgram"])) (kc_BadProgram_BadStanding : Clause ⟨K, mg, tabs⟩ (.ref e_BadProgram) (tkx "BadProgram" ["BadStanding"])) : Def P w K mg base tabs 10 "_law_told" ["program", "standing"] r__law_told :=
  ⟨ad, _, hg, hk, .all (fun us hl => match us, hl with | [_, _], _ => rfl), fn_ok (k := 9) lk hcd sc__law_told (fun X W A outer s H E hX at_ => by subst hX; exact
    (xs_cons (xs_try at_ rfl rfl (fun W1 pn1 xe1 at_' => (xs_one (xs_if (xt_not0 (xe_call at_' D_check_standing (by decide) (xa_cons (xe_var 0) (xa_cons (xe_var 1) xa_nil))) xe_non) (xs_one (xs_ret xe_str)) xs_nil))) (XHs.cons ⟨rfl, by decide, .inl x_BadProgram.2.1⟩ kc_BadProgram_BadStanding (fun a pn => (xs_one (xs_ret xe_str))) (XHs.cons ⟨rfl, by decide, .inl x_BadStanding.2.1⟩ kc_BadStanding_BadProgram (fun a pn => (xs_one (xs_ret xe_str))) XHs.nil)))
  (xs_one (xs_ret xe_str))))⟩
abbrev s_law : Stmt := top 31
theorem sc_law : FnScope ["script", "draws", "program", "standing", "spoilt", "wrong"] ["script"] (defScope s_law) := ⟨rfl, rfl, rfl, by decide +kernel, rfl, by decide +kernel, by decide +kernel⟩
noncomputable def b_law : Sv :=
  sSeq (sSet 1 (eLst (aCons (eCall r__law_numbers (aCons (eVar 0) (aNil))) (aCons (eC (.int 0)) (aNil)))))
  (sSeq (sSet 2 (eCall r__law_program (aCons (eVar 1) (aNil))))
  (sSeq (sSet 3 (eTup (aCons (eOp oMod (eCall r__law_draw (aCons (eVar 1) (aNil))) (eOp oIx (eVar 2) (eC (.int 0)))) (aCons (eCall r__law_purse (aCons (eVar 1) (aNil))) (aCons (eCall r__law_purse (aCons (eVar 1) (aNil))) (aNil))))))
  (sSeq (sIf (tVal (eOp oNe (eCall r__law_told (aCons (eVar 2) (aCons (eVar 3) (aNil)))) (eC (.str "right")))) (sRet (eC (.bl false))) (sNext))
  (sSeq (sSet 4 (eCall r__law_spoilt (aCons (eVar 1) (aCons (eOp oIx (eVar 2) (eC (.int 0))) (aCons (eVar 3) (aNil))))))
  (sSeq (sIf (tVal (eOp oNe (eCall r__law_told (aCons (eVar 2) (aCons (eVar 4) (aNil)))) (eC (.str "standing")))) (sRet (eC (.bl false))) (sNext))
  (sSeq (sSet 5 (eOp oIx (eLst (aCons (eC .non) (aCons (eTup (aCons (eC (.int 0)) (aCons (eTup (aNil)) (aCons (eTup (aNil)) (aNil))))) (aCons (eLst (aCons (eC (.int 1)) (aCons (eTup (aNil)) (aCons (eTup (aNil)) (aNil))))) (aCons (eTup (aCons (eC (.int 1)) (aCons (eTup (aCons (eTup (aCons (eC (.int 0)) (aCons (eC (.int 0)) (aCons (eC (.int 3)) (aCons (eC (.int 0)) (aNil)))))) (aNil))) (aCons (eTup (aNil)) (aNil))))) (aNil)))))) (eOp oMod (eCall r__law_draw (aCons (eVar 1) (aNil))) (eC (.int 4)))))
  (sRet (eAnd (eOp oEq (eCall r__law_told (aCons (eVar 5) (aCons (eVar 4) (aNil)))) (eC (.str "program"))) (eOp oEq (eCall r__law_told (aCons (eVar 5) (aCons (eVar 3) (aNil)))) (eC (.str "program")))))))))))
noncomputable def r_law : List Vl → M Vl := fnM 1 6 b_law
theorem d_law {ad : Addr} {od an : Option Addr} {osl : Array (Option Value)} {kV doc pm cdv ct oc : Value} (hg : mg "law" = some (.ref ad)) (lk : K.lookup ad = some ⟨oc, od, .func (PySem.W.fnOf "law" "law" (defArgs s_law) (defBody s_law) (defScope s_law) .none kV doc pm an cdv ct), osl⟩)
    (hcd : PySem.W.codeIn K cdv "law" = true) (hk : PySem.W.keepIn K (.ref ad) = true) (D__law_numbers : Def P w K mg base tabs 2 "_law_numbers" ["script"] r__law_numbers) (D__law_program : Def P w K mg base tabs 3 "_law_program" ["draws"] r__law_program) (D__law_purse : Def P w K mg base tabs 3 "_law_purse" ["draws"] r__law_purse) (D__law_draw : Def P w K mg base tabs 2 "_law_draw" ["draws"] r__law_draw) (D__law_told : Def P w K mg base tabs 10 "_law_told" ["program", "standing"] r__law_told) (D__law_spoilt : Def P w K mg base tabs 3 "_law_spoilt" ["draws", "rooms", "standing"] r__law_spoilt) : Def P w K mg base tabs 11 "law" ["script"] r_law :=
  ⟨ad, _, hg, hk, .all (fun us hl => match us, hl with | [_], _ => rfl), fn_ok (k := 10) lk hcd sc_law (fun X W A outer s H E hX at_ => by subst hX; exact
    (xs_cons (xs_set 1 at_.nd (xe_lst (xa_cons (xe_call at_ D__law_numbers (by decide) (xa_cons (xe_var 0) xa_nil)) (xa_cons xe_int xa_nil))))
  (xs_cons (xs_set 2 at_.nd (xe_call at_ D__law_program (by decide) (xa_cons (xe_var 1) xa_nil)))
  (xs_cons (xs_set 3 at_.nd (xe_tup (xa_cons (x_mod (xe_call at_ D__law_draw (by decide) (xa_cons (xe_var 1) xa_nil)) (xe_ix (xe_var 2) xe_int)) (xa_cons (xe_call at_ D__law_purse (by decide) (xa_cons (xe_var 1) xa_nil)) (xa_cons (xe_call at_ D__law_purse (by decide) (xa_cons (xe_var 1) xa_nil)) xa_nil)))))
  (xs_cons (xs_if (xt_ne at_ (xe_call at_ D__law_told (by decide) (xa_cons (xe_var 2) (xa_cons (xe_var 3) xa_nil))) xe_str) (xs_one (xs_ret xe_bl)) xs_nil)
  (xs_cons (xs_set 4 at_.nd (xe_call at_ D__law_spoilt (by decide) (xa_cons (xe_var 1) (xa_cons (xe_ix (xe_var 2) xe_int) (xa_cons (xe_var 3) xa_nil)))))
  (xs_cons (xs_if (xt_ne at_ (xe_call at_ D__law_told (by decide) (xa_cons (xe_var 2) (xa_cons (xe_var 4) xa_nil))) xe_str) (xs_one (xs_ret xe_bl)) xs_nil)
  (xs_cons (xs_set 5 at_.nd (xe_ix (xe_lst (xa_cons xe_non (xa_cons (xe_tup (xa_cons xe_int (xa_cons (xe_tup xa_nil) (xa_cons (xe_tup xa_nil) xa_nil)))) (xa_cons (xe_lst (xa_cons xe_int (xa_cons (xe_tup xa_nil) (xa_cons (xe_tup xa_nil) xa_nil)))) (xa_cons (xe_tup (xa_cons xe_int (xa_cons (xe_tup (xa_cons (xe_tup (xa_cons xe_int (xa_cons xe_int (xa_cons xe_int (xa_cons xe_int xa_nil))))) xa_nil)) (xa_cons (xe_tup xa_nil) xa_nil)))) xa_nil))))) (x_mod (xe_call at_ D__law_draw (by decide) (xa_cons (xe_var 1) xa_nil)) xe_int)))
  (xs_one (xs_ret (xe_and (x_eq at_ (xe_call at_ D__law_told (by decide) (xa_cons (xe_var 5) (xa_cons (xe_var 4) xa_nil))) xe_str) (xe_one (x_eq at_ (xe_call at_ D__law_told (by decide) (xa_cons (xe_var 5) (xa_cons (xe_var 3) xa_nil))) xe_str)))))))))))))⟩
theorem g_law {ad : Addr} {od an : Option Addr} {osl : Array (Option Value)} {kV doc pm cdv ct oc : Value} (lk : K.lookup ad = some ⟨oc, od, .func (PySem.W.fnOf "law" "law" (defArgs s_law) (defBody s_law) (defScope s_law) .none kV doc pm an cdv ct), osl⟩) (hcd : PySem.W.codeIn K cdv "law" = true) (D__law_numbers : Def P w K mg base tabs 2 "_law_numbers" ["script"] r__law_numbers) (D__law_program : Def P w K mg base tabs 3 "_law_program" ["draws"] r__law_program) (D__law_purse : Def P w K mg base tabs 3 "_law_purse" ["draws"] r__law_purse) (D__law_draw : Def P w K mg base tabs 2 "_law_draw" ["draws"] r__law_draw) (D__law_told : Def P w K mg base tabs 10 "_law_told" ["program", "standing"] r__law_told) (D__law_spoilt : Def P w K mg base tabs 3 "_law_spoilt" ["draws", "rooms", "standing"] r__law_spoilt) :
    FnG P w K mg base 11 ad (PySem.W.fnOf "law" "law" (defArgs s_law) (defBody s_law) (defScope s_law) .none kV doc pm an cdv ct) ["script"] (spM ⟨K, mg, tabs⟩ r_law) :=
  fn_ok (k := 10) lk hcd sc_law (fun X W A outer s H E hX at_ => by subst hX; exact
    (xs_cons (xs_set 1 at_.nd (xe_lst (xa_cons (xe_call at_ D__law_numbers (by decide) (xa_cons (xe_var 0) xa_nil)) (xa_cons xe_int xa_nil))))
  (xs_cons (xs_set 2 at_.nd (xe_call at_ D__law_program (by decide) (xa_cons (xe_var 1) xa_nil)))
  (xs_cons (xs_set 3 at_.nd (xe_tup (xa_cons (x_mod (xe_call at_ D__law_draw (by decide) (xa_cons (xe_var 1) xa_nil)) (xe_ix (xe_var 2) xe_int)) (xa_cons (xe_call at_ D__law_purse (by decide) (xa_cons (xe_var 1) xa_nil)) (xa_cons (xe_call at_ D__law_purse (by decide) (xa_cons (xe_var 1) xa_nil)) xa_nil)))))
  (xs_cons (xs_if (xt_ne at_ (xe_call at_ D__law_told (by decide) (xa_cons (xe_var 2) (xa_cons (xe_var 3) xa_nil))) xe_str) (xs_one (xs_ret xe_bl)) xs_nil)
  (xs_cons (xs_set 4 at_.nd (xe_call at_ D__law_spoilt (by decide) (xa_cons (xe_var 1) (xa_cons (xe_ix (xe_var 2) xe_int) (xa_cons (xe_var 3) xa_nil)))))
  (xs_cons (xs_if (xt_ne at_ (xe_call at_ D__law_told (by decide) (xa_cons (xe_var 2) (xa_cons (xe_var 4) xa_nil))) xe_str) (xs_one (xs_ret xe_bl)) xs_nil)
  (xs_cons (xs_set 5 at_.nd (xe_ix (xe_lst (xa_cons xe_non (xa_cons (xe_tup (xa_cons xe_int (xa_cons (xe_tup xa_nil) (xa_cons (xe_tup xa_nil) xa_nil)))) (xa_cons (xe_lst (xa_cons xe_int (xa_cons (xe_tup xa_nil) (xa_cons (xe_tup xa_nil) xa_nil)))) (xa_cons (xe_tup (xa_cons xe_int (xa_cons (xe_tup (xa_cons (xe_tup (xa_cons xe_int (xa_cons xe_int (xa_cons xe_int (xa_cons xe_int xa_nil))))) xa_nil)) (xa_cons (xe_tup xa_nil) xa_nil)))) xa_nil))))) (x_mod (xe_call at_ D__law_draw (by decide) (xa_cons (xe_var 1) xa_nil)) xe_int)))
  (xs_one (xs_ret (xe_and (x_eq at_ (xe_call at_ D__law_told (by decide) (xa_cons (xe_var 5) (xa_cons (xe_var 4) xa_nil))) xe_str) (xe_one (x_eq at_ (xe_call at_ D__law_told (by decide) (xa_cons (xe_var 5) (xa_cons (xe_var 3) xa_nil))) xe_str)))))))))))))
end
end LW
end Tw
end

section
set_option Elab.async false
set_option maxRecDepth 100000
set_option maxHeartbeats 3000000
set_option linter.all false
namespace Tw
namespace LW
open PySem L2
theorem mixed_ok {a k : Int} (ha : 0 ≤ a ∧ a < 1099511627776) (hk : 0 ≤ k ∧ k < 1099511627776) {S : Store} {Q : Vl → Store → Prop} {E : Str → Store → Prop} (h : ∀ r : Int, 0 ≤ r → r < 2147483647 → Q (.int r) S) : Wp (r__law_mixed [.int a, .int k]) S Q E := by
  unfold r__law_mixed b__law_mixed
  rw [wp_fn]
  simp only [wp_ret, wp_stuck, wp_ifs, wp_newL, wp_var, wp_c, wp_op, wp_un, wp_tval, wp_tnot, wp_not, wp_nil, wp_cons, wp_tup, wp_lst, wp_dct, wp_call, wp_app, wp_append, wp_ixT, wp_ixL, wp_put, wp_sl, wp_pn, wp_ps, wp_slT, wp_addI, wp_addT, wp_sub, wp_mul, wp_mulT, wp_div, wp_mod, wp_pow, wp_neg, wp_cmp, wp_eqI, wp_neI, wp_eqS, wp_neS, wp_is0, wp_not0, wp_isB, wp_notB, wp_lenT, wp_lenL, wp_tupT, wp_tupL, wp_lstT, ws_next, ws_brk, ws_cont, ws_seq, ws_expr, ws_ret, ws_retN, ws_set, ws_asg, ws_put, ws_raise, ws_if, ws_for1, wp_and, wp_or, wp_tand, wp_tor, wp_ifE, wp_chain, gSlot, List.getElem?_cons_succ, List.getElem?_cons_zero, List.map_cons, List.map_nil, List.length_cons, List.length_nil, List.replicate_succ, List.replicate_zero, List.cons_append, List.nil_append, List.set_cons_succ, List.set_cons_zero, Option.some.injEq, exists_eq_left', Nat.reduceAdd, Nat.reduceSub, Nat.zero_add, Nat.add_zero, true_and, and_true, Vl.int.injEq, Vl.bl.injEq, Vl.loc.injEq, Vl.tup.injEq, exists_eq', exists_eq_left, Ob.lst.injEq]
  generalize hs : (a * 48271 + k * 69621 + 12345).fmod 2147483647 = s
  have s0 : 0 ≤ s := by rw [← hs]; exact Int.fmod_nonneg_of_pos _ (by decide)
  have s1 : s < 2147483647 := by rw [← hs]; exact Int.fmod_lt_of_pos _ (by decide)
  generalize hd : s.fdiv 65536 = d
  have d0 : 0 ≤ d := by rw [← hd, Int.fdiv_eq_ediv_of_nonneg _ (by decide)]; exact Int.ediv_nonneg s0 (by decide)
  have d1 : d < 2147483647 := by rw [← hd, Int.fdiv_eq_ediv_of_nonneg _ (by decide)]; omega
  have l1 := lg40 (i := a) (by omega) ha.2
  have l2 := lg40 (i := k) (by omega) hk.2
  have l3 := lg40 (i := s) (by omega) (by omega)
  have l4 := lg40 (i := d + 3) (by omega) (by omega)
  have c1 : (Int.natAbs 48271).log2 < 40 := by decide
  have c2 : (Int.natAbs 69621).log2 < 40 := by decide
  and_intros
  all_goals first | exact h _ (Int.fmod_nonneg_of_pos _ (by decide)) (Int.fmod_lt_of_pos _ (by decide)) | decide | omega
theorem get_last {S : Store} {o : Ob} : (S ++ [o])[S.length]? = some o := by simp
theorem set_last {S : Store} {o u : Ob} : (S ++ [o]).set S.length u = S ++ [u] := by simp
/-- numbers below a million -/
def Nums (xs : List Vl) : Prop := ∃ ms : List Int, xs = ms.map .int ∧ ∀ m ∈ ms, 0 ≤ m ∧ m < 1000000
theorem Nums.nil : Nums [] := ⟨[], rfl, by simp⟩
theorem Nums.snoc {xs : List Vl} {m : Int} (h : Nums xs) (h0 : 0 ≤ m) (h1 : m < 1000000) : Nums (xs ++ [.int m]) := by
  obtain ⟨ms, rfl, q⟩ := h
  refine ⟨ms ++ [m], by simp, fun x hx => ?_⟩
  rcases List.mem_append.mp hx with hx | hx
  · exact q x hx
  · simp at hx; subst hx; exact ⟨h0, h1⟩
theorem fm0 {i j : Int} (h : 0 < j) : 0 ≤ i.fmod j := Int.fmod_nonneg_of_pos _ h
theorem fm1 {i j : Int} (h : 0 < j) : i.fmod j < j := Int.fmod_lt_of_pos _ h
theorem numbers_ok {ns : List Int} (hl : ns.length ≤ 63) {S : Store} {Q : Vl → Store → Prop} {E : Str → Store → Prop} (h : ∀ xs, Nums xs → xs.length ≤ 3780 → Q (.loc S.length) (S ++ [.lst xs])) :
    Wp (r__law_numbers [.frz (ns.map .int)]) S Q E := by
  unfold r__law_numbers b__law_numbers
  rw [wp_fn]
  simp only [wp_ret, wp_stuck, wp_ifs, wp_newL, wp_var, wp_c, wp_op, wp_un, wp_tval, wp_tnot, wp_not, wp_nil, wp_cons, wp_tup, wp_lst, wp_dct, wp_call, wp_app, wp_append, wp_ixT, wp_ixL, wp_put, wp_sl, wp_pn, wp_ps, wp_slT, wp_addI, wp_addT, wp_sub, wp_mul, wp_mulT, wp_div, wp_mod, wp_pow, wp_neg, wp_cmp, wp_eqI, wp_neI, wp_eqS, wp_neS, wp_is0, wp_not0, wp_isB, wp_notB, wp_lenT, wp_lenL, wp_tupT, wp_tupL, wp_lstT, ws_next, ws_brk, ws_cont, ws_seq, ws_expr, ws_ret, ws_retN, ws_set, ws_asg, ws_put, ws_raise, ws_if, ws_for1, wp_and, wp_or, wp_tand, wp_tor, wp_ifE, wp_chain, gSlot, List.getElem?_cons_succ, List.getElem?_cons_zero, List.map_cons, List.map_nil, List.length_cons, List.length_nil, List.replicate_succ, List.replicate_zero, List.cons_append, List.nil_append, List.set_cons_succ, List.set_cons_zero, Option.some.injEq, exists_eq_left', Nat.reduceAdd, Nat.reduceSub, Nat.zero_add, Nat.add_zero, true_and, and_true, Vl.int.injEq, Vl.bl.injEq, Vl.loc.injEq, Vl.tup.injEq, exists_eq', exists_eq_left, Ob.lst.injEq]
  refine ⟨by decide, ws_forF (xs := ns.map .int) ?_⟩
  simp only [wp_ret, wp_stuck, wp_ifs, wp_newL, wp_var, wp_c, wp_op, wp_un, wp_tval, wp_tnot, wp_not, wp_nil, wp_cons, wp_tup, wp_lst, wp_dct, wp_call, wp_app, wp_append, wp_ixT, wp_ixL, wp_put, wp_sl, wp_pn, wp_ps, wp_slT, wp_addI, wp_addT, wp_sub, wp_mul, wp_mulT, wp_div, wp_mod, wp_pow, wp_neg, wp_cmp, wp_eqI, wp_neI, wp_eqS, wp_neS, wp_is0, wp_not0, wp_isB, wp_notB, wp_lenT, wp_lenL, wp_tupT, wp_tupL, wp_lstT, ws_next, ws_brk, ws_cont, ws_seq, ws_expr, ws_ret, ws_retN, ws_set, ws_asg, ws_put, ws_raise, ws_if, ws_for1, wp_and, wp_or, wp_tand, wp_tor, wp_ifE, wp_chain, gSlot, List.getElem?_cons_succ, List.getElem?_cons_zero, List.map_cons, List.map_nil, List.length_cons, List.length_nil, List.replicate_succ, List.replicate_zero, List.cons_append, List.nil_append, List.set_cons_succ, List.set_cons_zero, Option.some.injEq, exists_eq_left', Nat.reduceAdd, Nat.reduceSub, Nat.zero_add, Nat.add_zero, true_and, and_true, Vl.int.injEq, Vl.bl.injEq, Vl.loc.injEq, Vl.tup.injEq, exists_eq', exists_eq_left, Ob.lst.injEq]
  refine ⟨.inr trivial, ?_⟩
  refine ws_loop (fun i ρ S' => ∃ xs a b c, ρ = [some (.frz (ns.map .int)), some (.loc S.length), a, b, c] ∧ S' = S ++ [.lst xs] ∧ Nums xs ∧ xs.length ≤ 60 * i) ⟨[], _, _, _, rfl, rfl, .nil, by simp⟩ ?_ ?_
  · rintro i x ρ S' hx ⟨xs, a, b, c, rfl, rfl, hn, hlen⟩
    have hi : i < 63 := by
      have := (List.getElem?_eq_some_iff.mp hx).1
      simp at this; omega
    rw [List.getElem?_map] at hx
    obtain ⟨m, hm, rfl⟩ := Option.map_eq_some_iff.mp hx
    refine ⟨_, rfl, ?_⟩
    simp only [wp_ret, wp_stuck, wp_ifs, wp_newL, wp_var, wp_c, wp_op, wp_un, wp_tval, wp_tnot, wp_not, wp_nil, wp_cons, wp_tup, wp_lst, wp_dct, wp_call, wp_app, wp_append, wp_ixT, wp_ixL, wp_put, wp_sl, wp_pn, wp_ps, wp_slT, wp_addI, wp_addT, wp_sub, wp_mul, wp_mulT, wp_div, wp_mod, wp_pow, wp_neg, wp_cmp, wp_eqI, wp_neI, wp_eqS, wp_neS, wp_is0, wp_not0, wp_isB, wp_notB, wp_lenT, wp_lenL, wp_tupT, wp_tupL, wp_lstT, ws_next, ws_brk, ws_cont, ws_seq, ws_expr, ws_ret, ws_retN, ws_set, ws_asg, ws_put, ws_raise, ws_if, ws_for1, wp_and, wp_or, wp_tand, wp_tor, wp_ifE, wp_chain, gSlot, List.getElem?_cons_succ, List.getElem?_cons_zero, List.map_cons, List.map_nil, List.length_cons, List.length_nil, List.replicate_succ, List.replicate_zero, List.cons_append, List.nil_append, List.set_cons_succ, List.set_cons_zero, Option.some.injEq, exists_eq_left', Nat.reduceAdd, Nat.reduceSub, Nat.zero_add, Nat.add_zero, true_and, and_true, Vl.int.injEq, Vl.bl.injEq, Vl.loc.injEq, Vl.tup.injEq, exists_eq', exists_eq_left, Ob.lst.injEq]
    refine ⟨by decide, ?_⟩
    split
    · simp only [wp_ret, wp_stuck, wp_ifs, wp_newL, wp_var, wp_c, wp_op, wp_un, wp_tval, wp_tnot, wp_not, wp_nil, wp_cons, wp_tup, wp_lst, wp_dct, wp_call, wp_app, wp_append, wp_ixT, wp_ixL, wp_put, wp_sl, wp_pn, wp_ps, wp_slT, wp_addI, wp_addT, wp_sub, wp_mul, wp_mulT, wp_div, wp_mod, wp_pow, wp_neg, wp_cmp, wp_eqI, wp_neI, wp_eqS, wp_neS, wp_is0, wp_not0, wp_isB, wp_notB, wp_lenT, wp_lenL, wp_tupT, wp_tupL, wp_lstT, ws_next, ws_brk, ws_cont, ws_seq, ws_expr, ws_ret, ws_retN, ws_set, ws_asg, ws_put, ws_raise, ws_if, ws_for1, wp_and, wp_or, wp_tand, wp_tor, wp_ifE, wp_chain, gSlot, List.getElem?_cons_succ, List.getElem?_cons_zero, List.map_cons, List.map_nil, List.length_cons, List.length_nil, List.replicate_succ, List.replicate_zero, List.cons_append, List.nil_append, List.set_cons_succ, List.set_cons_zero, Option.some.injEq, exists_eq_left', Nat.reduceAdd, Nat.reduceSub, Nat.zero_add, Nat.add_zero, true_and, and_true, Vl.int.injEq, Vl.bl.injEq, Vl.loc.injEq, Vl.tup.injEq, exists_eq', exists_eq_left, Ob.lst.injEq]
      refine ⟨by decide, ws_range (fun k ρ S' => ∃ ys r c, ρ = [some (.frz (ns.map .int)), some (.loc S.length), some (.int m), some (.int r), c] ∧ S' = S ++ [.lst ys] ∧ Nums ys ∧ ys.length ≤ 60 * i + k) ⟨xs, _, _, rfl, rfl, hn, by omega⟩ ?_ ?_⟩
      · rintro k ρ S' hk ⟨ys, r, c, rfl, rfl, hy, hyl⟩
        refine ⟨_, rfl, ?_⟩
        have hk : k < 60 := hk
        simp only [wp_ret, wp_stuck, wp_ifs, wp_newL, wp_var, wp_c, wp_op, wp_un, wp_tval, wp_tnot, wp_not, wp_nil, wp_cons, wp_tup, wp_lst, wp_dct, wp_call, wp_app, wp_append, wp_ixT, wp_ixL, wp_put, wp_sl, wp_pn, wp_ps, wp_slT, wp_addI, wp_addT, wp_sub, wp_mul, wp_mulT, wp_div, wp_mod, wp_pow, wp_neg, wp_cmp, wp_eqI, wp_neI, wp_eqS, wp_neS, wp_is0, wp_not0, wp_isB, wp_notB, wp_lenT, wp_lenL, wp_tupT, wp_tupL, wp_lstT, ws_next, ws_brk, ws_cont, ws_seq, ws_expr, ws_ret, ws_retN, ws_set, ws_asg, ws_put, ws_raise, ws_if, ws_for1, wp_and, wp_or, wp_tand, wp_tor, wp_ifE, wp_chain, gSlot, List.getElem?_cons_succ, List.getElem?_cons_zero, List.map_cons, List.map_nil, List.length_cons, List.length_nil, List.replicate_succ, List.replicate_zero, List.cons_append, List.nil_append, List.set_cons_succ, List.set_cons_zero, Option.some.injEq, exists_eq_left', Nat.reduceAdd, Nat.reduceSub, Nat.zero_add, Nat.add_zero, true_and, and_true, Vl.int.injEq, Vl.bl.injEq, Vl.loc.injEq, Vl.tup.injEq, exists_eq', exists_eq_left, Ob.lst.injEq]
        split
        · simp only [wp_ret, wp_stuck, wp_ifs, wp_newL, wp_var, wp_c, wp_op, wp_un, wp_tval, wp_tnot, wp_not, wp_nil, wp_cons, wp_tup, wp_lst, wp_dct, wp_call, wp_app, wp_append, wp_ixT, wp_ixL, wp_put, wp_sl, wp_pn, wp_ps, wp_slT, wp_addI, wp_addT, wp_sub, wp_mul, wp_mulT, wp_div, wp_mod, wp_pow, wp_neg, wp_cmp, wp_eqI, wp_neI, wp_eqS, wp_neS, wp_is0, wp_not0, wp_isB, wp_notB, wp_lenT, wp_lenL, wp_tupT, wp_tupL, wp_lstT, ws_next, ws_brk, ws_cont, ws_seq, ws_expr, ws_ret, ws_retN, ws_set, ws_asg, ws_put, ws_raise, ws_if, ws_for1, wp_and, wp_or, wp_tand, wp_tor, wp_ifE, wp_chain, gSlot, List.getElem?_cons_succ, List.getElem?_cons_zero, List.map_cons, List.map_nil, List.length_cons, List.length_nil, List.replicate_succ, List.replicate_zero, List.cons_append, List.nil_append, List.set_cons_succ, List.set_cons_zero, Option.some.injEq, exists_eq_left', Nat.reduceAdd, Nat.reduceSub, Nat.zero_add, Nat.add_zero, true_and, and_true, Vl.int.injEq, Vl.bl.injEq, Vl.loc.injEq, Vl.tup.injEq, exists_eq', exists_eq_left, Ob.lst.injEq, get_last, set_last]
          refine ⟨by decide, ?_, by decide, ys ++ [_], _, _, rfl, rfl, hy.snoc (fm0 (by decide)) (fm1 (by decide)), by simp; omega⟩
          show ys.length < 16777216
          omega
        · simp only [wp_ret, wp_stuck, wp_ifs, wp_newL, wp_var, wp_c, wp_op, wp_un, wp_tval, wp_tnot, wp_not, wp_nil, wp_cons, wp_tup, wp_lst, wp_dct, wp_call, wp_app, wp_append, wp_ixT, wp_ixL, wp_put, wp_sl, wp_pn, wp_ps, wp_slT, wp_addI, wp_addT, wp_sub, wp_mul, wp_mulT, wp_div, wp_mod, wp_pow, wp_neg, wp_cmp, wp_eqI, wp_neI, wp_eqS, wp_neS, wp_is0, wp_not0, wp_isB, wp_notB, wp_lenT, wp_lenL, wp_tupT, wp_tupL, wp_lstT, ws_next, ws_brk, ws_cont, ws_seq, ws_expr, ws_ret, ws_retN, ws_set, ws_asg, ws_put, ws_raise, ws_if, ws_for1, wp_and, wp_or, wp_tand, wp_tor, wp_ifE, wp_chain, gSlot, List.getElem?_cons_succ, List.getElem?_cons_zero, List.map_cons, List.map_nil, List.length_cons, List.length_nil, List.replicate_succ, List.replicate_zero, List.cons_append, List.nil_append, List.set_cons_succ, List.set_cons_zero, Option.some.injEq, exists_eq_left', Nat.reduceAdd, Nat.reduceSub, Nat.zero_add, Nat.add_zero, true_and, and_true, Vl.int.injEq, Vl.bl.injEq, Vl.loc.injEq, Vl.tup.injEq, exists_eq', exists_eq_left, Ob.lst.injEq]
          exact ⟨ys, _, _, rfl, rfl, hy, by omega⟩
      · rintro ρ S' ⟨ys, r, c, rfl, rfl, hy, hyl⟩
        have hyl : ys.length ≤ 60 * i + 60 := hyl
        exact ⟨ys, _, _, _, rfl, rfl, hy, by omega⟩
    · simp only [wp_ret, wp_stuck, wp_ifs, wp_newL, wp_var, wp_c, wp_op, wp_un, wp_tval, wp_tnot, wp_not, wp_nil, wp_cons, wp_tup, wp_lst, wp_dct, wp_call, wp_app, wp_append, wp_ixT, wp_ixL, wp_put, wp_sl, wp_pn, wp_ps, wp_slT, wp_addI, wp_addT, wp_sub, wp_mul, wp_mulT, wp_div, wp_mod, wp_pow, wp_neg, wp_cmp, wp_eqI, wp_neI, wp_eqS, wp_neS, wp_is0, wp_not0, wp_isB, wp_notB, wp_lenT, wp_lenL, wp_tupT, wp_tupL, wp_lstT, ws_next, ws_brk, ws_cont, ws_seq, ws_expr, ws_ret, ws_retN, ws_set, ws_asg, ws_put, ws_raise, ws_if, ws_for1, wp_and, wp_or, wp_tand, wp_tor, wp_ifE, wp_chain, gSlot, List.getElem?_cons_succ, List.getElem?_cons_zero, List.map_cons, List.map_nil, List.length_cons, List.length_nil, List.replicate_succ, List.replicate_zero, List.cons_append, List.nil_append, List.set_cons_succ, List.set_cons_zero, Option.some.injEq, exists_eq_left', Nat.reduceAdd, Nat.reduceSub, Nat.zero_add, Nat.add_zero, true_and, and_true, Vl.int.injEq, Vl.bl.injEq, Vl.loc.injEq, Vl.tup.injEq, exists_eq', exists_eq_left, Ob.lst.injEq, get_last, set_last]
      refine ⟨by decide, ?_, ?_⟩
      · show xs.length < 16777216
        omega
      refine ⟨by decide, ws_range (fun k ρ S' => ∃ ys r c, ρ = [some (.frz (ns.map .int)), some (.loc S.length), some (.int m), r, c] ∧ S' = S ++ [.lst ys] ∧ Nums ys ∧ ys.length ≤ 60 * i + 1 + k) ⟨xs ++ [_], _, _, rfl, rfl, hn.snoc (fm0 (by decide)) (fm1 (by decide)), by simp; omega⟩ ?_ ?_⟩
      · rintro k ρ S' hk ⟨ys, r, c, rfl, rfl, hy, hyl⟩
        refine ⟨_, rfl, ?_⟩
        have hk : k < 5 := hk
        simp only [wp_ret, wp_stuck, wp_ifs, wp_newL, wp_var, wp_c, wp_op, wp_un, wp_tval, wp_tnot, wp_not, wp_nil, wp_cons, wp_tup, wp_lst, wp_dct, wp_call, wp_app, wp_append, wp_ixT, wp_ixL, wp_put, wp_sl, wp_pn, wp_ps, wp_slT, wp_addI, wp_addT, wp_sub, wp_mul, wp_mulT, wp_div, wp_mod, wp_pow, wp_neg, wp_cmp, wp_eqI, wp_neI, wp_eqS, wp_neS, wp_is0, wp_not0, wp_isB, wp_notB, wp_lenT, wp_lenL, wp_tupT, wp_tupL, wp_lstT, ws_next, ws_brk, ws_cont, ws_seq, ws_expr, ws_ret, ws_retN, ws_set, ws_asg, ws_put, ws_raise, ws_if, ws_for1, wp_and, wp_or, wp_tand, wp_tor, wp_ifE, wp_chain, gSlot, List.getElem?_cons_succ, List.getElem?_cons_zero, List.map_cons, List.map_nil, List.length_cons, List.length_nil, List.replicate_succ, List.replicate_zero, List.cons_append, List.nil_append, List.set_cons_succ, List.set_cons_zero, Option.some.injEq, exists_eq_left', Nat.reduceAdd, Nat.reduceSub, Nat.zero_add, Nat.add_zero, true_and, and_true, Vl.int.injEq, Vl.bl.injEq, Vl.loc.injEq, Vl.tup.injEq, exists_eq', exists_eq_left, Ob.lst.injEq, get_last, set_last]
        refine ⟨by decide, mixed_ok ⟨fm0 (by decide), Int.lt_trans (fm1 (by decide)) (by decide)⟩ ⟨by omega, by omega⟩ fun r1 h1 h2 => ?_⟩
        refine mixed_ok ⟨by omega, by omega⟩ ⟨by omega, by omega⟩ fun r2 h3 h4 => ?_
        simp only [wp_ret, wp_stuck, wp_ifs, wp_newL, wp_var, wp_c, wp_op, wp_un, wp_tval, wp_tnot, wp_not, wp_nil, wp_cons, wp_tup, wp_lst, wp_dct, wp_call, wp_app, wp_append, wp_ixT, wp_ixL, wp_put, wp_sl, wp_pn, wp_ps, wp_slT, wp_addI, wp_addT, wp_sub, wp_mul, wp_mulT, wp_div, wp_mod, wp_pow, wp_neg, wp_cmp, wp_eqI, wp_neI, wp_eqS, wp_neS, wp_is0, wp_not0, wp_isB, wp_notB, wp_lenT, wp_lenL, wp_tupT, wp_tupL, wp_lstT, ws_next, ws_brk, ws_cont, ws_seq, ws_expr, ws_ret, ws_retN, ws_set, ws_asg, ws_put, ws_raise, ws_if, ws_for1, wp_and, wp_or, wp_tand, wp_tor, wp_ifE, wp_chain, gSlot, List.getElem?_cons_succ, List.getElem?_cons_zero, List.map_cons, List.map_nil, List.length_cons, List.length_nil, List.replicate_succ, List.replicate_zero, List.cons_append, List.nil_append, List.set_cons_succ, List.set_cons_zero, Option.some.injEq, exists_eq_left', Nat.reduceAdd, Nat.reduceSub, Nat.zero_add, Nat.add_zero, true_and, and_true, Vl.int.injEq, Vl.bl.injEq, Vl.loc.injEq, Vl.tup.injEq, exists_eq', exists_eq_left, Ob.lst.injEq, get_last, set_last]
        refine ⟨by decide, ?_, ys ++ [_], _, _, rfl, rfl, hy.snoc (fm0 (by decide)) (fm1 (by decide)), by simp; omega⟩
        show ys.length < 16777216
        omega
      · rintro ρ S' ⟨ys, r, c, rfl, rfl, hy, hyl⟩
        have hyl : ys.length ≤ 60 * i + 1 + 5 := hyl
        exact ⟨ys, _, _, _, rfl, rfl, hy, by omega⟩
  · rintro ρ S' ⟨xs, a, b, c, rfl, rfl, hn, hlen⟩
    simp only [wp_ret, wp_stuck, wp_ifs, wp_newL, wp_var, wp_c, wp_op, wp_un, wp_tval, wp_tnot, wp_not, wp_nil, wp_cons, wp_tup, wp_lst, wp_dct, wp_call, wp_app, wp_append, wp_ixT, wp_ixL, wp_put, wp_sl, wp_pn, wp_ps, wp_slT, wp_addI, wp_addT, wp_sub, wp_mul, wp_mulT, wp_div, wp_mod, wp_pow, wp_neg, wp_cmp, wp_eqI, wp_neI, wp_eqS, wp_neS, wp_is0, wp_not0, wp_isB, wp_notB, wp_lenT, wp_lenL, wp_tupT, wp_tupL, wp_lstT, ws_next, ws_brk, ws_cont, ws_seq, ws_expr, ws_ret, ws_retN, ws_set, ws_asg, ws_put, ws_raise, ws_if, ws_for1, wp_and, wp_or, wp_tand, wp_tor, wp_ifE, wp_chain, gSlot, List.getElem?_cons_succ, List.getElem?_cons_zero, List.map_cons, List.map_nil, List.length_cons, List.length_nil, List.replicate_succ, List.replicate_zero, List.cons_append, List.nil_append, List.set_cons_succ, List.set_cons_zero, Option.some.injEq, exists_eq_left', Nat.reduceAdd, Nat.reduceSub, Nat.zero_add, Nat.add_zero, true_and, and_true, Vl.int.injEq, Vl.bl.injEq, Vl.loc.injEq, Vl.tup.injEq, exists_eq', exists_eq_left, Ob.lst.injEq]
    refine h xs hn ?_
    simp at hlen; omega
/-! ### draws -/
/-- the list of draws at 1, of the numbers at 0; f more may be drawn -/
def Dr (S : Store) (f : Nat) : Prop := ∃ (xs : List Vl) (k : Int), S[1]? = some (.lst [.loc 0, .int k]) ∧ S[0]? = some (.lst xs) ∧ Nums xs ∧ xs.length ≤ 3780 ∧ 0 ≤ k ∧ k + f ≤ 1000000
/-- all but the draws stays as it is -/
def Fr (S S' : Store) : Prop := S.length ≤ S'.length ∧ ∀ i : Nat, i ≠ 1 → i < S.length → S'[i]? = S[i]?
theorem Fr.refl {S} : Fr S S := ⟨Nat.le_refl _, fun _ _ _ => rfl⟩
theorem Fr.trans {S S1 S2} (a : Fr S S1) (b : Fr S1 S2) : Fr S S2 := ⟨Nat.le_trans a.1 b.1, fun i h hi => (b.2 i h (Nat.lt_of_lt_of_le hi a.1)).trans (a.2 i h hi)⟩
theorem Fr.app {S T} : Fr S (S ++ T) := ⟨by simp, fun i _ hi => List.getElem?_append_left hi⟩
theorem Fr.set {S S' : Store} {n o} (h : Fr S S') (hn : S.length ≤ n) : Fr S (S'.set n o) := ⟨by simpa using h.1, fun i h1 h2 => by rw [List.getElem?_set_ne (by omega)]; exact h.2 i h1 h2⟩
theorem Fr.get {S S' : Store} {i o} (h : Fr S S') (e : S[i]? = some o) (hi : i ≠ 1) : S'[i]? = some o := (h.2 i hi (List.getElem?_eq_some_iff.mp e).1).trans e
theorem Fr.last {S S' : Store} {o} (h : Fr (S ++ [o]) S') (hl : 2 ≤ S.length) : S'[S.length]? = some o := h.get get_last (by omega)
theorem Dr.two {S f} (h : Dr S f) : 2 ≤ S.length := by
  obtain ⟨_, _, e, _⟩ := h
  exact (List.getElem?_eq_some_iff.mp e).1
theorem Dr.app {S f T} (h : Dr S f) : Dr (S ++ T) f := by
  obtain ⟨xs, k, h2, h3, h4⟩ := h
  exact ⟨xs, k, by rw [List.getElem?_append_left (List.getElem?_eq_some_iff.mp h2).1]; exact h2, by rw [List.getElem?_append_left (List.getElem?_eq_some_iff.mp h3).1]; exact h3, h4⟩
theorem Dr.less {S f g} (h : Dr S f) (hg : g ≤ f := by omega) : Dr S g := by
  obtain ⟨xs, k, h2, h3, h4, h5, h6, h7⟩ := h
  exact ⟨xs, k, h2, h3, h4, h5, h6, by omega⟩
theorem Dr.set {S f n o} (h : Dr S f) (hn : 2 ≤ n) : Dr (S.set n o) f := by
  obtain ⟨xs, k, h2, h3, h4⟩ := h
  exact ⟨xs, k, by rw [List.getElem?_set_ne (by omega)]; exact h2, by rw [List.getElem?_set_ne (by omega)]; exact h3, h4⟩
theorem nums_at {xs : List Vl} (h : Nums xs) {i : Int} (h0 : 0 ≤ i) (h1 : i < xs.length) : ∃ m : Int, atI xs i = some (.int m) ∧ 0 ≤ m ∧ m < 1000000 := by
  obtain ⟨ms, rfl, q⟩ := h
  simp at h1
  have hi : i.toNat < ms.length := by omega
  refine ⟨ms[i.toNat], ?_, q _ (List.getElem_mem hi)⟩
  unfold atI ixN
  rw [if_pos h0, if_pos (by simpa using h1)]
  simp [List.getElem?_eq_getElem hi]
theorem draw_ok {f : Nat} {S : Store} (h : Dr S f) (hf : 1 ≤ f) {Q : Vl → Store → Prop} {E : Str → Store → Prop} (hQ : ∀ (m : Int) S', 0 ≤ m → m < 1000000 → S'.length = S.length → Dr S' (f - 1) → Fr S S' → Q (.int m) S') :
    Wp (r__law_draw [.loc 1]) S Q E := by
  obtain ⟨xs, k, h2, h3, h4, h5, h6, h7⟩ := h
  have hd : 1 < S.length := (List.getElem?_eq_some_iff.mp h2).1
  have a0 : atI [Vl.loc 0, Vl.int k] 0 = some (.loc 0) := rfl
  have a1 : atI [Vl.loc 0, Vl.int k] 1 = some (.int k) := rfl
  have b0 : atI [Vl.loc 0, Vl.int (k + 1)] 0 = some (.loc 0) := rfl
  have i1 : ixN 2 1 = some 1 := rfl
  have g1 : (S.set 1 (.lst [.loc 0, .int (k + 1)]))[1]? = some (.lst [.loc 0, .int (k + 1)]) := List.getElem?_set_self hd
  have g2 : (S.set 1 (.lst [.loc 0, .int (k + 1)]))[0]? = some (.lst xs) := by rw [List.getElem?_set_ne (by decide)]; exact h3
  have fin : ∀ m : Int, 0 ≤ m → m < 1000000 → Q (.int m) (S.set 1 (.lst [.loc 0, .int (k + 1)])) := fun m m0 m1 =>
    hQ m _ m0 m1 (by simp) ⟨xs, k + 1, g1, g2, h4, h5, by omega, by omega⟩ ⟨by simp, fun i hi _ => List.getElem?_set_ne (Ne.symm hi)⟩
  unfold r__law_draw b__law_draw
  rw [wp_fn]
  simp only [wp_ret, wp_stuck, wp_ifs, wp_newL, wp_var, wp_c, wp_op, wp_un, wp_tval, wp_tnot, wp_not, wp_nil, wp_cons, wp_tup, wp_lst, wp_dct, wp_call, wp_app, wp_append, wp_ixT, wp_ixL, wp_put, wp_sl, wp_pn, wp_ps, wp_slT, wp_addI, wp_addT, wp_sub, wp_mul, wp_mulT, wp_div, wp_mod, wp_pow, wp_neg, wp_cmp, wp_eqI, wp_neI, wp_eqS, wp_neS, wp_is0, wp_not0, wp_isB, wp_notB, wp_lenT, wp_lenL, wp_tupT, wp_tupL, wp_lstT, ws_next, ws_brk, ws_cont, ws_seq, ws_expr, ws_ret, ws_retN, ws_set, ws_asg, ws_put, ws_raise, ws_if, ws_for1, wp_and, wp_or, wp_tand, wp_tor, wp_ifE, wp_chain, gSlot, List.getElem?_cons_succ, List.getElem?_cons_zero, List.map_cons, List.map_nil, List.length_cons, List.length_nil, List.replicate_succ, List.replicate_zero, List.cons_append, List.nil_append, List.set_cons_succ, List.set_cons_zero, Option.some.injEq, exists_eq_left', Nat.reduceAdd, Nat.reduceSub, Nat.zero_add, Nat.add_zero, true_and, and_true, Vl.int.injEq, Vl.bl.injEq, Vl.loc.injEq, Vl.tup.injEq, exists_eq', exists_eq_left, Ob.lst.injEq, h2, h3, a0, a1, i1, g1, g2, b0]
  split
  · next hc =>
    have hc : k < xs.length := of_decide_eq_true hc
    obtain ⟨m, hm, m0, m1⟩ := nums_at h4 h6 hc
    simp only [wp_ret, wp_stuck, wp_ifs, wp_newL, wp_var, wp_c, wp_op, wp_un, wp_tval, wp_tnot, wp_not, wp_nil, wp_cons, wp_tup, wp_lst, wp_dct, wp_call, wp_app, wp_append, wp_ixT, wp_ixL, wp_put, wp_sl, wp_pn, wp_ps, wp_slT, wp_addI, wp_addT, wp_sub, wp_mul, wp_mulT, wp_div, wp_mod, wp_pow, wp_neg, wp_cmp, wp_eqI, wp_neI, wp_eqS, wp_neS, wp_is0, wp_not0, wp_isB, wp_notB, wp_lenT, wp_lenL, wp_tupT, wp_tupL, wp_lstT, ws_next, ws_brk, ws_cont, ws_seq, ws_expr, ws_ret, ws_retN, ws_set, ws_asg, ws_put, ws_raise, ws_if, ws_for1, wp_and, wp_or, wp_tand, wp_tor, wp_ifE, wp_chain, gSlot, List.getElem?_cons_succ, List.getElem?_cons_zero, List.map_cons, List.map_nil, List.length_cons, List.length_nil, List.replicate_succ, List.replicate_zero, List.cons_append, List.nil_append, List.set_cons_succ, List.set_cons_zero, Option.some.injEq, exists_eq_left', Nat.reduceAdd, Nat.reduceSub, Nat.zero_add, Nat.add_zero, true_and, and_true, Vl.int.injEq, Vl.bl.injEq, Vl.loc.injEq, Vl.tup.injEq, exists_eq', exists_eq_left, Ob.lst.injEq, g1, g2, b0, hm]
    exact fin m m0 m1
  · simp only [wp_ret, wp_stuck, wp_ifs, wp_newL, wp_var, wp_c, wp_op, wp_un, wp_tval, wp_tnot, wp_not, wp_nil, wp_cons, wp_tup, wp_lst, wp_dct, wp_call, wp_app, wp_append, wp_ixT, wp_ixL, wp_put, wp_sl, wp_pn, wp_ps, wp_slT, wp_addI, wp_addT, wp_sub, wp_mul, wp_mulT, wp_div, wp_mod, wp_pow, wp_neg, wp_cmp, wp_eqI, wp_neI, wp_eqS, wp_neS, wp_is0, wp_not0, wp_isB, wp_notB, wp_lenT, wp_lenL, wp_tupT, wp_tupL, wp_lstT, ws_next, ws_brk, ws_cont, ws_seq, ws_expr, ws_ret, ws_retN, ws_set, ws_asg, ws_put, ws_raise, ws_if, ws_for1, wp_and, wp_or, wp_tand, wp_tor, wp_ifE, wp_chain, gSlot, List.getElem?_cons_succ, List.getElem?_cons_zero, List.map_cons, List.map_nil, List.length_cons, List.length_nil, List.replicate_succ, List.replicate_zero, List.cons_append, List.nil_append, List.set_cons_succ, List.set_cons_zero, Option.some.injEq, exists_eq_left', Nat.reduceAdd, Nat.reduceSub, Nat.zero_add, Nat.add_zero, true_and, and_true, Vl.int.injEq, Vl.bl.injEq, Vl.loc.injEq, Vl.tup.injEq, exists_eq', exists_eq_left, Ob.lst.injEq, g1, g2, b0]
    split
    · next hc =>
      have hc : (0 : Int) < xs.length := of_decide_eq_true hc
      obtain ⟨m, hm, m0, m1⟩ := nums_at h4 (Int.le_refl 0) hc
      simp only [wp_ret, wp_stuck, wp_ifs, wp_newL, wp_var, wp_c, wp_op, wp_un, wp_tval, wp_tnot, wp_not, wp_nil, wp_cons, wp_tup, wp_lst, wp_dct, wp_call, wp_app, wp_append, wp_ixT, wp_ixL, wp_put, wp_sl, wp_pn, wp_ps, wp_slT, wp_addI, wp_addT, wp_sub, wp_mul, wp_mulT, wp_div, wp_mod, wp_pow, wp_neg, wp_cmp, wp_eqI, wp_neI, wp_eqS, wp_neS, wp_is0, wp_not0, wp_isB, wp_notB, wp_lenT, wp_lenL, wp_tupT, wp_tupL, wp_lstT, ws_next, ws_brk, ws_cont, ws_seq, ws_expr, ws_ret, ws_retN, ws_set, ws_asg, ws_put, ws_raise, ws_if, ws_for1, wp_and, wp_or, wp_tand, wp_tor, wp_ifE, wp_chain, gSlot, List.getElem?_cons_succ, List.getElem?_cons_zero, List.map_cons, List.map_nil, List.length_cons, List.length_nil, List.replicate_succ, List.replicate_zero, List.cons_append, List.nil_append, List.set_cons_succ, List.set_cons_zero, Option.some.injEq, exists_eq_left', Nat.reduceAdd, Nat.reduceSub, Nat.zero_add, Nat.add_zero, true_and, and_true, Vl.int.injEq, Vl.bl.injEq, Vl.loc.injEq, Vl.tup.injEq, exists_eq', exists_eq_left, Ob.lst.injEq, g1, g2, b0, hm]
      have l1 := lg40 (i := m) (by omega) (by omega)
      have l2 : (Int.natAbs 1009).log2 < 40 := by decide
      refine ⟨by omega, mixed_ok ⟨by omega, by omega⟩ ⟨by omega, by omega⟩ fun r1 h1 h2 => mixed_ok ⟨by omega, by omega⟩ ⟨by omega, by omega⟩ fun r2 h3 h4 => ?_⟩
      simp only [wp_ret, wp_stuck, wp_ifs, wp_newL, wp_var, wp_c, wp_op, wp_un, wp_tval, wp_tnot, wp_not, wp_nil, wp_cons, wp_tup, wp_lst, wp_dct, wp_call, wp_app, wp_append, wp_ixT, wp_ixL, wp_put, wp_sl, wp_pn, wp_ps, wp_slT, wp_addI, wp_addT, wp_sub, wp_mul, wp_mulT, wp_div, wp_mod, wp_pow, wp_neg, wp_cmp, wp_eqI, wp_neI, wp_eqS, wp_neS, wp_is0, wp_not0, wp_isB, wp_notB, wp_lenT, wp_lenL, wp_tupT, wp_tupL, wp_lstT, ws_next, ws_brk, ws_cont, ws_seq, ws_expr, ws_ret, ws_retN, ws_set, ws_asg, ws_put, ws_raise, ws_if, ws_for1, wp_and, wp_or, wp_tand, wp_tor, wp_ifE, wp_chain, gSlot, List.getElem?_cons_succ, List.getElem?_cons_zero, List.map_cons, List.map_nil, List.length_cons, List.length_nil, List.replicate_succ, List.replicate_zero, List.cons_append, List.nil_append, List.set_cons_succ, List.set_cons_zero, Option.some.injEq, exists_eq_left', Nat.reduceAdd, Nat.reduceSub, Nat.zero_add, Nat.add_zero, true_and, and_true, Vl.int.injEq, Vl.bl.injEq, Vl.loc.injEq, Vl.tup.injEq, exists_eq', exists_eq_left, Ob.lst.injEq]
      exact ⟨by decide, fin _ (fm0 (by decide)) (fm1 (by decide))⟩
    · simp only [wp_ret, wp_stuck, wp_ifs, wp_newL, wp_var, wp_c, wp_op, wp_un, wp_tval, wp_tnot, wp_not, wp_nil, wp_cons, wp_tup, wp_lst, wp_dct, wp_call, wp_app, wp_append, wp_ixT, wp_ixL, wp_put, wp_sl, wp_pn, wp_ps, wp_slT, wp_addI, wp_addT, wp_sub, wp_mul, wp_mulT, wp_div, wp_mod, wp_pow, wp_neg, wp_cmp, wp_eqI, wp_neI, wp_eqS, wp_neS, wp_is0, wp_not0, wp_isB, wp_notB, wp_lenT, wp_lenL, wp_tupT, wp_tupL, wp_lstT, ws_next, ws_brk, ws_cont, ws_seq, ws_expr, ws_ret, ws_retN, ws_set, ws_asg, ws_put, ws_raise, ws_if, ws_for1, wp_and, wp_or, wp_tand, wp_tor, wp_ifE, wp_chain, gSlot, List.getElem?_cons_succ, List.getElem?_cons_zero, List.map_cons, List.map_nil, List.length_cons, List.length_nil, List.replicate_succ, List.replicate_zero, List.cons_append, List.nil_append, List.set_cons_succ, List.set_cons_zero, Option.some.injEq, exists_eq_left', Nat.reduceAdd, Nat.reduceSub, Nat.zero_add, Nat.add_zero, true_and, and_true, Vl.int.injEq, Vl.bl.injEq, Vl.loc.injEq, Vl.tup.injEq, exists_eq', exists_eq_left, Ob.lst.injEq]
      refine mixed_ok ⟨by omega, by omega⟩ ⟨by omega, by omega⟩ fun r1 h1 h2 => mixed_ok ⟨by omega, by omega⟩ ⟨by omega, by omega⟩ fun r2 h3 h4 => ?_
      simp only [wp_ret, wp_stuck, wp_ifs, wp_newL, wp_var, wp_c, wp_op, wp_un, wp_tval, wp_tnot, wp_not, wp_nil, wp_cons, wp_tup, wp_lst, wp_dct, wp_call, wp_app, wp_append, wp_ixT, wp_ixL, wp_put, wp_sl, wp_pn, wp_ps, wp_slT, wp_addI, wp_addT, wp_sub, wp_mul, wp_mulT, wp_div, wp_mod, wp_pow, wp_neg, wp_cmp, wp_eqI, wp_neI, wp_eqS, wp_neS, wp_is0, wp_not0, wp_isB, wp_notB, wp_lenT, wp_lenL, wp_tupT, wp_tupL, wp_lstT, ws_next, ws_brk, ws_cont, ws_seq, ws_expr, ws_ret, ws_retN, ws_set, ws_asg, ws_put, ws_raise, ws_if, ws_for1, wp_and, wp_or, wp_tand, wp_tor, wp_ifE, wp_chain, gSlot, List.getElem?_cons_succ, List.getElem?_cons_zero, List.map_cons, List.map_nil, List.length_cons, List.length_nil, List.replicate_succ, List.replicate_zero, List.cons_append, List.nil_append, List.set_cons_succ, List.set_cons_zero, Option.some.injEq, exists_eq_left', Nat.reduceAdd, Nat.reduceSub, Nat.zero_add, Nat.add_zero, true_and, and_true, Vl.int.injEq, Vl.bl.injEq, Vl.loc.injEq, Vl.tup.injEq, exists_eq', exists_eq_left, Ob.lst.injEq]
      exact ⟨by decide, fin _ (fm0 (by decide)) (fm1 (by decide))⟩
/-! ### programs -/
def StepOk (R : Int) (v : Vl) : Prop := ∃ a b x y : Int, v = .tup [.int a, .int b, .int x, .int y] ∧ (0 ≤ a ∧ a < R) ∧ (0 ≤ b ∧ b < R) ∧ (-2 ≤ x ∧ x ≤ 2) ∧ (-2 ≤ y ∧ y ≤ 2)
def TestOk (R : Int) (v : Vl) : Prop := ∃ a b : Int, v = .tup [.int a, .int b] ∧ (0 ≤ a ∧ a < R) ∧ (0 ≤ b ∧ b < R)
def ProgOk (R : Int) (steps tests : List Vl) : Prop := (1 ≤ R ∧ R ≤ 3) ∧ steps.length ≤ 4 ∧ tests.length ≤ 2 ∧ (∀ s ∈ steps, StepOk R s) ∧ ∀ t ∈ tests, TestOk R t
theorem get_mid {S : Store} {o u : Ob} : (S ++ [o] ++ [u])[S.length]? = some o := by simp
theorem ix_mod {xs : List Vl} {m j : Int} (hj : j = (xs.length : Int)) (h0 : 0 < j) : ∃ v, atI xs (m.fmod j) = some v ∧ v ∈ xs := by
  have a := fm0 (i := m) h0
  have b := fm1 (i := m) h0
  have hi : (m.fmod j).toNat < xs.length := by omega
  refine ⟨xs[(m.fmod j).toNat], ?_, List.getElem_mem hi⟩
  unfold atI ixN
  rw [if_pos a, if_pos (by omega)]
  simp [List.getElem?_eq_getElem hi]
theorem program_ok {f : Nat} {S : Store} (h : Dr S f) (hf : 40 ≤ f) {Q : Vl → Store → Prop} {E : Str → Store → Prop} (hQ : ∀ R steps tests S', ProgOk R steps tests → Dr S' (f - 40) → Fr S S' → Q (.tup [.int R, .tup steps, .tup tests]) S') :
    Wp (r__law_program [.loc 1]) S Q E := by
  have hz := h.two
  unfold r__law_program b__law_program
  rw [wp_fn]
  simp only [wp_ret, wp_stuck, wp_ifs, wp_newL, wp_var, wp_c, wp_op, wp_un, wp_tval, wp_tnot, wp_not, wp_nil, wp_cons, wp_tup, wp_lst, wp_dct, wp_call, wp_app, wp_append, wp_ixT, wp_ixL, wp_put, wp_sl, wp_pn, wp_ps, wp_slT, wp_addI, wp_addT, wp_sub, wp_mul, wp_mulT, wp_div, wp_mod, wp_pow, wp_neg, wp_cmp, wp_eqI, wp_neI, wp_eqS, wp_neS, wp_is0, wp_not0, wp_isB, wp_notB, wp_lenT, wp_lenL, wp_tupT, wp_tupL, wp_lstT, ws_next, ws_brk, ws_cont, ws_seq, ws_expr, ws_ret, ws_retN, ws_set, ws_asg, ws_put, ws_raise, ws_if, ws_for1, wp_and, wp_or, wp_tand, wp_tor, wp_ifE, wp_chain, gSlot, List.getElem?_cons_succ, List.getElem?_cons_zero, List.map_cons, List.map_nil, List.length_cons, List.length_nil, List.replicate_succ, List.replicate_zero, List.cons_append, List.nil_append, List.set_cons_succ, List.set_cons_zero, Option.some.injEq, exists_eq_left', Nat.reduceAdd, Nat.reduceSub, Nat.zero_add, Nat.add_zero, true_and, and_true, Vl.int.injEq, Vl.bl.injEq, Vl.loc.injEq, Vl.tup.injEq, exists_eq', exists_eq_left, Ob.lst.injEq]
  refine ⟨by decide, draw_ok h.app (by omega) fun m1 S1 _ _ l1 D1 F1 => ?_⟩
  simp only [wp_ret, wp_stuck, wp_ifs, wp_newL, wp_var, wp_c, wp_op, wp_un, wp_tval, wp_tnot, wp_not, wp_nil, wp_cons, wp_tup, wp_lst, wp_dct, wp_call, wp_app, wp_append, wp_ixT, wp_ixL, wp_put, wp_sl, wp_pn, wp_ps, wp_slT, wp_addI, wp_addT, wp_sub, wp_mul, wp_mulT, wp_div, wp_mod, wp_pow, wp_neg, wp_cmp, wp_eqI, wp_neI, wp_eqS, wp_neS, wp_is0, wp_not0, wp_isB, wp_notB, wp_lenT, wp_lenL, wp_tupT, wp_tupL, wp_lstT, ws_next, ws_brk, ws_cont, ws_seq, ws_expr, ws_ret, ws_retN, ws_set, ws_asg, ws_put, ws_raise, ws_if, ws_for1, wp_and, wp_or, wp_tand, wp_tor, wp_ifE, wp_chain, gSlot, List.getElem?_cons_succ, List.getElem?_cons_zero, List.map_cons, List.map_nil, List.length_cons, List.length_nil, List.replicate_succ, List.replicate_zero, List.cons_append, List.nil_append, List.set_cons_succ, List.set_cons_zero, Option.some.injEq, exists_eq_left', Nat.reduceAdd, Nat.reduceSub, Nat.zero_add, Nat.add_zero, true_and, and_true, Vl.int.injEq, Vl.bl.injEq, Vl.loc.injEq, Vl.tup.injEq, exists_eq', exists_eq_left, Ob.lst.injEq, F1.last hz]
  obtain ⟨v, hv, hm⟩ := ix_mod (xs := [.int 1, .int 2, .int 1, .int 3, .int 2]) (m := m1) (j := 5) rfl (by decide)
  have : ∃ R : Int, v = .int R ∧ 1 ≤ R ∧ R ≤ 3 := by
    simp only [List.mem_cons, List.not_mem_nil, or_false] at hm
    rcases hm with rfl | rfl | rfl | rfl | rfl <;> exact ⟨_, rfl, by decide, by decide⟩
  obtain ⟨R, rfl, R1, R3⟩ := this
  simp only [wp_ret, wp_stuck, wp_ifs, wp_newL, wp_var, wp_c, wp_op, wp_un, wp_tval, wp_tnot, wp_not, wp_nil, wp_cons, wp_tup, wp_lst, wp_dct, wp_call, wp_app, wp_append, wp_ixT, wp_ixL, wp_put, wp_sl, wp_pn, wp_ps, wp_slT, wp_addI, wp_addT, wp_sub, wp_mul, wp_mulT, wp_div, wp_mod, wp_pow, wp_neg, wp_cmp, wp_eqI, wp_neI, wp_eqS, wp_neS, wp_is0, wp_not0, wp_isB, wp_notB, wp_lenT, wp_lenL, wp_tupT, wp_tupL, wp_lstT, ws_next, ws_brk, ws_cont, ws_seq, ws_expr, ws_ret, ws_retN, ws_set, ws_asg, ws_put, ws_raise, ws_if, ws_for1, wp_and, wp_or, wp_tand, wp_tor, wp_ifE, wp_chain, gSlot, List.getElem?_cons_succ, List.getElem?_cons_zero, List.map_cons, List.map_nil, List.length_cons, List.length_nil, List.replicate_succ, List.replicate_zero, List.cons_append, List.nil_append, List.set_cons_succ, List.set_cons_zero, Option.some.injEq, exists_eq_left', Nat.reduceAdd, Nat.reduceSub, Nat.zero_add, Nat.add_zero, true_and, and_true, Vl.int.injEq, Vl.bl.injEq, Vl.loc.injEq, Vl.tup.injEq, exists_eq', exists_eq_left, Ob.lst.injEq, hv]
  have l1' : S1.length = S.length + 1 := by rw [l1]; simp
  refine ⟨by decide, by decide, by decide, draw_ok D1.app.app (by omega) fun m2 S2 _ _ l2 D2 F2 => ?_⟩
  simp only [wp_ret, wp_stuck, wp_ifs, wp_newL, wp_var, wp_c, wp_op, wp_un, wp_tval, wp_tnot, wp_not, wp_nil, wp_cons, wp_tup, wp_lst, wp_dct, wp_call, wp_app, wp_append, wp_ixT, wp_ixL, wp_put, wp_sl, wp_pn, wp_ps, wp_slT, wp_addI, wp_addT, wp_sub, wp_mul, wp_mulT, wp_div, wp_mod, wp_pow, wp_neg, wp_cmp, wp_eqI, wp_neI, wp_eqS, wp_neS, wp_is0, wp_not0, wp_isB, wp_notB, wp_lenT, wp_lenL, wp_tupT, wp_tupL, wp_lstT, ws_next, ws_brk, ws_cont, ws_seq, ws_expr, ws_ret, ws_retN, ws_set, ws_asg, ws_put, ws_raise, ws_if, ws_for1, wp_and, wp_or, wp_tand, wp_tor, wp_ifE, wp_chain, gSlot, List.getElem?_cons_succ, List.getElem?_cons_zero, List.map_cons, List.map_nil, List.length_cons, List.length_nil, List.replicate_succ, List.replicate_zero, List.cons_append, List.nil_append, List.set_cons_succ, List.set_cons_zero, Option.some.injEq, exists_eq_left', Nat.reduceAdd, Nat.reduceSub, Nat.zero_add, Nat.add_zero, true_and, and_true, Vl.int.injEq, Vl.bl.injEq, Vl.loc.injEq, Vl.tup.injEq, exists_eq', exists_eq_left, Ob.lst.injEq]
  obtain ⟨v, hv, hm⟩ := ix_mod (xs := [.int 2, .int 3, .int 1, .int 4, .int 4, .int 3, .int 0]) (m := m2) (j := 7) rfl (by decide)
  have : ∃ c : Nat, v = .int c ∧ c ≤ 4 := by
    simp only [List.mem_cons, List.not_mem_nil, or_false] at hm
    rcases hm with rfl | rfl | rfl | rfl | rfl | rfl | rfl
    · exact ⟨2, rfl, by decide⟩
    · exact ⟨3, rfl, by decide⟩
    · exact ⟨1, rfl, by decide⟩
    · exact ⟨4, rfl, by decide⟩
    · exact ⟨4, rfl, by decide⟩
    · exact ⟨3, rfl, by decide⟩
    · exact ⟨0, rfl, by decide⟩
  obtain ⟨c, rfl, hc⟩ := this
  simp only [wp_ret, wp_stuck, wp_ifs, wp_newL, wp_var, wp_c, wp_op, wp_un, wp_tval, wp_tnot, wp_not, wp_nil, wp_cons, wp_tup, wp_lst, wp_dct, wp_call, wp_app, wp_append, wp_ixT, wp_ixL, wp_put, wp_sl, wp_pn, wp_ps, wp_slT, wp_addI, wp_addT, wp_sub, wp_mul, wp_mulT, wp_div, wp_mod, wp_pow, wp_neg, wp_cmp, wp_eqI, wp_neI, wp_eqS, wp_neS, wp_is0, wp_not0, wp_isB, wp_notB, wp_lenT, wp_lenL, wp_tupT, wp_tupL, wp_lstT, ws_next, ws_brk, ws_cont, ws_seq, ws_expr, ws_ret, ws_retN, ws_set, ws_asg, ws_put, ws_raise, ws_if, ws_for1, wp_and, wp_or, wp_tand, wp_tor, wp_ifE, wp_chain, gSlot, List.getElem?_cons_succ, List.getElem?_cons_zero, List.map_cons, List.map_nil, List.length_cons, List.length_nil, List.replicate_succ, List.replicate_zero, List.cons_append, List.nil_append, List.set_cons_succ, List.set_cons_zero, Option.some.injEq, exists_eq_left', Nat.reduceAdd, Nat.reduceSub, Nat.zero_add, Nat.add_zero, true_and, and_true, Vl.int.injEq, Vl.bl.injEq, Vl.loc.injEq, Vl.tup.injEq, exists_eq', exists_eq_left, Ob.lst.injEq, F2.last (S := S1 ++ [Ob.lst []]) (by simp; omega), hv]
  refine ⟨by decide, ⟨by omega, by omega⟩, ?_⟩
  rw [Int.toNat_natCast]
  refine ws_range (fun i ρ S' => ∃ a b e steps, ρ = [some (.loc 1), some (.int R), some (.loc S1.length), a, b, e, none] ∧ S'[S1.length]? = some (.lst steps) ∧ steps.length = i ∧ (∀ s ∈ steps, StepOk R s) ∧ Dr S' (f - 1 - 1 - 4 * i) ∧ Fr S1 S')
    ⟨_, _, _, [], rfl, F2.get get_mid (by omega), rfl, by simp, D2, Fr.app.trans (Fr.app.trans F2)⟩ ?_ ?_
  · rintro i ρ S' hi ⟨a, b, e, steps, rfl, hs, hl, hst, D3, F3⟩
    refine ⟨_, rfl, ?_⟩
    simp only [wp_ret, wp_stuck, wp_ifs, wp_newL, wp_var, wp_c, wp_op, wp_un, wp_tval, wp_tnot, wp_not, wp_nil, wp_cons, wp_tup, wp_lst, wp_dct, wp_call, wp_app, wp_append, wp_ixT, wp_ixL, wp_put, wp_sl, wp_pn, wp_ps, wp_slT, wp_addI, wp_addT, wp_sub, wp_mul, wp_mulT, wp_div, wp_mod, wp_pow, wp_neg, wp_cmp, wp_eqI, wp_neI, wp_eqS, wp_neS, wp_is0, wp_not0, wp_isB, wp_notB, wp_lenT, wp_lenL, wp_tupT, wp_tupL, wp_lstT, ws_next, ws_brk, ws_cont, ws_seq, ws_expr, ws_ret, ws_retN, ws_set, ws_asg, ws_put, ws_raise, ws_if, ws_for1, wp_and, wp_or, wp_tand, wp_tor, wp_ifE, wp_chain, gSlot, List.getElem?_cons_succ, List.getElem?_cons_zero, List.map_cons, List.map_nil, List.length_cons, List.length_nil, List.replicate_succ, List.replicate_zero, List.cons_append, List.nil_append, List.set_cons_succ, List.set_cons_zero, Option.some.injEq, exists_eq_left', Nat.reduceAdd, Nat.reduceSub, Nat.zero_add, Nat.add_zero, true_and, and_true, Vl.int.injEq, Vl.bl.injEq, Vl.loc.injEq, Vl.tup.injEq, exists_eq', exists_eq_left, Ob.lst.injEq]
    refine draw_ok D3 (by omega) fun n1 T1 _ _ k1 G1 J1 => ?_
    simp only [wp_ret, wp_stuck, wp_ifs, wp_newL, wp_var, wp_c, wp_op, wp_un, wp_tval, wp_tnot, wp_not, wp_nil, wp_cons, wp_tup, wp_lst, wp_dct, wp_call, wp_app, wp_append, wp_ixT, wp_ixL, wp_put, wp_sl, wp_pn, wp_ps, wp_slT, wp_addI, wp_addT, wp_sub, wp_mul, wp_mulT, wp_div, wp_mod, wp_pow, wp_neg, wp_cmp, wp_eqI, wp_neI, wp_eqS, wp_neS, wp_is0, wp_not0, wp_isB, wp_notB, wp_lenT, wp_lenL, wp_tupT, wp_tupL, wp_lstT, ws_next, ws_brk, ws_cont, ws_seq, ws_expr, ws_ret, ws_retN, ws_set, ws_asg, ws_put, ws_raise, ws_if, ws_for1, wp_and, wp_or, wp_tand, wp_tor, wp_ifE, wp_chain, gSlot, List.getElem?_cons_succ, List.getElem?_cons_zero, List.map_cons, List.map_nil, List.length_cons, List.length_nil, List.replicate_succ, List.replicate_zero, List.cons_append, List.nil_append, List.set_cons_succ, List.set_cons_zero, Option.some.injEq, exists_eq_left', Nat.reduceAdd, Nat.reduceSub, Nat.zero_add, Nat.add_zero, true_and, and_true, Vl.int.injEq, Vl.bl.injEq, Vl.loc.injEq, Vl.tup.injEq, exists_eq', exists_eq_left, Ob.lst.injEq]
    refine ⟨by omega, draw_ok G1 (by omega) fun n2 T2 _ _ k2 G2 J2 => ?_⟩
    simp only [wp_ret, wp_stuck, wp_ifs, wp_newL, wp_var, wp_c, wp_op, wp_un, wp_tval, wp_tnot, wp_not, wp_nil, wp_cons, wp_tup, wp_lst, wp_dct, wp_call, wp_app, wp_append, wp_ixT, wp_ixL, wp_put, wp_sl, wp_pn, wp_ps, wp_slT, wp_addI, wp_addT, wp_sub, wp_mul, wp_mulT, wp_div, wp_mod, wp_pow, wp_neg, wp_cmp, wp_eqI, wp_neI, wp_eqS, wp_neS, wp_is0, wp_not0, wp_isB, wp_notB, wp_lenT, wp_lenL, wp_tupT, wp_tupL, wp_lstT, ws_next, ws_brk, ws_cont, ws_seq, ws_expr, ws_ret, ws_retN, ws_set, ws_asg, ws_put, ws_raise, ws_if, ws_for1, wp_and, wp_or, wp_tand, wp_tor, wp_ifE, wp_chain, gSlot, List.getElem?_cons_succ, List.getElem?_cons_zero, List.map_cons, List.map_nil, List.length_cons, List.length_nil, List.replicate_succ, List.replicate_zero, List.cons_append, List.nil_append, List.set_cons_succ, List.set_cons_zero, Option.some.injEq, exists_eq_left', Nat.reduceAdd, Nat.reduceSub, Nat.zero_add, Nat.add_zero, true_and, and_true, Vl.int.injEq, Vl.bl.injEq, Vl.loc.injEq, Vl.tup.injEq, exists_eq', exists_eq_left, Ob.lst.injEq]
    have J12 := F3.trans (J1.trans J2)
    have e2 := J2.get (J1.get hs (by omega)) (by omega)
    simp only [wp_ret, wp_stuck, wp_ifs, wp_newL, wp_var, wp_c, wp_op, wp_un, wp_tval, wp_tnot, wp_not, wp_nil, wp_cons, wp_tup, wp_lst, wp_dct, wp_call, wp_app, wp_append, wp_ixT, wp_ixL, wp_put, wp_sl, wp_pn, wp_ps, wp_slT, wp_addI, wp_addT, wp_sub, wp_mul, wp_mulT, wp_div, wp_mod, wp_pow, wp_neg, wp_cmp, wp_eqI, wp_neI, wp_eqS, wp_neS, wp_is0, wp_not0, wp_isB, wp_notB, wp_lenT, wp_lenL, wp_tupT, wp_tupL, wp_lstT, ws_next, ws_brk, ws_cont, ws_seq, ws_expr, ws_ret, ws_retN, ws_set, ws_asg, ws_put, ws_raise, ws_if, ws_for1, wp_and, wp_or, wp_tand, wp_tor, wp_ifE, wp_chain, gSlot, List.getElem?_cons_succ, List.getElem?_cons_zero, List.map_cons, List.map_nil, List.length_cons, List.length_nil, List.replicate_succ, List.replicate_zero, List.cons_append, List.nil_append, List.set_cons_succ, List.set_cons_zero, Option.some.injEq, exists_eq_left', Nat.reduceAdd, Nat.reduceSub, Nat.zero_add, Nat.add_zero, true_and, and_true, Vl.int.injEq, Vl.bl.injEq, Vl.loc.injEq, Vl.tup.injEq, exists_eq', exists_eq_left, Ob.lst.injEq, e2]
    refine ⟨by omega, draw_ok G2 (by omega) fun n3 T3 _ _ k3 G3 J3 => ?_⟩
    simp only [wp_ret, wp_stuck, wp_ifs, wp_newL, wp_var, wp_c, wp_op, wp_un, wp_tval, wp_tnot, wp_not, wp_nil, wp_cons, wp_tup, wp_lst, wp_dct, wp_call, wp_app, wp_append, wp_ixT, wp_ixL, wp_put, wp_sl, wp_pn, wp_ps, wp_slT, wp_addI, wp_addT, wp_sub, wp_mul, wp_mulT, wp_div, wp_mod, wp_pow, wp_neg, wp_cmp, wp_eqI, wp_neI, wp_eqS, wp_neS, wp_is0, wp_not0, wp_isB, wp_notB, wp_lenT, wp_lenL, wp_tupT, wp_tupL, wp_lstT, ws_next, ws_brk, ws_cont, ws_seq, ws_expr, ws_ret, ws_retN, ws_set, ws_asg, ws_put, ws_raise, ws_if, ws_for1, wp_and, wp_or, wp_tand, wp_tor, wp_ifE, wp_chain, gSlot, List.getElem?_cons_succ, List.getElem?_cons_zero, List.map_cons, List.map_nil, List.length_cons, List.length_nil, List.replicate_succ, List.replicate_zero, List.cons_append, List.nil_append, List.set_cons_succ, List.set_cons_zero, Option.some.injEq, exists_eq_left', Nat.reduceAdd, Nat.reduceSub, Nat.zero_add, Nat.add_zero, true_and, and_true, Vl.int.injEq, Vl.bl.injEq, Vl.loc.injEq, Vl.tup.injEq, exists_eq', exists_eq_left, Ob.lst.injEq]
    refine ⟨by decide, draw_ok G3 (by omega) fun n4 T4 _ _ k4 G4 J4 => ?_⟩
    have e4 := J4.get (J3.get e2 (by omega)) (by omega)
    simp only [wp_ret, wp_stuck, wp_ifs, wp_newL, wp_var, wp_c, wp_op, wp_un, wp_tval, wp_tnot, wp_not, wp_nil, wp_cons, wp_tup, wp_lst, wp_dct, wp_call, wp_app, wp_append, wp_ixT, wp_ixL, wp_put, wp_sl, wp_pn, wp_ps, wp_slT, wp_addI, wp_addT, wp_sub, wp_mul, wp_mulT, wp_div, wp_mod, wp_pow, wp_neg, wp_cmp, wp_eqI, wp_neI, wp_eqS, wp_neS, wp_is0, wp_not0, wp_isB, wp_notB, wp_lenT, wp_lenL, wp_tupT, wp_tupL, wp_lstT, ws_next, ws_brk, ws_cont, ws_seq, ws_expr, ws_ret, ws_retN, ws_set, ws_asg, ws_put, ws_raise, ws_if, ws_for1, wp_and, wp_or, wp_tand, wp_tor, wp_ifE, wp_chain, gSlot, List.getElem?_cons_succ, List.getElem?_cons_zero, List.map_cons, List.map_nil, List.length_cons, List.length_nil, List.replicate_succ, List.replicate_zero, List.cons_append, List.nil_append, List.set_cons_succ, List.set_cons_zero, Option.some.injEq, exists_eq_left', Nat.reduceAdd, Nat.reduceSub, Nat.zero_add, Nat.add_zero, true_and, and_true, Vl.int.injEq, Vl.bl.injEq, Vl.loc.injEq, Vl.tup.injEq, exists_eq', exists_eq_left, Ob.lst.injEq, e4]
    have x1 := fm0 (i := n3) (j := 5) (by decide)
    have x2 := fm1 (i := n3) (j := 5) (by decide)
    have x3 := fm0 (i := n4) (j := 5) (by decide)
    have x4 := fm1 (i := n4) (j := 5) (by decide)
    refine ⟨by decide, by decide, ?_, _, _, _, _, rfl, List.getElem?_set_self (List.getElem?_eq_some_iff.mp e4).1, by simp [hl], ?_, (G4.set (by omega)).less, (J12.trans (J3.trans J4)).set (Nat.le_refl _)⟩
    · show steps.length < 16777216
      omega
    · intro s hs
      rcases List.mem_append.mp hs with hs | hs
      · exact hst s hs
      · simp only [List.mem_singleton] at hs
        subst hs
        exact ⟨_, _, _, _, rfl, ⟨fm0 (by omega), fm1 (by omega)⟩, ⟨fm0 (by omega), fm1 (by omega)⟩, ⟨by omega, by omega⟩, ⟨by omega, by omega⟩⟩
  · rintro ρ S3 ⟨a, b, e, steps, rfl, hs, hl, hst, D3, F3⟩
    simp only [wp_ret, wp_stuck, wp_ifs, wp_newL, wp_var, wp_c, wp_op, wp_un, wp_tval, wp_tnot, wp_not, wp_nil, wp_cons, wp_tup, wp_lst, wp_dct, wp_call, wp_app, wp_append, wp_ixT, wp_ixL, wp_put, wp_sl, wp_pn, wp_ps, wp_slT, wp_addI, wp_addT, wp_sub, wp_mul, wp_mulT, wp_div, wp_mod, wp_pow, wp_neg, wp_cmp, wp_eqI, wp_neI, wp_eqS, wp_neS, wp_is0, wp_not0, wp_isB, wp_notB, wp_lenT, wp_lenL, wp_tupT, wp_tupL, wp_lstT, ws_next, ws_brk, ws_cont, ws_seq, ws_expr, ws_ret, ws_retN, ws_set, ws_asg, ws_put, ws_raise, ws_if, ws_for1, wp_and, wp_or, wp_tand, wp_tor, wp_ifE, wp_chain, gSlot, List.getElem?_cons_succ, List.getElem?_cons_zero, List.map_cons, List.map_nil, List.length_cons, List.length_nil, List.replicate_succ, List.replicate_zero, List.cons_append, List.nil_append, List.set_cons_succ, List.set_cons_zero, Option.some.injEq, exists_eq_left', Nat.reduceAdd, Nat.reduceSub, Nat.zero_add, Nat.add_zero, true_and, and_true, Vl.int.injEq, Vl.bl.injEq, Vl.loc.injEq, Vl.tup.injEq, exists_eq', exists_eq_left, Ob.lst.injEq]
    have z3 := D3.two
    refine ⟨by decide, by decide, draw_ok D3.app.app (by omega) fun m3 S4 _ _ l4 D4 F4 => ?_⟩
    simp only [wp_ret, wp_stuck, wp_ifs, wp_newL, wp_var, wp_c, wp_op, wp_un, wp_tval, wp_tnot, wp_not, wp_nil, wp_cons, wp_tup, wp_lst, wp_dct, wp_call, wp_app, wp_append, wp_ixT, wp_ixL, wp_put, wp_sl, wp_pn, wp_ps, wp_slT, wp_addI, wp_addT, wp_sub, wp_mul, wp_mulT, wp_div, wp_mod, wp_pow, wp_neg, wp_cmp, wp_eqI, wp_neI, wp_eqS, wp_neS, wp_is0, wp_not0, wp_isB, wp_notB, wp_lenT, wp_lenL, wp_tupT, wp_tupL, wp_lstT, ws_next, ws_brk, ws_cont, ws_seq, ws_expr, ws_ret, ws_retN, ws_set, ws_asg, ws_put, ws_raise, ws_if, ws_for1, wp_and, wp_or, wp_tand, wp_tor, wp_ifE, wp_chain, gSlot, List.getElem?_cons_succ, List.getElem?_cons_zero, List.map_cons, List.map_nil, List.length_cons, List.length_nil, List.replicate_succ, List.replicate_zero, List.cons_append, List.nil_append, List.set_cons_succ, List.set_cons_zero, Option.some.injEq, exists_eq_left', Nat.reduceAdd, Nat.reduceSub, Nat.zero_add, Nat.add_zero, true_and, and_true, Vl.int.injEq, Vl.bl.injEq, Vl.loc.injEq, Vl.tup.injEq, exists_eq', exists_eq_left, Ob.lst.injEq]
    obtain ⟨v, hv, hm⟩ := ix_mod (xs := [.int 0, .int 1, .int 0, .int 2, .int 1]) (m := m3) (j := 5) rfl (by decide)
    have : ∃ c : Nat, v = .int c ∧ c ≤ 2 := by
      simp only [List.mem_cons, List.not_mem_nil, or_false] at hm
      rcases hm with rfl | rfl | rfl | rfl | rfl
      · exact ⟨0, rfl, by decide⟩
      · exact ⟨1, rfl, by decide⟩
      · exact ⟨0, rfl, by decide⟩
      · exact ⟨2, rfl, by decide⟩
      · exact ⟨1, rfl, by decide⟩
    obtain ⟨c2, rfl, hc2⟩ := this
    simp only [wp_ret, wp_stuck, wp_ifs, wp_newL, wp_var, wp_c, wp_op, wp_un, wp_tval, wp_tnot, wp_not, wp_nil, wp_cons, wp_tup, wp_lst, wp_dct, wp_call, wp_app, wp_append, wp_ixT, wp_ixL, wp_put, wp_sl, wp_pn, wp_ps, wp_slT, wp_addI, wp_addT, wp_sub, wp_mul, wp_mulT, wp_div, wp_mod, wp_pow, wp_neg, wp_cmp, wp_eqI, wp_neI, wp_eqS, wp_neS, wp_is0, wp_not0, wp_isB, wp_notB, wp_lenT, wp_lenL, wp_tupT, wp_tupL, wp_lstT, ws_next, ws_brk, ws_cont, ws_seq, ws_expr, ws_ret, ws_retN, ws_set, ws_asg, ws_put, ws_raise, ws_if, ws_for1, wp_and, wp_or, wp_tand, wp_tor, wp_ifE, wp_chain, gSlot, List.getElem?_cons_succ, List.getElem?_cons_zero, List.map_cons, List.map_nil, List.length_cons, List.length_nil, List.replicate_succ, List.replicate_zero, List.cons_append, List.nil_append, List.set_cons_succ, List.set_cons_zero, Option.some.injEq, exists_eq_left', Nat.reduceAdd, Nat.reduceSub, Nat.zero_add, Nat.add_zero, true_and, and_true, Vl.int.injEq, Vl.bl.injEq, Vl.loc.injEq, Vl.tup.injEq, exists_eq', exists_eq_left, Ob.lst.injEq, F4.last (S := S3 ++ [Ob.lst []]) (by simp; omega), hv]
    refine ⟨by decide, ⟨by omega, by omega⟩, ?_⟩
    rw [Int.toNat_natCast]
    have hsl : S1.length < S3.length := (List.getElem?_eq_some_iff.mp hs).1
    have hs4 : S4[S1.length]? = some (.lst steps) := F4.get (by rw [List.append_assoc, List.getElem?_append_left hsl]; exact hs) (by omega)
    refine ws_range (fun i ρ S' => ∃ q tests, ρ = [some (.loc 1), some (.int R), some (.loc S1.length), q, b, e, some (.loc S3.length)] ∧ S'[S1.length]? = some (.lst steps) ∧ S'[S3.length]? = some (.lst tests) ∧ tests.length = i ∧ (∀ s ∈ tests, TestOk R s) ∧ Dr S' (f - 1 - 1 - 16 - 1 - 2 * i) ∧ Fr S1 S')
      ⟨_, [], rfl, hs4, F4.get get_mid (by omega), rfl, by simp, D4.less, F3.trans (Fr.app.trans (Fr.app.trans F4))⟩ ?_ ?_
    · rintro i ρ S' hi ⟨q, tests, rfl, hs1, hs2, hl2, hst2, D5, F5⟩
      refine ⟨_, rfl, ?_⟩
      simp only [wp_ret, wp_stuck, wp_ifs, wp_newL, wp_var, wp_c, wp_op, wp_un, wp_tval, wp_tnot, wp_not, wp_nil, wp_cons, wp_tup, wp_lst, wp_dct, wp_call, wp_app, wp_append, wp_ixT, wp_ixL, wp_put, wp_sl, wp_pn, wp_ps, wp_slT, wp_addI, wp_addT, wp_sub, wp_mul, wp_mulT, wp_div, wp_mod, wp_pow, wp_neg, wp_cmp, wp_eqI, wp_neI, wp_eqS, wp_neS, wp_is0, wp_not0, wp_isB, wp_notB, wp_lenT, wp_lenL, wp_tupT, wp_tupL, wp_lstT, ws_next, ws_brk, ws_cont, ws_seq, ws_expr, ws_ret, ws_retN, ws_set, ws_asg, ws_put, ws_raise, ws_if, ws_for1, wp_and, wp_or, wp_tand, wp_tor, wp_ifE, wp_chain, gSlot, List.getElem?_cons_succ, List.getElem?_cons_zero, List.map_cons, List.map_nil, List.length_cons, List.length_nil, List.replicate_succ, List.replicate_zero, List.cons_append, List.nil_append, List.set_cons_succ, List.set_cons_zero, Option.some.injEq, exists_eq_left', Nat.reduceAdd, Nat.reduceSub, Nat.zero_add, Nat.add_zero, true_and, and_true, Vl.int.injEq, Vl.bl.injEq, Vl.loc.injEq, Vl.tup.injEq, exists_eq', exists_eq_left, Ob.lst.injEq, hs2]
      refine draw_ok D5 (by omega) fun n1 T1 _ _ k1 G1 J1 => ?_
      simp only [wp_ret, wp_stuck, wp_ifs, wp_newL, wp_var, wp_c, wp_op, wp_un, wp_tval, wp_tnot, wp_not, wp_nil, wp_cons, wp_tup, wp_lst, wp_dct, wp_call, wp_app, wp_append, wp_ixT, wp_ixL, wp_put, wp_sl, wp_pn, wp_ps, wp_slT, wp_addI, wp_addT, wp_sub, wp_mul, wp_mulT, wp_div, wp_mod, wp_pow, wp_neg, wp_cmp, wp_eqI, wp_neI, wp_eqS, wp_neS, wp_is0, wp_not0, wp_isB, wp_notB, wp_lenT, wp_lenL, wp_tupT, wp_tupL, wp_lstT, ws_next, ws_brk, ws_cont, ws_seq, ws_expr, ws_ret, ws_retN, ws_set, ws_asg, ws_put, ws_raise, ws_if, ws_for1, wp_and, wp_or, wp_tand, wp_tor, wp_ifE, wp_chain, gSlot, List.getElem?_cons_succ, List.getElem?_cons_zero, List.map_cons, List.map_nil, List.length_cons, List.length_nil, List.replicate_succ, List.replicate_zero, List.cons_append, List.nil_append, List.set_cons_succ, List.set_cons_zero, Option.some.injEq, exists_eq_left', Nat.reduceAdd, Nat.reduceSub, Nat.zero_add, Nat.add_zero, true_and, and_true, Vl.int.injEq, Vl.bl.injEq, Vl.loc.injEq, Vl.tup.injEq, exists_eq', exists_eq_left, Ob.lst.injEq]
      refine ⟨by omega, draw_ok G1 (by omega) fun n2 T2 _ _ k2 G2 J2 => ?_⟩
      have e2 := J2.get (J1.get hs2 (by omega)) (by omega)
      have e1 := J2.get (J1.get hs1 (by omega)) (by omega)
      simp only [wp_ret, wp_stuck, wp_ifs, wp_newL, wp_var, wp_c, wp_op, wp_un, wp_tval, wp_tnot, wp_not, wp_nil, wp_cons, wp_tup, wp_lst, wp_dct, wp_call, wp_app, wp_append, wp_ixT, wp_ixL, wp_put, wp_sl, wp_pn, wp_ps, wp_slT, wp_addI, wp_addT, wp_sub, wp_mul, wp_mulT, wp_div, wp_mod, wp_pow, wp_neg, wp_cmp, wp_eqI, wp_neI, wp_eqS, wp_neS, wp_is0, wp_not0, wp_isB, wp_notB, wp_lenT, wp_lenL, wp_tupT, wp_tupL, wp_lstT, ws_next, ws_brk, ws_cont, ws_seq, ws_expr, ws_ret, ws_retN, ws_set, ws_asg, ws_put, ws_raise, ws_if, ws_for1, wp_and, wp_or, wp_tand, wp_tor, wp_ifE, wp_chain, gSlot, List.getElem?_cons_succ, List.getElem?_cons_zero, List.map_cons, List.map_nil, List.length_cons, List.length_nil, List.replicate_succ, List.replicate_zero, List.cons_append, List.nil_append, List.set_cons_succ, List.set_cons_zero, Option.some.injEq, exists_eq_left', Nat.reduceAdd, Nat.reduceSub, Nat.zero_add, Nat.add_zero, true_and, and_true, Vl.int.injEq, Vl.bl.injEq, Vl.loc.injEq, Vl.tup.injEq, exists_eq', exists_eq_left, Ob.lst.injEq, e2]
      refine ⟨by omega, by decide, ?_, _, _, rfl, ?_, List.getElem?_set_self (List.getElem?_eq_some_iff.mp e2).1, by simp [hl2], ?_, (G2.set (by omega)).less, (F5.trans (J1.trans J2)).set (by omega)⟩
      · show tests.length < 16777216
        omega
      · rw [List.getElem?_set_ne (by omega)]; exact e1
      · intro s hs
        rcases List.mem_append.mp hs with hs | hs
        · exact hst2 s hs
        · simp only [List.mem_singleton] at hs
          subst hs
          exact ⟨_, _, rfl, ⟨fm0 (by omega), fm1 (by omega)⟩, ⟨fm0 (by omega), fm1 (by omega)⟩⟩
    · rintro ρ S6 ⟨q, tests, rfl, hs1, hs2, hl2, hst2, D5, F5⟩
      simp only [wp_ret, wp_stuck, wp_ifs, wp_newL, wp_var, wp_c, wp_op, wp_un, wp_tval, wp_tnot, wp_not, wp_nil, wp_cons, wp_tup, wp_lst, wp_dct, wp_call, wp_app, wp_append, wp_ixT, wp_ixL, wp_put, wp_sl, wp_pn, wp_ps, wp_slT, wp_addI, wp_addT, wp_sub, wp_mul, wp_mulT, wp_div, wp_mod, wp_pow, wp_neg, wp_cmp, wp_eqI, wp_neI, wp_eqS, wp_neS, wp_is0, wp_not0, wp_isB, wp_notB, wp_lenT, wp_lenL, wp_tupT, wp_tupL, wp_lstT, ws_next, ws_brk, ws_cont, ws_seq, ws_expr, ws_ret, ws_retN, ws_set, ws_asg, ws_put, ws_raise, ws_if, ws_for1, wp_and, wp_or, wp_tand, wp_tor, wp_ifE, wp_chain, gSlot, List.getElem?_cons_succ, List.getElem?_cons_zero, List.map_cons, List.map_nil, List.length_cons, List.length_nil, List.replicate_succ, List.replicate_zero, List.cons_append, List.nil_append, List.set_cons_succ, List.set_cons_zero, Option.some.injEq, exists_eq_left', Nat.reduceAdd, Nat.reduceSub, Nat.zero_add, Nat.add_zero, true_and, and_true, Vl.int.injEq, Vl.bl.injEq, Vl.loc.injEq, Vl.tup.injEq, exists_eq', exists_eq_left, Ob.lst.injEq, hs1, hs2]
      exact ⟨by decide, hQ R steps tests S6 ⟨⟨R1, R3⟩, by omega, by omega, hst, hst2⟩ D5.less ((Fr.app.trans F1).trans F5)⟩
end LW
end Tw
end

section
set_option Elab.async false
set_option maxRecDepth 100000
set_option maxHeartbeats 3000000
set_option linter.all false
namespace Tw
namespace LW
open PySem L2
theorem kb_NoneType_int : kitB "NoneType" "int" = some false := by decide +kernel
theorem kb_NoneType_bool : kitB "NoneType" "bool" = some false := by decide +kernel
theorem kb_NoneType_tuple : kitB "NoneType" "tuple" = some false := by decide +kernel
theorem kb_bool_int : kitB "bool" "int" = some true := by decide +kernel
theorem kb_bool_bool : kitB "bool" "bool" = some true := by decide +kernel
theorem kb_bool_tuple : kitB "bool" "tuple" = some false := by decide +kernel
theorem kb_int_int : kitB "int" "int" = some true := by decide +kernel
theorem kb_int_bool : kitB "int" "bool" = some false := by decide +kernel
theorem kb_int_tuple : kitB "int" "tuple" = some false := by decide +kernel
theorem kb_str_int : kitB "str" "int" = some false := by decide +kernel
theorem kb_str_bool : kitB "str" "bool" = some false := by decide +kernel
theorem kb_str_tuple : kitB "str" "tuple" = some false := by decide +kernel
theorem kb_tuple_int : kitB "tuple" "int" = some false := by decide +kernel
theorem kb_tuple_bool : kitB "tuple" "bool" = some false := by decide +kernel
theorem kb_tuple_tuple : kitB "tuple" "tuple" = some true := by decide +kernel
theorem kb_list_int : kitB "list" "int" = some false := by decide +kernel
theorem kb_list_bool : kitB "list" "bool" = some false := by decide +kernel
theorem kb_list_tuple : kitB "list" "tuple" = some false := by decide +kernel
theorem kb_dict_int : kitB "dict" "int" = some false := by decide +kernel
theorem kb_dict_bool : kitB "dict" "bool" = some false := by decide +kernel
theorem kb_dict_tuple : kitB "dict" "tuple" = some false := by decide +kernel

/-! ### what is a program -/
def Fine (S : Store) (v : Vl) : Prop := (tyN S v).isSome = true
def FineN (S : Store) : Nat → Vl → Prop
  | 0, v => Fine S v
  | n + 1, v => Fine S v ∧ ∀ xs, v = .tup xs → xs.length ≤ line ∧ ∀ x ∈ xs, FineN S n x
theorem FineN.fine {S} : ∀ {n v}, FineN S n v → Fine S v
  | 0, _, h => h
  | _ + 1, _, h => h.1
def isI : Vl → Bool
  | .int _ => true
  | _ => false
def isB (lo hi : Int) : Vl → Bool
  | .int i => decide (lo ≤ i) && decide (i ≤ hi)
  | _ => false
def isT (n : Int) : Vl → Bool
  | .tup xs => decide ((xs.length : Int) = n)
  | _ => false
def isU (n : Int) : Vl → Bool
  | .tup xs => decide ((xs.length : Int) ≤ n)
  | _ => false
theorem wpe {α : Type} {m : M α} {S : Store} {a : α} (h : Wp m S (fun b S2 => b = a ∧ S2 = S) fun _ _ => False) : m S = some (.ok a S) := wp_eq h fun _ _ z => z
theorem isi_of {S : Store} {v : Vl} {n t : String} {b : Bool} (h : tyN S v = some t) (k : kitB t n = some b) : bIsi [v, .ty n] S = some (.ok (.bl b) S) := by simp [bIsi, h, k]
theorem loc_ty {S : Store} {n : Nat} (h : Fine S (.loc n)) : tyN S (.loc n) = some "list" ∨ tyN S (.loc n) = some "dict" := by
  have e : tyN S (.loc n) = match S[n]? with | some (.lst _) => some "list" | some .dct => some "dict" | none => none := rfl
  unfold Fine at h
  rw [e] at h ⊢
  revert h
  cases S[n]? with
  | none => intro h; cases h
  | some o => cases o <;> simp
def isIB : Vl → Bool
  | .int _ => true
  | .bl _ => true
  | _ => false
def isBl : Vl → Bool
  | .bl _ => true
  | _ => false
def isTp : Vl → Bool
  | .tup _ => true
  | _ => false
theorem isi_int {S v} (h : Fine S v) : bIsi [v, .ty "int"] S = some (.ok (.bl (isIB v)) S) := by
  cases v with
  | loc n => rcases loc_ty h with e | e
             · exact isi_of e kb_list_int
             · exact isi_of e kb_dict_int
  | fn x => cases h
  | ty x => cases h
  | cls x => cases h
  | non => exact isi_of rfl kb_NoneType_int
  | bl b => exact isi_of rfl kb_bool_int
  | int b => exact isi_of rfl kb_int_int
  | str b => exact isi_of rfl kb_str_int
  | tup b => exact isi_of rfl kb_tuple_int
  | frz b => exact isi_of rfl kb_list_int
theorem isi_bool {S v} (h : Fine S v) : bIsi [v, .ty "bool"] S = some (.ok (.bl (isBl v)) S) := by
  cases v with
  | loc n => rcases loc_ty h with e | e
             · exact isi_of e kb_list_bool
             · exact isi_of e kb_dict_bool
  | fn x => cases h
  | ty x => cases h
  | cls x => cases h
  | non => exact isi_of rfl kb_NoneType_bool
  | bl b => exact isi_of rfl kb_bool_bool
  | int b => exact isi_of rfl kb_int_bool
  | str b => exact isi_of rfl kb_str_bool
  | tup b => exact isi_of rfl kb_tuple_bool
  | frz b => exact isi_of rfl kb_list_bool
theorem isi_tuple {S v} (h : Fine S v) : bIsi [v, .ty "tuple"] S = some (.ok (.bl (isTp v)) S) := by
  cases v with
  | loc n => rcases loc_ty h with e | e
             · exact isi_of e kb_list_tuple
             · exact isi_of e kb_dict_tuple
  | fn x => cases h
  | ty x => cases h
  | cls x => cases h
  | non => exact isi_of rfl kb_NoneType_tuple
  | bl b => exact isi_of rfl kb_bool_tuple
  | int b => exact isi_of rfl kb_int_tuple
  | str b => exact isi_of rfl kb_str_tuple
  | tup b => exact isi_of rfl kb_tuple_tuple
  | frz b => exact isi_of rfl kb_list_tuple
theorem wp_ite {α : Type} {c : Bool} {a b : M α} {S : Store} {Q : α → Store → Prop} {E : Str → Store → Prop} : Wp (if c = true then a else b) S Q E ↔ (c = true → Wp a S Q E) ∧ (c = false → Wp b S Q E) := by cases c <;> simp
theorem ws_ite {c : Bool} {a b : Option SR} {D : Dk} : Ws (if c = true then a else b) D ↔ (c = true → Ws a D) ∧ (c = false → Ws b D) := by cases c <;> simp
theorem ite_bt {α : Type} {a b : α} : (if true = true then a else b) = a := if_pos rfl
theorem ite_bf {α : Type} {a b : α} : (if false = true then a else b) = b := if_neg (by decide)
theorem isI_eq (v : Vl) : isI v = (isIB v && !isBl v) := by cases v <;> rfl
theorem int_ok {S v} (h : Fine S v) : r_is_integer [v] S = some (.ok (.bl (isI v)) S) := by
  refine wpe ?_
  unfold r_is_integer b_is_integer
  rw [wp_fn]
  simp only [wp_ret, wp_stuck, wp_ifs, wp_newL, wp_var, wp_c, wp_op, wp_un, wp_tval, wp_tnot, wp_not, wp_nil, wp_cons, wp_tup, wp_lst, wp_dct, wp_call, wp_app, wp_append, wp_ixT, wp_ixL, wp_put, wp_sl, wp_pn, wp_ps, wp_slT, wp_addI, wp_addT, wp_sub, wp_mul, wp_mulT, wp_div, wp_mod, wp_pow, wp_neg, wp_cmp, wp_eqI, wp_neI, wp_eqS, wp_neS, wp_is0, wp_not0, wp_isB, wp_notB, wp_lenT, wp_lenL, wp_tupT, wp_tupL, wp_lstT, ws_next, ws_brk, ws_cont, ws_seq, ws_expr, ws_ret, ws_retN, ws_set, ws_asg, ws_put, ws_raise, ws_if, ws_for1, wp_and, wp_or, wp_tand, wp_tor, wp_ifE, wp_chain, gSlot, List.getElem?_cons_succ, List.getElem?_cons_zero, List.map_cons, List.map_nil, List.length_cons, List.length_nil, List.replicate_succ, List.replicate_zero, List.cons_append, List.nil_append, List.set_cons_succ, List.set_cons_zero, Option.some.injEq, exists_eq_left', Nat.reduceAdd, Nat.reduceSub, Nat.zero_add, Nat.add_zero, true_and, and_true, Vl.int.injEq, Vl.bl.injEq, Vl.loc.injEq, Vl.tup.injEq, exists_eq', exists_eq_left, Ob.lst.injEq, wp_of (isi_int h), wp_of (isi_bool h), wp_ite]
  rw [isI_eq]
  exact ⟨fun q => by simp [q], fun q => by simp [q]⟩
theorem isB_I {lo hi : Int} {v : Vl} (h : isI v = false) : isB lo hi v = false := by cases v <;> first | rfl | cases h
theorem isI_int {v : Vl} (h : isI v = true) : ∃ i, v = .int i := by cases v <;> first | exact ⟨_, rfl⟩ | cases h
theorem isTp_tup {v : Vl} (h : isTp v = true) : ∃ i, v = .tup i := by cases v <;> first | exact ⟨_, rfl⟩ | cases h
theorem isT_T {n : Int} {v : Vl} (h : isTp v = false) : isT n v = false := by cases v <;> first | rfl | cases h
theorem isU_T {n : Int} {v : Vl} (h : isTp v = false) : isU n v = false := by cases v <;> first | rfl | cases h
theorem between_ok {S v} (h : Fine S v) (lo hi : Int) : r_is_between [v, .int lo, .int hi] S = some (.ok (.bl (isB lo hi v)) S) := by
  refine wpe ?_
  unfold r_is_between b_is_between
  rw [wp_fn]
  simp only [wp_ret, wp_stuck, wp_ifs, wp_newL, wp_var, wp_c, wp_op, wp_un, wp_tval, wp_tnot, wp_not, wp_nil, wp_cons, wp_tup, wp_lst, wp_dct, wp_call, wp_app, wp_append, wp_ixT, wp_ixL, wp_put, wp_sl, wp_pn, wp_ps, wp_slT, wp_addI, wp_addT, wp_sub, wp_mul, wp_mulT, wp_div, wp_mod, wp_pow, wp_neg, wp_cmp, wp_eqI, wp_neI, wp_eqS, wp_neS, wp_is0, wp_not0, wp_isB, wp_notB, wp_lenT, wp_lenL, wp_tupT, wp_tupL, wp_lstT, ws_next, ws_brk, ws_cont, ws_seq, ws_expr, ws_ret, ws_retN, ws_set, ws_asg, ws_put, ws_raise, ws_if, ws_for1, wp_and, wp_or, wp_tand, wp_tor, wp_ifE, wp_chain, gSlot, List.getElem?_cons_succ, List.getElem?_cons_zero, List.map_cons, List.map_nil, List.length_cons, List.length_nil, List.replicate_succ, List.replicate_zero, List.cons_append, List.nil_append, List.set_cons_succ, List.set_cons_zero, Option.some.injEq, exists_eq_left', Nat.reduceAdd, Nat.reduceSub, Nat.zero_add, Nat.add_zero, true_and, and_true, Vl.int.injEq, Vl.bl.injEq, Vl.loc.injEq, Vl.tup.injEq, exists_eq', exists_eq_left, Ob.lst.injEq, wp_of (int_ok h), wp_ite]
  refine ⟨fun q => ?_, fun q => by simp [isB_I q]⟩
  obtain ⟨i, rfl⟩ := isI_int q
  simp only [wp_ret, wp_stuck, wp_ifs, wp_newL, wp_var, wp_c, wp_op, wp_un, wp_tval, wp_tnot, wp_not, wp_nil, wp_cons, wp_tup, wp_lst, wp_dct, wp_call, wp_app, wp_append, wp_ixT, wp_ixL, wp_put, wp_sl, wp_pn, wp_ps, wp_slT, wp_addI, wp_addT, wp_sub, wp_mul, wp_mulT, wp_div, wp_mod, wp_pow, wp_neg, wp_cmp, wp_eqI, wp_neI, wp_eqS, wp_neS, wp_is0, wp_not0, wp_isB, wp_notB, wp_lenT, wp_lenL, wp_tupT, wp_tupL, wp_lstT, ws_next, ws_brk, ws_cont, ws_seq, ws_expr, ws_ret, ws_retN, ws_set, ws_asg, ws_put, ws_raise, ws_if, ws_for1, wp_and, wp_or, wp_tand, wp_tor, wp_ifE, wp_chain, gSlot, List.getElem?_cons_succ, List.getElem?_cons_zero, List.map_cons, List.map_nil, List.length_cons, List.length_nil, List.replicate_succ, List.replicate_zero, List.cons_append, List.nil_append, List.set_cons_succ, List.set_cons_zero, Option.some.injEq, exists_eq_left', Nat.reduceAdd, Nat.reduceSub, Nat.zero_add, Nat.add_zero, true_and, and_true, Vl.int.injEq, Vl.bl.injEq, Vl.loc.injEq, Vl.tup.injEq, exists_eq', exists_eq_left, Ob.lst.injEq, wp_ite, wp_bnd]
  exact ⟨fun q => by simp [isB, of_decide_eq_true q], fun q => by simp [isB, of_decide_eq_false q]⟩
theorem tupof_ok {S v} (h : Fine S v) (hl : ∀ xs, v = .tup xs → xs.length ≤ line) (n : Int) : r_is_tuple_of [v, .int n] S = some (.ok (.bl (isT n v)) S) := by
  refine wpe ?_
  unfold r_is_tuple_of b_is_tuple_of
  rw [wp_fn]
  simp only [wp_ret, wp_stuck, wp_ifs, wp_newL, wp_var, wp_c, wp_op, wp_un, wp_tval, wp_tnot, wp_not, wp_nil, wp_cons, wp_tup, wp_lst, wp_dct, wp_call, wp_app, wp_append, wp_ixT, wp_ixL, wp_put, wp_sl, wp_pn, wp_ps, wp_slT, wp_addI, wp_addT, wp_sub, wp_mul, wp_mulT, wp_div, wp_mod, wp_pow, wp_neg, wp_cmp, wp_eqI, wp_neI, wp_eqS, wp_neS, wp_is0, wp_not0, wp_isB, wp_notB, wp_lenT, wp_lenL, wp_tupT, wp_tupL, wp_lstT, ws_next, ws_brk, ws_cont, ws_seq, ws_expr, ws_ret, ws_retN, ws_set, ws_asg, ws_put, ws_raise, ws_if, ws_for1, wp_and, wp_or, wp_tand, wp_tor, wp_ifE, wp_chain, gSlot, List.getElem?_cons_succ, List.getElem?_cons_zero, List.map_cons, List.map_nil, List.length_cons, List.length_nil, List.replicate_succ, List.replicate_zero, List.cons_append, List.nil_append, List.set_cons_succ, List.set_cons_zero, Option.some.injEq, exists_eq_left', Nat.reduceAdd, Nat.reduceSub, Nat.zero_add, Nat.add_zero, true_and, and_true, Vl.int.injEq, Vl.bl.injEq, Vl.loc.injEq, Vl.tup.injEq, exists_eq', exists_eq_left, Ob.lst.injEq, wp_of (isi_tuple h), wp_ite]
  refine ⟨fun q => ?_, fun q => by simp [isT_T q]⟩
  obtain ⟨xs, rfl⟩ := isTp_tup q
  simp only [wp_ret, wp_stuck, wp_ifs, wp_newL, wp_var, wp_c, wp_op, wp_un, wp_tval, wp_tnot, wp_not, wp_nil, wp_cons, wp_tup, wp_lst, wp_dct, wp_call, wp_app, wp_append, wp_ixT, wp_ixL, wp_put, wp_sl, wp_pn, wp_ps, wp_slT, wp_addI, wp_addT, wp_sub, wp_mul, wp_mulT, wp_div, wp_mod, wp_pow, wp_neg, wp_cmp, wp_eqI, wp_neI, wp_eqS, wp_neS, wp_is0, wp_not0, wp_isB, wp_notB, wp_lenT, wp_lenL, wp_tupT, wp_tupL, wp_lstT, ws_next, ws_brk, ws_cont, ws_seq, ws_expr, ws_ret, ws_retN, ws_set, ws_asg, ws_put, ws_raise, ws_if, ws_for1, wp_and, wp_or, wp_tand, wp_tor, wp_ifE, wp_chain, gSlot, List.getElem?_cons_succ, List.getElem?_cons_zero, List.map_cons, List.map_nil, List.length_cons, List.length_nil, List.replicate_succ, List.replicate_zero, List.cons_append, List.nil_append, List.set_cons_succ, List.set_cons_zero, Option.some.injEq, exists_eq_left', Nat.reduceAdd, Nat.reduceSub, Nat.zero_add, Nat.add_zero, true_and, and_true, Vl.int.injEq, Vl.bl.injEq, Vl.loc.injEq, Vl.tup.injEq, exists_eq', exists_eq_left, Ob.lst.injEq]
  exact ⟨hl xs rfl, rfl⟩
theorem upto_ok {S v} (h : Fine S v) (hl : ∀ xs, v = .tup xs → xs.length ≤ line) (n : Int) : r_is_tuple_up_to [v, .int n] S = some (.ok (.bl (isU n v)) S) := by
  refine wpe ?_
  unfold r_is_tuple_up_to b_is_tuple_up_to
  rw [wp_fn]
  simp only [wp_ret, wp_stuck, wp_ifs, wp_newL, wp_var, wp_c, wp_op, wp_un, wp_tval, wp_tnot, wp_not, wp_nil, wp_cons, wp_tup, wp_lst, wp_dct, wp_call, wp_app, wp_append, wp_ixT, wp_ixL, wp_put, wp_sl, wp_pn, wp_ps, wp_slT, wp_addI, wp_addT, wp_sub, wp_mul, wp_mulT, wp_div, wp_mod, wp_pow, wp_neg, wp_cmp, wp_eqI, wp_neI, wp_eqS, wp_neS, wp_is0, wp_not0, wp_isB, wp_notB, wp_lenT, wp_lenL, wp_tupT, wp_tupL, wp_lstT, ws_next, ws_brk, ws_cont, ws_seq, ws_expr, ws_ret, ws_retN, ws_set, ws_asg, ws_put, ws_raise, ws_if, ws_for1, wp_and, wp_or, wp_tand, wp_tor, wp_ifE, wp_chain, gSlot, List.getElem?_cons_succ, List.getElem?_cons_zero, List.map_cons, List.map_nil, List.length_cons, List.length_nil, List.replicate_succ, List.replicate_zero, List.cons_append, List.nil_append, List.set_cons_succ, List.set_cons_zero, Option.some.injEq, exists_eq_left', Nat.reduceAdd, Nat.reduceSub, Nat.zero_add, Nat.add_zero, true_and, and_true, Vl.int.injEq, Vl.bl.injEq, Vl.loc.injEq, Vl.tup.injEq, exists_eq', exists_eq_left, Ob.lst.injEq, wp_of (isi_tuple h), wp_ite]
  refine ⟨fun q => ?_, fun q => by simp [isU_T q]⟩
  obtain ⟨xs, rfl⟩ := isTp_tup q
  simp only [wp_ret, wp_stuck, wp_ifs, wp_newL, wp_var, wp_c, wp_op, wp_un, wp_tval, wp_tnot, wp_not, wp_nil, wp_cons, wp_tup, wp_lst, wp_dct, wp_call, wp_app, wp_append, wp_ixT, wp_ixL, wp_put, wp_sl, wp_pn, wp_ps, wp_slT, wp_addI, wp_addT, wp_sub, wp_mul, wp_mulT, wp_div, wp_mod, wp_pow, wp_neg, wp_cmp, wp_eqI, wp_neI, wp_eqS, wp_neS, wp_is0, wp_not0, wp_isB, wp_notB, wp_lenT, wp_lenL, wp_tupT, wp_tupL, wp_lstT, ws_next, ws_brk, ws_cont, ws_seq, ws_expr, ws_ret, ws_retN, ws_set, ws_asg, ws_put, ws_raise, ws_if, ws_for1, wp_and, wp_or, wp_tand, wp_tor, wp_ifE, wp_chain, gSlot, List.getElem?_cons_succ, List.getElem?_cons_zero, List.map_cons, List.map_nil, List.length_cons, List.length_nil, List.replicate_succ, List.replicate_zero, List.cons_append, List.nil_append, List.set_cons_succ, List.set_cons_zero, Option.some.injEq, exists_eq_left', Nat.reduceAdd, Nat.reduceSub, Nat.zero_add, Nat.add_zero, true_and, and_true, Vl.int.injEq, Vl.bl.injEq, Vl.loc.injEq, Vl.tup.injEq, exists_eq', exists_eq_left, Ob.lst.injEq]
  exact ⟨hl xs rfl, rfl⟩
theorem rooms_ok {S : Store} {xs : List Vl} (h : ∀ x ∈ xs, Fine S x) (R : Int) : r__are_rooms [.tup xs, .int R] S = some (.ok (.bl (xs.all (isB 0 (R - 1)))) S) := by
  have q : eQuant false (eVar 0) (eCall r_is_between (aCons (eVar 2) (aCons (eC (.int 0)) (aCons (eOp oSub (eVar 1) (eC (.int 1))) (aNil))))) [some (.tup xs), some (.int R)] S = some (.ok (.bl (if false = true then xs.any (isB 0 (R - 1)) else xs.all (isB 0 (R - 1)))) S) :=
    wp_quantT rfl fun x hx => wpe (by simp only [wp_ret, wp_stuck, wp_ifs, wp_newL, wp_var, wp_c, wp_op, wp_un, wp_tval, wp_tnot, wp_not, wp_nil, wp_cons, wp_tup, wp_lst, wp_dct, wp_call, wp_app, wp_append, wp_ixT, wp_ixL, wp_put, wp_sl, wp_pn, wp_ps, wp_slT, wp_addI, wp_addT, wp_sub, wp_mul, wp_mulT, wp_div, wp_mod, wp_pow, wp_neg, wp_cmp, wp_eqI, wp_neI, wp_eqS, wp_neS, wp_is0, wp_not0, wp_isB, wp_notB, wp_lenT, wp_lenL, wp_tupT, wp_tupL, wp_lstT, ws_next, ws_brk, ws_cont, ws_seq, ws_expr, ws_ret, ws_retN, ws_set, ws_asg, ws_put, ws_raise, ws_if, ws_for1, wp_and, wp_or, wp_tand, wp_tor, wp_ifE, wp_chain, gSlot, List.getElem?_cons_succ, List.getElem?_cons_zero, List.map_cons, List.map_nil, List.length_cons, List.length_nil, List.replicate_succ, List.replicate_zero, List.cons_append, List.nil_append, List.set_cons_succ, List.set_cons_zero, Option.some.injEq, exists_eq_left', Nat.reduceAdd, Nat.reduceSub, Nat.zero_add, Nat.add_zero, true_and, and_true, Vl.int.injEq, Vl.bl.injEq, Vl.loc.injEq, Vl.tup.injEq, exists_eq', exists_eq_left, Ob.lst.injEq, wp_of (between_ok (h x hx) 0 (R - 1))])
  rw [if_neg (by decide)] at q
  refine wpe ?_
  unfold r__are_rooms b__are_rooms
  rw [wp_fn]
  simp only [wp_ret, wp_stuck, wp_ifs, wp_newL, wp_var, wp_c, wp_op, wp_un, wp_tval, wp_tnot, wp_not, wp_nil, wp_cons, wp_tup, wp_lst, wp_dct, wp_call, wp_app, wp_append, wp_ixT, wp_ixL, wp_put, wp_sl, wp_pn, wp_ps, wp_slT, wp_addI, wp_addT, wp_sub, wp_mul, wp_mulT, wp_div, wp_mod, wp_pow, wp_neg, wp_cmp, wp_eqI, wp_neI, wp_eqS, wp_neS, wp_is0, wp_not0, wp_isB, wp_notB, wp_lenT, wp_lenL, wp_tupT, wp_tupL, wp_lstT, ws_next, ws_brk, ws_cont, ws_seq, ws_expr, ws_ret, ws_retN, ws_set, ws_asg, ws_put, ws_raise, ws_if, ws_for1, wp_and, wp_or, wp_tand, wp_tor, wp_ifE, wp_chain, gSlot, List.getElem?_cons_succ, List.getElem?_cons_zero, List.map_cons, List.map_nil, List.length_cons, List.length_nil, List.replicate_succ, List.replicate_zero, List.cons_append, List.nil_append, List.set_cons_succ, List.set_cons_zero, Option.some.injEq, exists_eq_left', Nat.reduceAdd, Nat.reduceSub, Nat.zero_add, Nat.add_zero, true_and, and_true, Vl.int.injEq, Vl.bl.injEq, Vl.loc.injEq, Vl.tup.injEq, exists_eq', exists_eq_left, Ob.lst.injEq, wp_of q]
def isStep (R : Int) : Vl → Bool
  | .tup xs => decide ((xs.length : Int) = 4) && ((xs.take 2).all (isB 0 (R - 1)) && (xs.drop 2).all (isB (-2) 2))
  | _ => false
def isTest (R : Int) : Vl → Bool
  | .tup xs => decide ((xs.length : Int) = 2) && xs.all (isB 0 (R - 1))
  | _ => false
theorem isT_tup {n : Int} {v : Vl} (h : isT n v = true) : ∃ xs, v = .tup xs ∧ (xs.length : Int) = n := by cases v <;> first | exact ⟨_, rfl, of_decide_eq_true h⟩ | cases h
theorem isU_tup {n : Int} {v : Vl} (h : isU n v = true) : ∃ xs, v = .tup xs ∧ (xs.length : Int) ≤ n := by cases v <;> first | exact ⟨_, rfl, of_decide_eq_true h⟩ | cases h
theorem isStep_T {R : Int} {v : Vl} (h : isT 4 v = false) : isStep R v = false := by
  cases v with
  | tup xs => simp only [isT] at h; simp only [isStep, h, Bool.false_and]
  | _ => rfl
theorem isTest_T {R : Int} {v : Vl} (h : isT 2 v = false) : isTest R v = false := by
  cases v with
  | tup xs => simp only [isT] at h; simp only [isTest, h, Bool.false_and]
  | _ => rfl
theorem not_t {b : Bool} (h : (!b) = true) : b = false := by cases b <;> first | rfl | cases h
theorem not_f {b : Bool} (h : (!b) = false) : b = true := by cases b <;> first | rfl | cases h
theorem step_ok {S v} (h : FineN S 1 v) (R : Int) : r__is_step [v, .int R] S = some (.ok (.bl (isStep R v)) S) := by
  refine wpe ?_
  unfold r__is_step b__is_step
  rw [wp_fn]
  simp only [wp_ret, wp_stuck, wp_ifs, wp_newL, wp_var, wp_c, wp_op, wp_un, wp_tval, wp_tnot, wp_not, wp_nil, wp_cons, wp_tup, wp_lst, wp_dct, wp_call, wp_app, wp_append, wp_ixT, wp_ixL, wp_put, wp_sl, wp_pn, wp_ps, wp_slT, wp_addI, wp_addT, wp_sub, wp_mul, wp_mulT, wp_div, wp_mod, wp_pow, wp_neg, wp_cmp, wp_eqI, wp_neI, wp_eqS, wp_neS, wp_is0, wp_not0, wp_isB, wp_notB, wp_lenT, wp_lenL, wp_tupT, wp_tupL, wp_lstT, ws_next, ws_brk, ws_cont, ws_seq, ws_expr, ws_ret, ws_retN, ws_set, ws_asg, ws_put, ws_raise, ws_if, ws_for1, wp_and, wp_or, wp_tand, wp_tor, wp_ifE, wp_chain, gSlot, List.getElem?_cons_succ, List.getElem?_cons_zero, List.map_cons, List.map_nil, List.length_cons, List.length_nil, List.replicate_succ, List.replicate_zero, List.cons_append, List.nil_append, List.set_cons_succ, List.set_cons_zero, Option.some.injEq, exists_eq_left', Nat.reduceAdd, Nat.reduceSub, Nat.zero_add, Nat.add_zero, true_and, and_true, Vl.int.injEq, Vl.bl.injEq, Vl.loc.injEq, Vl.tup.injEq, exists_eq', exists_eq_left, Ob.lst.injEq, wp_of (tupof_ok h.1 (fun xs e => (h.2 xs e).1) 4), ws_ite]
  refine ⟨fun q => by simp [isStep_T (not_t q)], fun q => ?_⟩
  obtain ⟨xs, rfl, h4⟩ := isT_tup (not_f q)
  obtain ⟨hl, hx⟩ := h.2 xs rfl
  have h4' : xs.length = 4 := by omega
  have e1 : cut xs none (some 2) = xs.take 2 := by
    unfold cut HT.sIx; rw [h4']; simp
  have e2 : cut xs (some 2) none = xs.drop 2 := by
    unfold cut HT.sIx; rw [h4']; simp [h4']; exact List.take_of_length_le (by simp; omega)
  have q1 := rooms_ok (S := S) (xs := xs.take 2) (fun x q => hx x (List.mem_of_mem_take q)) R
  have q2 : eQuant false (eSl (eVar 0) (pSome (eC (.int 2))) (pNone)) (eCall r_is_between (aCons (eVar 2) (aCons (eUn oNeg (eC (.int 2))) (aCons (eC (.int 2)) (aNil))))) [some (.tup xs), some (.int R)] S = some (.ok (.bl (if false = true then (xs.drop 2).any (isB (-2) 2) else (xs.drop 2).all (isB (-2) 2))) S) :=
    wp_quantT (S1 := S) (xs := xs.drop 2) (wpe (by simp only [wp_ret, wp_stuck, wp_ifs, wp_newL, wp_var, wp_c, wp_op, wp_un, wp_tval, wp_tnot, wp_not, wp_nil, wp_cons, wp_tup, wp_lst, wp_dct, wp_call, wp_app, wp_append, wp_ixT, wp_ixL, wp_put, wp_sl, wp_pn, wp_ps, wp_slT, wp_addI, wp_addT, wp_sub, wp_mul, wp_mulT, wp_div, wp_mod, wp_pow, wp_neg, wp_cmp, wp_eqI, wp_neI, wp_eqS, wp_neS, wp_is0, wp_not0, wp_isB, wp_notB, wp_lenT, wp_lenL, wp_tupT, wp_tupL, wp_lstT, ws_next, ws_brk, ws_cont, ws_seq, ws_expr, ws_ret, ws_retN, ws_set, ws_asg, ws_put, ws_raise, ws_if, ws_for1, wp_and, wp_or, wp_tand, wp_tor, wp_ifE, wp_chain, gSlot, List.getElem?_cons_succ, List.getElem?_cons_zero, List.map_cons, List.map_nil, List.length_cons, List.length_nil, List.replicate_succ, List.replicate_zero, List.cons_append, List.nil_append, List.set_cons_succ, List.set_cons_zero, Option.some.injEq, exists_eq_left', Nat.reduceAdd, Nat.reduceSub, Nat.zero_add, Nat.add_zero, true_and, and_true, Vl.int.injEq, Vl.bl.injEq, Vl.loc.injEq, Vl.tup.injEq, exists_eq', exists_eq_left, Ob.lst.injEq, e2])) fun x q => wpe (by simp only [wp_ret, wp_stuck, wp_ifs, wp_newL, wp_var, wp_c, wp_op, wp_un, wp_tval, wp_tnot, wp_not, wp_nil, wp_cons, wp_tup, wp_lst, wp_dct, wp_call, wp_app, wp_append, wp_ixT, wp_ixL, wp_put, wp_sl, wp_pn, wp_ps, wp_slT, wp_addI, wp_addT, wp_sub, wp_mul, wp_mulT, wp_div, wp_mod, wp_pow, wp_neg, wp_cmp, wp_eqI, wp_neI, wp_eqS, wp_neS, wp_is0, wp_not0, wp_isB, wp_notB, wp_lenT, wp_lenL, wp_tupT, wp_tupL, wp_lstT, ws_next, ws_brk, ws_cont, ws_seq, ws_expr, ws_ret, ws_retN, ws_set, ws_asg, ws_put, ws_raise, ws_if, ws_for1, wp_and, wp_or, wp_tand, wp_tor, wp_ifE, wp_chain, gSlot, List.getElem?_cons_succ, List.getElem?_cons_zero, List.map_cons, List.map_nil, List.length_cons, List.length_nil, List.replicate_succ, List.replicate_zero, List.cons_append, List.nil_append, List.set_cons_succ, List.set_cons_zero, Option.some.injEq, exists_eq_left', Nat.reduceAdd, Nat.reduceSub, Nat.zero_add, Nat.add_zero, true_and, and_true, Vl.int.injEq, Vl.bl.injEq, Vl.loc.injEq, Vl.tup.injEq, exists_eq', exists_eq_left, Ob.lst.injEq, wp_of (between_ok (hx x (List.mem_of_mem_drop q)) (-2) 2)])
  rw [if_neg (by decide)] at q2
  simp only [wp_ret, wp_stuck, wp_ifs, wp_newL, wp_var, wp_c, wp_op, wp_un, wp_tval, wp_tnot, wp_not, wp_nil, wp_cons, wp_tup, wp_lst, wp_dct, wp_call, wp_app, wp_append, wp_ixT, wp_ixL, wp_put, wp_sl, wp_pn, wp_ps, wp_slT, wp_addI, wp_addT, wp_sub, wp_mul, wp_mulT, wp_div, wp_mod, wp_pow, wp_neg, wp_cmp, wp_eqI, wp_neI, wp_eqS, wp_neS, wp_is0, wp_not0, wp_isB, wp_notB, wp_lenT, wp_lenL, wp_tupT, wp_tupL, wp_lstT, ws_next, ws_brk, ws_cont, ws_seq, ws_expr, ws_ret, ws_retN, ws_set, ws_asg, ws_put, ws_raise, ws_if, ws_for1, wp_and, wp_or, wp_tand, wp_tor, wp_ifE, wp_chain, gSlot, List.getElem?_cons_succ, List.getElem?_cons_zero, List.map_cons, List.map_nil, List.length_cons, List.length_nil, List.replicate_succ, List.replicate_zero, List.cons_append, List.nil_append, List.set_cons_succ, List.set_cons_zero, Option.some.injEq, exists_eq_left', Nat.reduceAdd, Nat.reduceSub, Nat.zero_add, Nat.add_zero, true_and, and_true, Vl.int.injEq, Vl.bl.injEq, Vl.loc.injEq, Vl.tup.injEq, exists_eq', exists_eq_left, Ob.lst.injEq, e1, wp_of q1, wp_ite, wp_of q2]
  have e0 : isStep R (.tup xs) = ((xs.take 2).all (isB 0 (R - 1)) && (xs.drop 2).all (isB (-2) 2)) := by
    show (decide ((xs.length : Int) = 4) && _) = _
    rw [decide_eq_true h4, Bool.true_and]
  rw [e0]
  exact ⟨fun q => by rw [q, Bool.true_and], fun q => by rw [q, Bool.false_and]⟩
theorem test_ok {S v} (h : FineN S 1 v) (R : Int) : r__is_test [v, .int R] S = some (.ok (.bl (isTest R v)) S) := by
  refine wpe ?_
  unfold r__is_test b__is_test
  rw [wp_fn]
  simp only [wp_ret, wp_stuck, wp_ifs, wp_newL, wp_var, wp_c, wp_op, wp_un, wp_tval, wp_tnot, wp_not, wp_nil, wp_cons, wp_tup, wp_lst, wp_dct, wp_call, wp_app, wp_append, wp_ixT, wp_ixL, wp_put, wp_sl, wp_pn, wp_ps, wp_slT, wp_addI, wp_addT, wp_sub, wp_mul, wp_mulT, wp_div, wp_mod, wp_pow, wp_neg, wp_cmp, wp_eqI, wp_neI, wp_eqS, wp_neS, wp_is0, wp_not0, wp_isB, wp_notB, wp_lenT, wp_lenL, wp_tupT, wp_tupL, wp_lstT, ws_next, ws_brk, ws_cont, ws_seq, ws_expr, ws_ret, ws_retN, ws_set, ws_asg, ws_put, ws_raise, ws_if, ws_for1, wp_and, wp_or, wp_tand, wp_tor, wp_ifE, wp_chain, gSlot, List.getElem?_cons_succ, List.getElem?_cons_zero, List.map_cons, List.map_nil, List.length_cons, List.length_nil, List.replicate_succ, List.replicate_zero, List.cons_append, List.nil_append, List.set_cons_succ, List.set_cons_zero, Option.some.injEq, exists_eq_left', Nat.reduceAdd, Nat.reduceSub, Nat.zero_add, Nat.add_zero, true_and, and_true, Vl.int.injEq, Vl.bl.injEq, Vl.loc.injEq, Vl.tup.injEq, exists_eq', exists_eq_left, Ob.lst.injEq, wp_of (tupof_ok h.1 (fun xs e => (h.2 xs e).1) 2), wp_ite]
  refine ⟨fun q => ?_, fun q => by rw [isTest_T q]⟩
  obtain ⟨xs, rfl, h4⟩ := isT_tup q
  obtain ⟨hl, hx⟩ := h.2 xs rfl
  simp only [wp_ret, wp_stuck, wp_ifs, wp_newL, wp_var, wp_c, wp_op, wp_un, wp_tval, wp_tnot, wp_not, wp_nil, wp_cons, wp_tup, wp_lst, wp_dct, wp_call, wp_app, wp_append, wp_ixT, wp_ixL, wp_put, wp_sl, wp_pn, wp_ps, wp_slT, wp_addI, wp_addT, wp_sub, wp_mul, wp_mulT, wp_div, wp_mod, wp_pow, wp_neg, wp_cmp, wp_eqI, wp_neI, wp_eqS, wp_neS, wp_is0, wp_not0, wp_isB, wp_notB, wp_lenT, wp_lenL, wp_tupT, wp_tupL, wp_lstT, ws_next, ws_brk, ws_cont, ws_seq, ws_expr, ws_ret, ws_retN, ws_set, ws_asg, ws_put, ws_raise, ws_if, ws_for1, wp_and, wp_or, wp_tand, wp_tor, wp_ifE, wp_chain, gSlot, List.getElem?_cons_succ, List.getElem?_cons_zero, List.map_cons, List.map_nil, List.length_cons, List.length_nil, List.replicate_succ, List.replicate_zero, List.cons_append, List.nil_append, List.set_cons_succ, List.set_cons_zero, Option.some.injEq, exists_eq_left', Nat.reduceAdd, Nat.reduceSub, Nat.zero_add, Nat.add_zero, true_and, and_true, Vl.int.injEq, Vl.bl.injEq, Vl.loc.injEq, Vl.tup.injEq, exists_eq', exists_eq_left, Ob.lst.injEq, wp_of (rooms_ok hx R)]
  show _ = (decide ((xs.length : Int) = 2) && _)
  rw [decide_eq_true h4, Bool.true_and]
def isProg : Vl → Bool
  | .tup [.int R, .tup ss, .tup ts] => (isB 1 3 (.int R) && isU 4 (.tup ss) && isU 2 (.tup ts)) && (ss.all (isStep R) && ts.all (isTest R))
  | _ => false
theorem isProg_of {r s t : Vl} (h : isB 1 3 r = false ∨ isU 4 s = false ∨ isU 2 t = false) : isProg (.tup [r, s, t]) = false := by
  cases r <;> cases s <;> cases t <;> first | rfl | skip
  show ((_ && _) && _) = false
  rcases h with h | h | h <;> rw [h] <;> simp
theorem isProg_T {v : Vl} (h : isT 3 v = false) : isProg v = false := by
  unfold isProg
  split
  · cases h
  · rfl
theorem prog_ok {S v} (h : FineN S 3 v) : r_is_program [v] S = some (.ok (.bl (isProg v)) S) := by
  refine wpe ?_
  unfold r_is_program b_is_program
  rw [wp_fn]
  simp only [wp_ret, wp_stuck, wp_ifs, wp_newL, wp_var, wp_c, wp_op, wp_un, wp_tval, wp_tnot, wp_not, wp_nil, wp_cons, wp_tup, wp_lst, wp_dct, wp_call, wp_app, wp_append, wp_ixT, wp_ixL, wp_put, wp_sl, wp_pn, wp_ps, wp_slT, wp_addI, wp_addT, wp_sub, wp_mul, wp_mulT, wp_div, wp_mod, wp_pow, wp_neg, wp_cmp, wp_eqI, wp_neI, wp_eqS, wp_neS, wp_is0, wp_not0, wp_isB, wp_notB, wp_lenT, wp_lenL, wp_tupT, wp_tupL, wp_lstT, ws_next, ws_brk, ws_cont, ws_seq, ws_expr, ws_ret, ws_retN, ws_set, ws_asg, ws_put, ws_raise, ws_if, ws_for1, wp_and, wp_or, wp_tand, wp_tor, wp_ifE, wp_chain, gSlot, List.getElem?_cons_succ, List.getElem?_cons_zero, List.map_cons, List.map_nil, List.length_cons, List.length_nil, List.replicate_succ, List.replicate_zero, List.cons_append, List.nil_append, List.set_cons_succ, List.set_cons_zero, Option.some.injEq, exists_eq_left', Nat.reduceAdd, Nat.reduceSub, Nat.zero_add, Nat.add_zero, true_and, and_true, Vl.int.injEq, Vl.bl.injEq, Vl.loc.injEq, Vl.tup.injEq, exists_eq', exists_eq_left, Ob.lst.injEq, wp_of (tupof_ok h.1 (fun xs e => (h.2 xs e).1) 3), ws_ite]
  refine ⟨fun q => by rw [isProg_T (not_t q)], fun q => ?_⟩
  obtain ⟨xs, rfl, h3⟩ := isT_tup (not_f q)
  obtain ⟨hl, hx⟩ := h.2 xs rfl
  match xs, h3 with
  | [r, s, t], _ =>
    have hr := hx r (by simp)
    have hs := hx s (by simp)
    have ht := hx t (by simp)
    refine ⟨_, rfl, ?_⟩
    simp only [wp_ret, wp_stuck, wp_ifs, wp_newL, wp_var, wp_c, wp_op, wp_un, wp_tval, wp_tnot, wp_not, wp_nil, wp_cons, wp_tup, wp_lst, wp_dct, wp_call, wp_app, wp_append, wp_ixT, wp_ixL, wp_put, wp_sl, wp_pn, wp_ps, wp_slT, wp_addI, wp_addT, wp_sub, wp_mul, wp_mulT, wp_div, wp_mod, wp_pow, wp_neg, wp_cmp, wp_eqI, wp_neI, wp_eqS, wp_neS, wp_is0, wp_not0, wp_isB, wp_notB, wp_lenT, wp_lenL, wp_tupT, wp_tupL, wp_lstT, ws_next, ws_brk, ws_cont, ws_seq, ws_expr, ws_ret, ws_retN, ws_set, ws_asg, ws_put, ws_raise, ws_if, ws_for1, wp_and, wp_or, wp_tand, wp_tor, wp_ifE, wp_chain, gSlot, List.getElem?_cons_succ, List.getElem?_cons_zero, List.map_cons, List.map_nil, List.length_cons, List.length_nil, List.replicate_succ, List.replicate_zero, List.cons_append, List.nil_append, List.set_cons_succ, List.set_cons_zero, Option.some.injEq, exists_eq_left', Nat.reduceAdd, Nat.reduceSub, Nat.zero_add, Nat.add_zero, true_and, and_true, Vl.int.injEq, Vl.bl.injEq, Vl.loc.injEq, Vl.tup.injEq, exists_eq', exists_eq_left, Ob.lst.injEq, wp_of (between_ok hr.1 1 3), ws_ite]
    refine ⟨fun q => by rw [isProg_of (.inl (not_t q))], fun qr => ?_⟩
    simp only [wp_ret, wp_stuck, wp_ifs, wp_newL, wp_var, wp_c, wp_op, wp_un, wp_tval, wp_tnot, wp_not, wp_nil, wp_cons, wp_tup, wp_lst, wp_dct, wp_call, wp_app, wp_append, wp_ixT, wp_ixL, wp_put, wp_sl, wp_pn, wp_ps, wp_slT, wp_addI, wp_addT, wp_sub, wp_mul, wp_mulT, wp_div, wp_mod, wp_pow, wp_neg, wp_cmp, wp_eqI, wp_neI, wp_eqS, wp_neS, wp_is0, wp_not0, wp_isB, wp_notB, wp_lenT, wp_lenL, wp_tupT, wp_tupL, wp_lstT, ws_next, ws_brk, ws_cont, ws_seq, ws_expr, ws_ret, ws_retN, ws_set, ws_asg, ws_put, ws_raise, ws_if, ws_for1, wp_and, wp_or, wp_tand, wp_tor, wp_ifE, wp_chain, gSlot, List.getElem?_cons_succ, List.getElem?_cons_zero, List.map_cons, List.map_nil, List.length_cons, List.length_nil, List.replicate_succ, List.replicate_zero, List.cons_append, List.nil_append, List.set_cons_succ, List.set_cons_zero, Option.some.injEq, exists_eq_left', Nat.reduceAdd, Nat.reduceSub, Nat.zero_add, Nat.add_zero, true_and, and_true, Vl.int.injEq, Vl.bl.injEq, Vl.loc.injEq, Vl.tup.injEq, exists_eq', exists_eq_left, Ob.lst.injEq, wp_of (upto_ok hs.1 (fun xs e => (hs.2 xs e).1) 4), wp_of (upto_ok ht.1 (fun xs e => (ht.2 xs e).1) 2), wp_ite, ws_ite]
    obtain ⟨R, rfl⟩ : ∃ R, r = .int R := by
      have := not_f qr
      cases r <;> first | exact ⟨_, rfl⟩ | cases this
    refine ⟨fun q => ⟨fun _ => by rw [isProg_of (.inr (.inl (not_t q)))], fun z => nomatch z⟩, fun qs => ⟨fun q => by rw [isProg_of (.inr (.inr (not_t q)))], fun qt => ?_⟩⟩
    obtain ⟨ss, rfl, hs4⟩ := isU_tup (not_f qs)
    obtain ⟨ts, rfl, ht4⟩ := isU_tup (not_f qt)
    have q1 : eQuant false (eVar 2) (eCall r__is_step (aCons (eVar 4) (aCons (eVar 1) (aNil)))) [some (.tup [.int R, .tup ss, .tup ts]), some (.int R), some (.tup ss), some (.tup ts)] S = some (.ok (.bl (if false = true then ss.any (isStep R) else ss.all (isStep R))) S) :=
      wp_quantT rfl fun x q => wpe (by simp only [wp_ret, wp_stuck, wp_ifs, wp_newL, wp_var, wp_c, wp_op, wp_un, wp_tval, wp_tnot, wp_not, wp_nil, wp_cons, wp_tup, wp_lst, wp_dct, wp_call, wp_app, wp_append, wp_ixT, wp_ixL, wp_put, wp_sl, wp_pn, wp_ps, wp_slT, wp_addI, wp_addT, wp_sub, wp_mul, wp_mulT, wp_div, wp_mod, wp_pow, wp_neg, wp_cmp, wp_eqI, wp_neI, wp_eqS, wp_neS, wp_is0, wp_not0, wp_isB, wp_notB, wp_lenT, wp_lenL, wp_tupT, wp_tupL, wp_lstT, ws_next, ws_brk, ws_cont, ws_seq, ws_expr, ws_ret, ws_retN, ws_set, ws_asg, ws_put, ws_raise, ws_if, ws_for1, wp_and, wp_or, wp_tand, wp_tor, wp_ifE, wp_chain, gSlot, List.getElem?_cons_succ, List.getElem?_cons_zero, List.map_cons, List.map_nil, List.length_cons, List.length_nil, List.replicate_succ, List.replicate_zero, List.cons_append, List.nil_append, List.set_cons_succ, List.set_cons_zero, Option.some.injEq, exists_eq_left', Nat.reduceAdd, Nat.reduceSub, Nat.zero_add, Nat.add_zero, true_and, and_true, Vl.int.injEq, Vl.bl.injEq, Vl.loc.injEq, Vl.tup.injEq, exists_eq', exists_eq_left, Ob.lst.injEq, wp_of (step_ok ((hs.2 ss rfl).2 x q) R)])
    have q2 : eQuant false (eVar 3) (eCall r__is_test (aCons (eVar 4) (aCons (eVar 1) (aNil)))) [some (.tup [.int R, .tup ss, .tup ts]), some (.int R), some (.tup ss), some (.tup ts)] S = some (.ok (.bl (if false = true then ts.any (isTest R) else ts.all (isTest R))) S) :=
      wp_quantT rfl fun x q => wpe (by simp only [wp_ret, wp_stuck, wp_ifs, wp_newL, wp_var, wp_c, wp_op, wp_un, wp_tval, wp_tnot, wp_not, wp_nil, wp_cons, wp_tup, wp_lst, wp_dct, wp_call, wp_app, wp_append, wp_ixT, wp_ixL, wp_put, wp_sl, wp_pn, wp_ps, wp_slT, wp_addI, wp_addT, wp_sub, wp_mul, wp_mulT, wp_div, wp_mod, wp_pow, wp_neg, wp_cmp, wp_eqI, wp_neI, wp_eqS, wp_neS, wp_is0, wp_not0, wp_isB, wp_notB, wp_lenT, wp_lenL, wp_tupT, wp_tupL, wp_lstT, ws_next, ws_brk, ws_cont, ws_seq, ws_expr, ws_ret, ws_retN, ws_set, ws_asg, ws_put, ws_raise, ws_if, ws_for1, wp_and, wp_or, wp_tand, wp_tor, wp_ifE, wp_chain, gSlot, List.getElem?_cons_succ, List.getElem?_cons_zero, List.map_cons, List.map_nil, List.length_cons, List.length_nil, List.replicate_succ, List.replicate_zero, List.cons_append, List.nil_append, List.set_cons_succ, List.set_cons_zero, Option.some.injEq, exists_eq_left', Nat.reduceAdd, Nat.reduceSub, Nat.zero_add, Nat.add_zero, true_and, and_true, Vl.int.injEq, Vl.bl.injEq, Vl.loc.injEq, Vl.tup.injEq, exists_eq', exists_eq_left, Ob.lst.injEq, wp_of (test_ok ((ht.2 ts rfl).2 x q) R)])
    rw [if_neg (by decide)] at q1 q2
    simp only [wp_ret, wp_stuck, wp_ifs, wp_newL, wp_var, wp_c, wp_op, wp_un, wp_tval, wp_tnot, wp_not, wp_nil, wp_cons, wp_tup, wp_lst, wp_dct, wp_call, wp_app, wp_append, wp_ixT, wp_ixL, wp_put, wp_sl, wp_pn, wp_ps, wp_slT, wp_addI, wp_addT, wp_sub, wp_mul, wp_mulT, wp_div, wp_mod, wp_pow, wp_neg, wp_cmp, wp_eqI, wp_neI, wp_eqS, wp_neS, wp_is0, wp_not0, wp_isB, wp_notB, wp_lenT, wp_lenL, wp_tupT, wp_tupL, wp_lstT, ws_next, ws_brk, ws_cont, ws_seq, ws_expr, ws_ret, ws_retN, ws_set, ws_asg, ws_put, ws_raise, ws_if, ws_for1, wp_and, wp_or, wp_tand, wp_tor, wp_ifE, wp_chain, gSlot, List.getElem?_cons_succ, List.getElem?_cons_zero, List.map_cons, List.map_nil, List.length_cons, List.length_nil, List.replicate_succ, List.replicate_zero, List.cons_append, List.nil_append, List.set_cons_succ, List.set_cons_zero, Option.some.injEq, exists_eq_left', Nat.reduceAdd, Nat.reduceSub, Nat.zero_add, Nat.add_zero, true_and, and_true, Vl.int.injEq, Vl.bl.injEq, Vl.loc.injEq, Vl.tup.injEq, exists_eq', exists_eq_left, Ob.lst.injEq, wp_of q1, wp_of q2, wp_ite]
    have e0 : isProg (.tup [.int R, .tup ss, .tup ts]) = (ss.all (isStep R) && ts.all (isTest R)) := by
      show ((_ && _ && _) && _) = _
      rw [not_f qr, not_f qs, not_f qt]
      rfl
    rw [e0]
    exact ⟨fun q => by rw [q, Bool.true_and], fun q => by rw [q, Bool.false_and]⟩
theorem check_ok {S v} (h : FineN S 3 v) {Q : Vl → Store → Prop} {E : Str → Store → Prop} (h1 : isProg v = true → Q .non S) (h2 : isProg v = false → E "BadProgram" S) : Wp (r_check_program [v]) S Q E := by
  unfold r_check_program b_check_program
  rw [wp_fn]
  simp only [wp_ret, wp_stuck, wp_ifs, wp_newL, wp_var, wp_c, wp_op, wp_un, wp_tval, wp_tnot, wp_not, wp_nil, wp_cons, wp_tup, wp_lst, wp_dct, wp_call, wp_app, wp_append, wp_ixT, wp_ixL, wp_put, wp_sl, wp_pn, wp_ps, wp_slT, wp_addI, wp_addT, wp_sub, wp_mul, wp_mulT, wp_div, wp_mod, wp_pow, wp_neg, wp_cmp, wp_eqI, wp_neI, wp_eqS, wp_neS, wp_is0, wp_not0, wp_isB, wp_notB, wp_lenT, wp_lenL, wp_tupT, wp_tupL, wp_lstT, ws_next, ws_brk, ws_cont, ws_seq, ws_expr, ws_ret, ws_retN, ws_set, ws_asg, ws_put, ws_raise, ws_if, ws_for1, wp_and, wp_or, wp_tand, wp_tor, wp_ifE, wp_chain, gSlot, List.getElem?_cons_succ, List.getElem?_cons_zero, List.map_cons, List.map_nil, List.length_cons, List.length_nil, List.replicate_succ, List.replicate_zero, List.cons_append, List.nil_append, List.set_cons_succ, List.set_cons_zero, Option.some.injEq, exists_eq_left', Nat.reduceAdd, Nat.reduceSub, Nat.zero_add, Nat.add_zero, true_and, and_true, Vl.int.injEq, Vl.bl.injEq, Vl.loc.injEq, Vl.tup.injEq, exists_eq', exists_eq_left, Ob.lst.injEq, wp_of (prog_ok h), ws_ite]
  exact ⟨fun q => h2 (not_t q), fun q => h1 (not_f q)⟩
end LW
end Tw
end

section
set_option Elab.async false
set_option maxRecDepth 100000
set_option maxHeartbeats 3000000
set_option linter.all false
namespace Tw
namespace LW
open PySem L2
/-! ### data that can be shown -/
def Rp (S : Store) (k n : Nat) (db lb : Bool) (v : Vl) : Prop := (∀ j, FineN S j v) ∧ ∃ d, pdr S v = some d ∧ d.showable = true ∧ shB d ≤ n ∧ d.depth ≤ k ∧ (db = false → d.hasDict = false) ∧ (lb = false → nol d = true)
def R0 (k n : Nat) (v : Vl) : Prop := ∃ d, pd0 v = some d ∧ (∀ S, pdr S v = some d ∧ ∀ j, FineN S j v) ∧ d.showable = true ∧ shB d ≤ n ∧ d.depth ≤ k ∧ d.hasDict = false ∧ nol d = true
theorem R0.mono {k n k' n' v} (h : R0 k n v) (hk : k ≤ k') (hn : n ≤ n') : R0 k' n' v := by
  obtain ⟨d, h1, h2, h3, h4, h5, h6⟩ := h
  exact ⟨d, h1, h2, h3, Nat.le_trans h4 hn, Nat.le_trans h5 hk, h6⟩
theorem R0.rp {k n v} (h : R0 k n v) (S : Store) (db lb : Bool) : Rp S k n db lb v := by
  obtain ⟨d, h1, h2, h3, h4, h5, h6, h7⟩ := h
  exact ⟨(h2 S).2, d, (h2 S).1, h3, h4, h5, fun _ => h6, fun _ => h7⟩
theorem Rp.mono {S k n k' n' db lb v} (h : Rp S k n db lb v) (hk : k ≤ k') (hn : n ≤ n') : Rp S k' n' db lb v := by
  obtain ⟨h0, d, h1, h3, h4, h5, h6⟩ := h
  exact ⟨h0, d, h1, h3, Nat.le_trans h4 hn, Nat.le_trans h5 hk, h6⟩
theorem fine_atom {S : Store} {v : Vl} (h : Fine S v) (hv : isTp v = false) : ∀ j, FineN S j v
  | 0 => h
  | _ + 1 => ⟨h, fun xs e => by subst e; cases hv⟩
theorem r0_int {i : Int} (h0 : -1267650600228229401496703205376 < i) (h : i < 1267650600228229401496703205376) : R0 1 103 (.int i) := by
  have hl : i.natAbs.log2 < 100 := lgb (by have : (2:Nat) ^ 100 = 1267650600228229401496703205376 := rfl; omega) (by omega)
  refine ⟨.int i, rfl, fun S => ⟨rfl, fine_atom rfl rfl⟩, decide_eq_true (by omega), ?_, Nat.zero_le _, rfl, rfl⟩
  show i.natAbs.log2 + 3 ≤ 103
  omega
theorem r0_non : R0 1 103 .non := ⟨_, rfl, fun S => ⟨rfl, fine_atom rfl rfl⟩, rfl, by decide, Nat.zero_le _, rfl, rfl⟩
theorem r0_bl {b : Bool} : R0 1 103 (.bl b) := ⟨_, rfl, fun S => ⟨rfl, fine_atom rfl rfl⟩, rfl, (by show 5 ≤ 103; decide), Nat.zero_le _, rfl, rfl⟩
theorem r0_str {x : Str} (h : (reprText x).length ≤ 103) : R0 1 103 (.str x) := ⟨_, rfl, fun S => ⟨rfl, fine_atom rfl rfl⟩, rfl, h, Nat.zero_le _, rfl, rfl⟩
theorem fine_tup {S : Store} {xs : List Vl} (hl : xs.length ≤ line) (h : ∀ x ∈ xs, ∀ j, FineN S j x) : ∀ j, FineN S j (.tup xs)
  | 0 => rfl
  | j + 1 => ⟨rfl, fun ys e => by cases e; exact ⟨hl, fun x hx => h x hx j⟩⟩
theorem r0_all {k n : Nat} : ∀ {xs : List Vl}, (∀ x ∈ xs, R0 k n x) → ∃ ds, pds0 xs = some ds ∧ (∀ S, pdrs S xs = some ds) ∧ PyData.showableAll ds = true ∧ shBs ds ≤ (n + 2) * xs.length ∧ PyData.depthAll ds ≤ k ∧ PyData.hasDictAll ds = false ∧ nols ds = true
  | [], _ => ⟨[], rfl, fun _ => rfl, rfl, Nat.zero_le _, Nat.zero_le _, rfl, rfl⟩
  | x :: xs, h => by
    obtain ⟨d, a1, a2, a3, a4, a5, a6, a7⟩ := h x List.mem_cons_self
    obtain ⟨ds, b1, b2, b3, b4, b5, b6, b7⟩ := r0_all (xs := xs) fun y hy => h y (List.mem_cons_of_mem _ hy)
    refine ⟨d :: ds, by simp [pds0, a1, b1], fun S => by simp [pdrs, (a2 S).1, b2 S], ?_, ?_, ?_, ?_, ?_⟩
    · simp [PyData.showableAll, a3, b3]
    · simp only [shBs, List.length_cons, Nat.mul_add]; omega
    · simp only [PyData.depthAll]; omega
    · simp [PyData.hasDictAll, a6, b6]
    · simp [nols, a7, b7]
theorem rp_all {S : Store} {k n : Nat} {db lb : Bool} : ∀ {xs : List Vl}, (∀ x ∈ xs, Rp S k n db lb x) → ∃ ds, pdrs S xs = some ds ∧ PyData.showableAll ds = true ∧ shBs ds ≤ (n + 2) * xs.length ∧ PyData.depthAll ds ≤ k ∧ (db = false → PyData.hasDictAll ds = false) ∧ (lb = false → nols ds = true)
  | [], _ => ⟨[], rfl, rfl, Nat.zero_le _, Nat.zero_le _, fun _ => rfl, fun _ => rfl⟩
  | x :: xs, h => by
    obtain ⟨_, d, a2, a3, a4, a5, a6, a7⟩ := h x List.mem_cons_self
    obtain ⟨ds, b2, b3, b4, b5, b6, b7⟩ := rp_all (xs := xs) fun y hy => h y (List.mem_cons_of_mem _ hy)
    refine ⟨d :: ds, by simp [pdrs, a2, b2], ?_, ?_, ?_, fun q => ?_, fun q => ?_⟩
    · simp [PyData.showableAll, a3, b3]
    · simp only [shBs, List.length_cons, Nat.mul_add]; omega
    · simp only [PyData.depthAll]; omega
    · simp [PyData.hasDictAll, a6 q, b6 q]
    · simp [nols, a7 q, b7 q]
theorem mul_le {n m : Nat} {xs : List Vl} (h : xs.length ≤ m) : (n + 2) * xs.length ≤ (n + 2) * m := Nat.mul_le_mul_left _ h
theorem r0_tup {k n : Nat} {xs : List Vl} (m : Nat) (h : ∀ x ∈ xs, R0 k n x) (hm : xs.length ≤ m) (hl : m ≤ 1000) : R0 (k + 1) ((n + 2) * m + 3) (.tup xs) := by
  obtain ⟨ds, b1, b2, b3, b4, b5, b6, b7⟩ := r0_all h
  have hL : m ≤ line := Nat.le_trans hl (by decide)
  refine ⟨.tuple ds, by simp [pd0, b1], fun S => ⟨by simp [pdr, b2 S], fine_tup (Nat.le_trans hm hL) fun x hx => by obtain ⟨_, _, q, _⟩ := h x hx; exact (q S).2⟩, b3, ?_, ?_, b6, b7⟩
  · show shBs ds + 3 ≤ _
    have := mul_le (n := n) hm
    omega
  · simp only [PyData.depth]; omega
theorem rp_tup {S : Store} {k n : Nat} {db lb : Bool} {xs : List Vl} (m : Nat) (h : ∀ x ∈ xs, Rp S k n db lb x) (hm : xs.length ≤ m) (hl : m ≤ 1000) : Rp S (k + 1) ((n + 2) * m + 3) db lb (.tup xs) := by
  obtain ⟨ds, b2, b3, b4, b5, b6, b7⟩ := rp_all h
  have hL : m ≤ line := Nat.le_trans hl (by decide)
  refine ⟨fine_tup (Nat.le_trans hm hL) fun x hx => (h x hx).1, .tuple ds, by simp [pdr, b2], b3, ?_, ?_, b6, b7⟩
  · show shBs ds + 3 ≤ _
    have := mul_le (n := n) hm
    omega
  · simp only [PyData.depth]; omega
theorem rp_lst {S : Store} {l : Nat} {k n : Nat} {xs : List Vl} (m : Nat) (e : S[l]? = some (.lst xs)) (h : ∀ x ∈ xs, R0 k n x) (hm : xs.length ≤ m) : Rp S (k + 1) ((n + 2) * m + 3) false true (.loc l) := by
  obtain ⟨ds, b1, b2, b3, b4, b5, b6, b7⟩ := r0_all h
  refine ⟨fine_atom (by show (tyN S (.loc l)).isSome = true; simp [tyN, e]) rfl, .list ds, by simp [pdr, e, b1], b3, ?_, ?_, fun _ => b6, fun z => nomatch z⟩
  · show shBs ds + 3 ≤ _
    have := mul_le (n := n) hm
    omega
  · simp only [PyData.depth]; omega
theorem rp_dct {S : Store} {l : Nat} (e : S[l]? = some .dct) : Rp S 2 103 true false (.loc l) :=
  ⟨fine_atom (by show (tyN S (.loc l)).isSome = true; simp [tyN, e]) rfl, .dict [], by simp [pdr, e], rfl, by decide +kernel, by decide, fun z => (nomatch z), fun _ => rfl⟩
theorem rp_ok {S : Store} {k n : Nat} {db lb : Bool} {v : Vl} (h : Rp S k n db lb v) (hk : k ≤ 60) (hn : n ≤ 16777216) (hb : db = false ∨ lb = false) : ∃ d, pdr S v = some d ∧ okR d := by
  obtain ⟨_, d, h1, h3, h4, h5, h6, h7⟩ := h
  exact ⟨d, h1, h3, Nat.le_trans h4 hn, Nat.le_trans h5 hk, hb.elim (fun z => .inl (h6 z)) fun z => .inr (h7 z)⟩
/-! ### right programs -/
theorem r0_step {R : Int} {v : Vl} (h : StepOk R v) (hR : R ≤ 3) : R0 2 423 v := by
  obtain ⟨a, b, x, y, rfl, h1, h2, h3, h4⟩ := h
  refine r0_tup (k := 1) (n := 103) (xs := [.int a, .int b, .int x, .int y]) 4 (fun z hz => ?_) (Nat.le_refl 4) (by decide)
  simp only [List.mem_cons, List.not_mem_nil, or_false] at hz
  rcases hz with rfl | rfl | rfl | rfl <;> exact r0_int (by omega) (by omega)
theorem r0_test {R : Int} {v : Vl} (h : TestOk R v) (hR : R ≤ 3) : R0 2 423 v := by
  obtain ⟨a, b, rfl, h1, h2⟩ := h
  refine (r0_tup (k := 1) (n := 103) (xs := [.int a, .int b]) 2 (fun z hz => ?_) (Nat.le_refl 2) (by decide)).mono (by decide) (by decide)
  simp only [List.mem_cons, List.not_mem_nil, or_false] at hz
  rcases hz with rfl | rfl <;> exact r0_int (by omega) (by omega)
theorem r0_prog {R : Int} {ss ts : List Vl} (h : ProgOk R ss ts) : R0 1 103 (.int R) ∧ R0 3 1703 (.tup ss) ∧ R0 3 1703 (.tup ts) := by
  obtain ⟨⟨h1, h2⟩, h3, h4, h5, h6⟩ := h
  exact ⟨r0_int (by omega) (by omega), r0_tup 4 (fun x hx => r0_step (h5 x hx) h2) h3 (by decide), (r0_tup 2 (fun x hx => r0_test (h6 x hx) h2) h4 (by decide)).mono (by decide) (by decide)⟩
theorem bI {lo hi i : Int} (h1 : lo ≤ i) (h2 : i ≤ hi) : isB lo hi (.int i) = true := by simp [isB, h1, h2]
theorem step_right {R : Int} {v : Vl} (h : StepOk R v) : isStep R v = true := by
  obtain ⟨a, b, x, y, rfl, h1, h2, h3, h4⟩ := h
  show (true && (([Vl.int a, .int b]).all (isB 0 (R - 1)) && ([Vl.int x, .int y]).all (isB (-2) 2))) = true
  simp only [List.all_cons, List.all_nil, bI h1.1 (Int.le_sub_one_of_lt h1.2), bI h2.1 (Int.le_sub_one_of_lt h2.2), bI h3.1 h3.2, bI h4.1 h4.2]
  rfl
theorem test_right {R : Int} {v : Vl} (h : TestOk R v) : isTest R v = true := by
  obtain ⟨a, b, rfl, h1, h2⟩ := h
  show (true && ([Vl.int a, .int b]).all (isB 0 (R - 1))) = true
  simp only [List.all_cons, List.all_nil, bI h1.1 (Int.le_sub_one_of_lt h1.2), bI h2.1 (Int.le_sub_one_of_lt h2.2)]
  rfl
theorem prog_right {R : Int} {ss ts : List Vl} (h : ProgOk R ss ts) : isProg (.tup [.int R, .tup ss, .tup ts]) = true := by
  obtain ⟨⟨h1, h2⟩, h3, h4, h5, h6⟩ := h
  show ((isB 1 3 (.int R) && decide ((ss.length : Int) ≤ 4) && decide ((ts.length : Int) ≤ 2)) && (ss.all (isStep R) && ts.all (isTest R))) = true
  rw [bI h1 h2, decide_eq_true (by omega), decide_eq_true (by omega), List.all_eq_true.mpr fun x hx => step_right (h5 x hx), List.all_eq_true.mpr fun x hx => test_right (h6 x hx)]
  rfl
end LW
end Tw
end

section
set_option Elab.async false
set_option maxRecDepth 100000
set_option maxHeartbeats 3000000
set_option linter.all false
namespace Tw
namespace LW
open PySem L2
theorem FineN.up {S S' : Store} (h : S.length ≤ S'.length) : ∀ {j : Nat} {v : Vl}, FineN S j v → FineN S' j v := by
  have h0 : ∀ {v : Vl}, Fine S v → Fine S' v := fun {v} q => by
    cases v with
    | loc n =>
      have hn : n < S.length := by
        rcases loc_ty q with e | e
        all_goals
          cases z : S[n]? with
          | none => simp [tyN, z] at e
          | some o => exact (List.getElem?_eq_some_iff.mp z).1
      have hn' : n < S'.length := by omega
      show (tyN S' (.loc n)).isSome = true
      have e : tyN S' (.loc n) = match S'[n]? with | some (.lst _) => some "list" | some .dct => some "dict" | none => none := rfl
      rw [e, List.getElem?_eq_getElem hn']
      cases S'[n] <;> rfl
    | _ => exact q
  intro j
  induction j with
  | zero => intro v q; exact h0 q
  | succ j ih => intro v q; exact ⟨h0 q.1, fun xs e => ⟨(q.2 xs e).1, fun x hx => ih ((q.2 xs e).2 x hx)⟩⟩
def isC : Vl → Bool
  | .int i => decide (0 ≤ i)
  | _ => false
theorem isC_I {v : Vl} (h : isI v = false) : isC v = false := by cases v <;> first | rfl | cases h
theorem count_ok {S v} (h : Fine S v) : r_is_count [v] S = some (.ok (.bl (isC v)) S) := by
  refine wpe ?_
  unfold r_is_count b_is_count
  rw [wp_fn]
  simp only [wp_ret, wp_stuck, wp_ifs, wp_newL, wp_var, wp_c, wp_op, wp_un, wp_tval, wp_tnot, wp_not, wp_nil, wp_cons, wp_tup, wp_lst, wp_dct, wp_call, wp_app, wp_append, wp_ixT, wp_ixL, wp_put, wp_sl, wp_pn, wp_ps, wp_slT, wp_addI, wp_addT, wp_sub, wp_mul, wp_mulT, wp_div, wp_mod, wp_pow, wp_neg, wp_cmp, wp_eqI, wp_neI, wp_eqS, wp_neS, wp_is0, wp_not0, wp_isB, wp_notB, wp_lenT, wp_lenL, wp_tupT, wp_tupL, wp_lstT, ws_next, ws_brk, ws_cont, ws_seq, ws_expr, ws_ret, ws_retN, ws_set, ws_asg, ws_put, ws_raise, ws_if, ws_for1, wp_and, wp_or, wp_tand, wp_tor, wp_ifE, wp_chain, gSlot, List.getElem?_cons_succ, List.getElem?_cons_zero, List.map_cons, List.map_nil, List.length_cons, List.length_nil, List.replicate_succ, List.replicate_zero, List.cons_append, List.nil_append, List.set_cons_succ, List.set_cons_zero, Option.some.injEq, exists_eq_left', Nat.reduceAdd, Nat.reduceSub, Nat.zero_add, Nat.add_zero, true_and, and_true, Vl.int.injEq, Vl.bl.injEq, Vl.loc.injEq, Vl.tup.injEq, exists_eq', exists_eq_left, Ob.lst.injEq, wp_of (int_ok h), wp_ite]
  refine ⟨fun q => ?_, fun q => by simp [isC_I q]⟩
  obtain ⟨i, rfl⟩ := isI_int q
  simp only [wp_ret, wp_stuck, wp_ifs, wp_newL, wp_var, wp_c, wp_op, wp_un, wp_tval, wp_tnot, wp_not, wp_nil, wp_cons, wp_tup, wp_lst, wp_dct, wp_call, wp_app, wp_append, wp_ixT, wp_ixL, wp_put, wp_sl, wp_pn, wp_ps, wp_slT, wp_addI, wp_addT, wp_sub, wp_mul, wp_mulT, wp_div, wp_mod, wp_pow, wp_neg, wp_cmp, wp_eqI, wp_neI, wp_eqS, wp_neS, wp_is0, wp_not0, wp_isB, wp_notB, wp_lenT, wp_lenL, wp_tupT, wp_tupL, wp_lstT, ws_next, ws_brk, ws_cont, ws_seq, ws_expr, ws_ret, ws_retN, ws_set, ws_asg, ws_put, ws_raise, ws_if, ws_for1, wp_and, wp_or, wp_tand, wp_tor, wp_ifE, wp_chain, gSlot, List.getElem?_cons_succ, List.getElem?_cons_zero, List.map_cons, List.map_nil, List.length_cons, List.length_nil, List.replicate_succ, List.replicate_zero, List.cons_append, List.nil_append, List.set_cons_succ, List.set_cons_zero, Option.some.injEq, exists_eq_left', Nat.reduceAdd, Nat.reduceSub, Nat.zero_add, Nat.add_zero, true_and, and_true, Vl.int.injEq, Vl.bl.injEq, Vl.loc.injEq, Vl.tup.injEq, exists_eq', exists_eq_left, Ob.lst.injEq]
  rfl
def isPlace (R : Int) : Vl → Bool
  | .tup [r, a, b] => isB 0 (R - 1) r && (isC a && isC b)
  | _ => false
theorem isPlace_T {R : Int} {v : Vl} (h : isT 3 v = false) : isPlace R v = false := by
  unfold isPlace
  split
  · cases h
  · rfl
theorem place_ok {S v} (h : FineN S 1 v) (R : Int) : r_is_place [v, .int R] S = some (.ok (.bl (isPlace R v)) S) := by
  refine wpe ?_
  unfold r_is_place b_is_place
  rw [wp_fn]
  simp only [wp_ret, wp_stuck, wp_ifs, wp_newL, wp_var, wp_c, wp_op, wp_un, wp_tval, wp_tnot, wp_not, wp_nil, wp_cons, wp_tup, wp_lst, wp_dct, wp_call, wp_app, wp_append, wp_ixT, wp_ixL, wp_put, wp_sl, wp_pn, wp_ps, wp_slT, wp_addI, wp_addT, wp_sub, wp_mul, wp_mulT, wp_div, wp_mod, wp_pow, wp_neg, wp_cmp, wp_eqI, wp_neI, wp_eqS, wp_neS, wp_is0, wp_not0, wp_isB, wp_notB, wp_lenT, wp_lenL, wp_tupT, wp_tupL, wp_lstT, ws_next, ws_brk, ws_cont, ws_seq, ws_expr, ws_ret, ws_retN, ws_set, ws_asg, ws_put, ws_raise, ws_if, ws_for1, wp_and, wp_or, wp_tand, wp_tor, wp_ifE, wp_chain, gSlot, List.getElem?_cons_succ, List.getElem?_cons_zero, List.map_cons, List.map_nil, List.length_cons, List.length_nil, List.replicate_succ, List.replicate_zero, List.cons_append, List.nil_append, List.set_cons_succ, List.set_cons_zero, Option.some.injEq, exists_eq_left', Nat.reduceAdd, Nat.reduceSub, Nat.zero_add, Nat.add_zero, true_and, and_true, Vl.int.injEq, Vl.bl.injEq, Vl.loc.injEq, Vl.tup.injEq, exists_eq', exists_eq_left, Ob.lst.injEq, wp_of (tupof_ok h.1 (fun xs e => (h.2 xs e).1) 3), ws_ite]
  refine ⟨fun q => by rw [isPlace_T (not_t q)], fun q => ?_⟩
  obtain ⟨xs, rfl, h3⟩ := isT_tup (not_f q)
  obtain ⟨hl, hx⟩ := h.2 xs rfl
  match xs, h3 with
  | [r, s, t], _ =>
    refine ⟨_, rfl, ?_⟩
    simp only [wp_ret, wp_stuck, wp_ifs, wp_newL, wp_var, wp_c, wp_op, wp_un, wp_tval, wp_tnot, wp_not, wp_nil, wp_cons, wp_tup, wp_lst, wp_dct, wp_call, wp_app, wp_append, wp_ixT, wp_ixL, wp_put, wp_sl, wp_pn, wp_ps, wp_slT, wp_addI, wp_addT, wp_sub, wp_mul, wp_mulT, wp_div, wp_mod, wp_pow, wp_neg, wp_cmp, wp_eqI, wp_neI, wp_eqS, wp_neS, wp_is0, wp_not0, wp_isB, wp_notB, wp_lenT, wp_lenL, wp_tupT, wp_tupL, wp_lstT, ws_next, ws_brk, ws_cont, ws_seq, ws_expr, ws_ret, ws_retN, ws_set, ws_asg, ws_put, ws_raise, ws_if, ws_for1, wp_and, wp_or, wp_tand, wp_tor, wp_ifE, wp_chain, gSlot, List.getElem?_cons_succ, List.getElem?_cons_zero, List.map_cons, List.map_nil, List.length_cons, List.length_nil, List.replicate_succ, List.replicate_zero, List.cons_append, List.nil_append, List.set_cons_succ, List.set_cons_zero, Option.some.injEq, exists_eq_left', Nat.reduceAdd, Nat.reduceSub, Nat.zero_add, Nat.add_zero, true_and, and_true, Vl.int.injEq, Vl.bl.injEq, Vl.loc.injEq, Vl.tup.injEq, exists_eq', exists_eq_left, Ob.lst.injEq, wp_of (between_ok (hx r (by simp)) 0 (R - 1)), wp_of (count_ok (hx s (by simp))), wp_of (count_ok (hx t (by simp))), wp_ite]
    show _ ∧ _
    have e0 : isPlace R (.tup [r, s, t]) = (isB 0 (R - 1) r && (isC s && isC t)) := rfl
    rw [e0]
    exact ⟨fun q => ⟨fun q2 => by rw [q, q2, Bool.true_and, Bool.true_and], fun q2 => by rw [q, q2]; rfl⟩, fun q => by rw [q, Bool.false_and]⟩
theorem cplace_ok {S v} {R : Int} (h : FineN S 1 v) {Q : Vl → Store → Prop} {E : Str → Store → Prop} (h1 : isPlace R v = true → Q .non S) (h2 : isPlace R v = false → E "BadStanding" S) : Wp (r_check_place [v, .int R]) S Q E := by
  unfold r_check_place b_check_place
  rw [wp_fn]
  simp only [wp_ret, wp_stuck, wp_ifs, wp_newL, wp_var, wp_c, wp_op, wp_un, wp_tval, wp_tnot, wp_not, wp_nil, wp_cons, wp_tup, wp_lst, wp_dct, wp_call, wp_app, wp_append, wp_ixT, wp_ixL, wp_put, wp_sl, wp_pn, wp_ps, wp_slT, wp_addI, wp_addT, wp_sub, wp_mul, wp_mulT, wp_div, wp_mod, wp_pow, wp_neg, wp_cmp, wp_eqI, wp_neI, wp_eqS, wp_neS, wp_is0, wp_not0, wp_isB, wp_notB, wp_lenT, wp_lenL, wp_tupT, wp_tupL, wp_lstT, ws_next, ws_brk, ws_cont, ws_seq, ws_expr, ws_ret, ws_retN, ws_set, ws_asg, ws_put, ws_raise, ws_if, ws_for1, wp_and, wp_or, wp_tand, wp_tor, wp_ifE, wp_chain, gSlot, List.getElem?_cons_succ, List.getElem?_cons_zero, List.map_cons, List.map_nil, List.length_cons, List.length_nil, List.replicate_succ, List.replicate_zero, List.cons_append, List.nil_append, List.set_cons_succ, List.set_cons_zero, Option.some.injEq, exists_eq_left', Nat.reduceAdd, Nat.reduceSub, Nat.zero_add, Nat.add_zero, true_and, and_true, Vl.int.injEq, Vl.bl.injEq, Vl.loc.injEq, Vl.tup.injEq, exists_eq', exists_eq_left, Ob.lst.injEq, wp_of (place_ok h R), ws_ite]
  exact ⟨fun q => h2 (not_t q), fun q => h1 (not_f q)⟩
theorem isProg_form {v : Vl} (h : isProg v = true) : ∃ R ss ts, v = .tup [.int R, .tup ss, .tup ts] := by
  unfold isProg at h
  split at h
  · exact ⟨_, _, _, rfl⟩
  · cases h
theorem cstand_ok {S p v} (hp : FineN S 3 p) (hv : FineN S 1 v) {Q : Vl → Store → Prop} {E : Str → Store → Prop} (h0 : isProg p = false → E "BadProgram" S) (h1 : ∀ R ss ts, p = .tup [.int R, .tup ss, .tup ts] → isProg p = true → isPlace R v = true → Q .non S)
    (h2 : ∀ R ss ts, p = .tup [.int R, .tup ss, .tup ts] → isProg p = true → isPlace R v = false → E "BadStanding" S) : Wp (r_check_standing [p, v]) S Q E := by
  unfold r_check_standing b_check_standing
  rw [wp_fn]
  simp only [wp_ret, wp_stuck, wp_ifs, wp_newL, wp_var, wp_c, wp_op, wp_un, wp_tval, wp_tnot, wp_not, wp_nil, wp_cons, wp_tup, wp_lst, wp_dct, wp_call, wp_app, wp_append, wp_ixT, wp_ixL, wp_put, wp_sl, wp_pn, wp_ps, wp_slT, wp_addI, wp_addT, wp_sub, wp_mul, wp_mulT, wp_div, wp_mod, wp_pow, wp_neg, wp_cmp, wp_eqI, wp_neI, wp_eqS, wp_neS, wp_is0, wp_not0, wp_isB, wp_notB, wp_lenT, wp_lenL, wp_tupT, wp_tupL, wp_lstT, ws_next, ws_brk, ws_cont, ws_seq, ws_expr, ws_ret, ws_retN, ws_set, ws_asg, ws_put, ws_raise, ws_if, ws_for1, wp_and, wp_or, wp_tand, wp_tor, wp_ifE, wp_chain, gSlot, List.getElem?_cons_succ, List.getElem?_cons_zero, List.map_cons, List.map_nil, List.length_cons, List.length_nil, List.replicate_succ, List.replicate_zero, List.cons_append, List.nil_append, List.set_cons_succ, List.set_cons_zero, Option.some.injEq, exists_eq_left', Nat.reduceAdd, Nat.reduceSub, Nat.zero_add, Nat.add_zero, true_and, and_true, Vl.int.injEq, Vl.bl.injEq, Vl.loc.injEq, Vl.tup.injEq, exists_eq', exists_eq_left, Ob.lst.injEq]
  refine check_ok hp (fun q => ?_) h0
  obtain ⟨R, ss, ts, rfl⟩ := isProg_form q
  have a0 : atI [Vl.int R, .tup ss, .tup ts] 0 = some (.int R) := rfl
  simp only [wp_ret, wp_stuck, wp_ifs, wp_newL, wp_var, wp_c, wp_op, wp_un, wp_tval, wp_tnot, wp_not, wp_nil, wp_cons, wp_tup, wp_lst, wp_dct, wp_call, wp_app, wp_append, wp_ixT, wp_ixL, wp_put, wp_sl, wp_pn, wp_ps, wp_slT, wp_addI, wp_addT, wp_sub, wp_mul, wp_mulT, wp_div, wp_mod, wp_pow, wp_neg, wp_cmp, wp_eqI, wp_neI, wp_eqS, wp_neS, wp_is0, wp_not0, wp_isB, wp_notB, wp_lenT, wp_lenL, wp_tupT, wp_tupL, wp_lstT, ws_next, ws_brk, ws_cont, ws_seq, ws_expr, ws_ret, ws_retN, ws_set, ws_asg, ws_put, ws_raise, ws_if, ws_for1, wp_and, wp_or, wp_tand, wp_tor, wp_ifE, wp_chain, gSlot, List.getElem?_cons_succ, List.getElem?_cons_zero, List.map_cons, List.map_nil, List.length_cons, List.length_nil, List.replicate_succ, List.replicate_zero, List.cons_append, List.nil_append, List.set_cons_succ, List.set_cons_zero, Option.some.injEq, exists_eq_left', Nat.reduceAdd, Nat.reduceSub, Nat.zero_add, Nat.add_zero, true_and, and_true, Vl.int.injEq, Vl.bl.injEq, Vl.loc.injEq, Vl.tup.injEq, exists_eq', exists_eq_left, Ob.lst.injEq, a0]
  exact cplace_ok hv (h1 R ss ts rfl q) (h2 R ss ts rfl q)
theorem told_ok {S p v} (hp : FineN S 3 p) (hv : FineN S 1 v) : r__law_told [p, v] S = some (.ok (.str (if isProg p = false then "program" else match p with | .tup (.int R :: _) => if isPlace R v = true then "right" else "standing" | _ => "")) S) := by
  refine wpe ?_
  unfold r__law_told b__law_told
  rw [wp_fn]
  simp only [wp_ret, wp_stuck, wp_ifs, wp_newL, wp_var, wp_c, wp_op, wp_un, wp_tval, wp_tnot, wp_not, wp_nil, wp_cons, wp_tup, wp_lst, wp_dct, wp_call, wp_app, wp_append, wp_ixT, wp_ixL, wp_put, wp_sl, wp_pn, wp_ps, wp_slT, wp_addI, wp_addT, wp_sub, wp_mul, wp_mulT, wp_div, wp_mod, wp_pow, wp_neg, wp_cmp, wp_eqI, wp_neI, wp_eqS, wp_neS, wp_is0, wp_not0, wp_isB, wp_notB, wp_lenT, wp_lenL, wp_tupT, wp_tupL, wp_lstT, ws_next, ws_brk, ws_cont, ws_seq, ws_expr, ws_ret, ws_retN, ws_set, ws_asg, ws_put, ws_raise, ws_if, ws_for1, wp_and, wp_or, wp_tand, wp_tor, wp_ifE, wp_chain, gSlot, List.getElem?_cons_succ, List.getElem?_cons_zero, List.map_cons, List.map_nil, List.length_cons, List.length_nil, List.replicate_succ, List.replicate_zero, List.cons_append, List.nil_append, List.set_cons_succ, List.set_cons_zero, Option.some.injEq, exists_eq_left', Nat.reduceAdd, Nat.reduceSub, Nat.zero_add, Nat.add_zero, true_and, and_true, Vl.int.injEq, Vl.bl.injEq, Vl.loc.injEq, Vl.tup.injEq, exists_eq', exists_eq_left, Ob.lst.injEq]
  have et : ∀ b t h t2 h2 ρ S D, Ws (sTry b [(t, h), (t2, h2)] ρ S) D ↔ Ws (b ρ S) { D with er := fun c ρ1 S1 => Ws (hand [(t, h), (t2, h2)] c ρ1 S1) D } := fun b t h t2 h2 ρ S D => by
    unfold sTry
    cases q : b ρ S with
    | none => rfl
    | some r => cases r with
      | ok f S1 => cases f <;> rfl
      | er c ρ1 S1 => rfl
  rw [et]
  simp only [wp_ret, wp_stuck, wp_ifs, wp_newL, wp_var, wp_c, wp_op, wp_un, wp_tval, wp_tnot, wp_not, wp_nil, wp_cons, wp_tup, wp_lst, wp_dct, wp_call, wp_app, wp_append, wp_ixT, wp_ixL, wp_put, wp_sl, wp_pn, wp_ps, wp_slT, wp_addI, wp_addT, wp_sub, wp_mul, wp_mulT, wp_div, wp_mod, wp_pow, wp_neg, wp_cmp, wp_eqI, wp_neI, wp_eqS, wp_neS, wp_is0, wp_not0, wp_isB, wp_notB, wp_lenT, wp_lenL, wp_tupT, wp_tupL, wp_lstT, ws_next, ws_brk, ws_cont, ws_seq, ws_expr, ws_ret, ws_retN, ws_set, ws_asg, ws_put, ws_raise, ws_if, ws_for1, wp_and, wp_or, wp_tand, wp_tor, wp_ifE, wp_chain, gSlot, List.getElem?_cons_succ, List.getElem?_cons_zero, List.map_cons, List.map_nil, List.length_cons, List.length_nil, List.replicate_succ, List.replicate_zero, List.cons_append, List.nil_append, List.set_cons_succ, List.set_cons_zero, Option.some.injEq, exists_eq_left', Nat.reduceAdd, Nat.reduceSub, Nat.zero_add, Nat.add_zero, true_and, and_true, Vl.int.injEq, Vl.bl.injEq, Vl.loc.injEq, Vl.tup.injEq, exists_eq', exists_eq_left, Ob.lst.injEq]
  refine cstand_ok hp hv (fun q => ?_) (fun R ss ts e q q2 => ?_) (fun R ss ts e q q2 => ?_)
  · rw [if_pos q]; exact ⟨rfl, rfl⟩
  · simp only [wp_ret, wp_stuck, wp_ifs, wp_newL, wp_var, wp_c, wp_op, wp_un, wp_tval, wp_tnot, wp_not, wp_nil, wp_cons, wp_tup, wp_lst, wp_dct, wp_call, wp_app, wp_append, wp_ixT, wp_ixL, wp_put, wp_sl, wp_pn, wp_ps, wp_slT, wp_addI, wp_addT, wp_sub, wp_mul, wp_mulT, wp_div, wp_mod, wp_pow, wp_neg, wp_cmp, wp_eqI, wp_neI, wp_eqS, wp_neS, wp_is0, wp_not0, wp_isB, wp_notB, wp_lenT, wp_lenL, wp_tupT, wp_tupL, wp_lstT, ws_next, ws_brk, ws_cont, ws_seq, ws_expr, ws_ret, ws_retN, ws_set, ws_asg, ws_put, ws_raise, ws_if, ws_for1, wp_and, wp_or, wp_tand, wp_tor, wp_ifE, wp_chain, gSlot, List.getElem?_cons_succ, List.getElem?_cons_zero, List.map_cons, List.map_nil, List.length_cons, List.length_nil, List.replicate_succ, List.replicate_zero, List.cons_append, List.nil_append, List.set_cons_succ, List.set_cons_zero, Option.some.injEq, exists_eq_left', Nat.reduceAdd, Nat.reduceSub, Nat.zero_add, Nat.add_zero, true_and, and_true, Vl.int.injEq, Vl.bl.injEq, Vl.loc.injEq, Vl.tup.injEq, exists_eq', exists_eq_left, Ob.lst.injEq, ws_ite]
    subst e
    rw [if_neg (by rw [q]; decide)]
    refine ⟨fun z => (by cases z), fun _ => ?_⟩
    simp [q2]
  · subst e
    rw [if_neg (by rw [q]; decide)]
    show Ws (hand _ "BadStanding" _ S) _
    have e1 : (tkx "BadProgram" ["BadStanding"]) "BadStanding" = some false := by decide +kernel
    have e2 : (tkx "BadStanding" ["BadProgram"]) "BadStanding" = some true := by decide +kernel
    simp only [hand, e1, e2]
    show Vl.str _ = Vl.str _ ∧ S = S
    simp [q2]
end LW
end Tw
end

section
set_option Elab.async false
set_option maxRecDepth 100000
set_option maxHeartbeats 3000000
set_option linter.all false
namespace Tw
namespace LW
open PySem L2
theorem pow30 : (10 : Int) ^ (30 : Int).toNat = 1000000000000000000000000000000 := by decide
theorem pow9 : (10 : Int) ^ (9 : Int).toNat = 1000000000 := by decide
theorem purse_ok {f : Nat} {S : Store} (h : Dr S f) (hf : 4 ≤ f) {Q : Vl → Store → Prop} {E : Str → Store → Prop} (hQ : ∀ (i : Int) S', 0 ≤ i → i < 2000000000000000000000000000000 → Dr S' (f - 4) → Fr S S' → Q (.int i) S') : Wp (r__law_purse [.loc 1]) S Q E := by
  have h2 := h.two
  unfold r__law_purse b__law_purse
  rw [wp_fn]
  simp only [wp_ret, wp_stuck, wp_ifs, wp_newL, wp_var, wp_c, wp_op, wp_un, wp_tval, wp_tnot, wp_not, wp_nil, wp_cons, wp_tup, wp_lst, wp_dct, wp_call, wp_app, wp_append, wp_ixT, wp_ixL, wp_put, wp_sl, wp_pn, wp_ps, wp_slT, wp_addI, wp_addT, wp_sub, wp_mul, wp_mulT, wp_div, wp_mod, wp_pow, wp_neg, wp_cmp, wp_eqI, wp_neI, wp_eqS, wp_neS, wp_is0, wp_not0, wp_isB, wp_notB, wp_lenT, wp_lenL, wp_tupT, wp_tupL, wp_lstT, ws_next, ws_brk, ws_cont, ws_seq, ws_expr, ws_ret, ws_retN, ws_set, ws_asg, ws_put, ws_raise, ws_if, ws_for1, wp_and, wp_or, wp_tand, wp_tor, wp_ifE, wp_chain, gSlot, List.getElem?_cons_succ, List.getElem?_cons_zero, List.map_cons, List.map_nil, List.length_cons, List.length_nil, List.replicate_succ, List.replicate_zero, List.cons_append, List.nil_append, List.set_cons_succ, List.set_cons_zero, Option.some.injEq, exists_eq_left', Nat.reduceAdd, Nat.reduceSub, Nat.zero_add, Nat.add_zero, true_and, and_true, Vl.int.injEq, Vl.bl.injEq, Vl.loc.injEq, Vl.tup.injEq, exists_eq', exists_eq_left, Ob.lst.injEq]
  refine draw_ok h (by omega) fun m1 S1 _ _ l1 D1 F1 => ?_
  simp only [wp_ret, wp_stuck, wp_ifs, wp_newL, wp_var, wp_c, wp_op, wp_un, wp_tval, wp_tnot, wp_not, wp_nil, wp_cons, wp_tup, wp_lst, wp_dct, wp_call, wp_app, wp_append, wp_ixT, wp_ixL, wp_put, wp_sl, wp_pn, wp_ps, wp_slT, wp_addI, wp_addT, wp_sub, wp_mul, wp_mulT, wp_div, wp_mod, wp_pow, wp_neg, wp_cmp, wp_eqI, wp_neI, wp_eqS, wp_neS, wp_is0, wp_not0, wp_isB, wp_notB, wp_lenT, wp_lenL, wp_tupT, wp_tupL, wp_lstT, ws_next, ws_brk, ws_cont, ws_seq, ws_expr, ws_ret, ws_retN, ws_set, ws_asg, ws_put, ws_raise, ws_if, ws_for1, wp_and, wp_or, wp_tand, wp_tor, wp_ifE, wp_chain, gSlot, List.getElem?_cons_succ, List.getElem?_cons_zero, List.map_cons, List.map_nil, List.length_cons, List.length_nil, List.replicate_succ, List.replicate_zero, List.cons_append, List.nil_append, List.set_cons_succ, List.set_cons_zero, Option.some.injEq, exists_eq_left', Nat.reduceAdd, Nat.reduceSub, Nat.zero_add, Nat.add_zero, true_and, and_true, Vl.int.injEq, Vl.bl.injEq, Vl.loc.injEq, Vl.tup.injEq, exists_eq', exists_eq_left, Ob.lst.injEq]
  have k0 := fm0 (i := m1) (j := 5) (by decide)
  have k1 := fm1 (i := m1) (j := 5) (by decide)
  rw [pow30]
  refine ⟨by decide, ⟨by decide, by decide, by decide⟩, draw_ok D1 (by omega) fun m2 S2 _ _ l2 D2 F2 => ?_⟩
  simp only [wp_ret, wp_stuck, wp_ifs, wp_newL, wp_var, wp_c, wp_op, wp_un, wp_tval, wp_tnot, wp_not, wp_nil, wp_cons, wp_tup, wp_lst, wp_dct, wp_call, wp_app, wp_append, wp_ixT, wp_ixL, wp_put, wp_sl, wp_pn, wp_ps, wp_slT, wp_addI, wp_addT, wp_sub, wp_mul, wp_mulT, wp_div, wp_mod, wp_pow, wp_neg, wp_cmp, wp_eqI, wp_neI, wp_eqS, wp_neS, wp_is0, wp_not0, wp_isB, wp_notB, wp_lenT, wp_lenL, wp_tupT, wp_tupL, wp_lstT, ws_next, ws_brk, ws_cont, ws_seq, ws_expr, ws_ret, ws_retN, ws_set, ws_asg, ws_put, ws_raise, ws_if, ws_for1, wp_and, wp_or, wp_tand, wp_tor, wp_ifE, wp_chain, gSlot, List.getElem?_cons_succ, List.getElem?_cons_zero, List.map_cons, List.map_nil, List.length_cons, List.length_nil, List.replicate_succ, List.replicate_zero, List.cons_append, List.nil_append, List.set_cons_succ, List.set_cons_zero, Option.some.injEq, exists_eq_left', Nat.reduceAdd, Nat.reduceSub, Nat.zero_add, Nat.add_zero, true_and, and_true, Vl.int.injEq, Vl.bl.injEq, Vl.loc.injEq, Vl.tup.injEq, exists_eq', exists_eq_left, Ob.lst.injEq]
  refine draw_ok D2 (by omega) fun m3 S3 _ _ l3 D3 F3 => ?_
  refine ⟨by decide, draw_ok D3.app (by omega) fun m4 S4 _ _ l4 D4 F4 => ?_⟩
  simp only [wp_ret, wp_stuck, wp_ifs, wp_newL, wp_var, wp_c, wp_op, wp_un, wp_tval, wp_tnot, wp_not, wp_nil, wp_cons, wp_tup, wp_lst, wp_dct, wp_call, wp_app, wp_append, wp_ixT, wp_ixL, wp_put, wp_sl, wp_pn, wp_ps, wp_slT, wp_addI, wp_addT, wp_sub, wp_mul, wp_mulT, wp_div, wp_mod, wp_pow, wp_neg, wp_cmp, wp_eqI, wp_neI, wp_eqS, wp_neS, wp_is0, wp_not0, wp_isB, wp_notB, wp_lenT, wp_lenL, wp_tupT, wp_tupL, wp_lstT, ws_next, ws_brk, ws_cont, ws_seq, ws_expr, ws_ret, ws_retN, ws_set, ws_asg, ws_put, ws_raise, ws_if, ws_for1, wp_and, wp_or, wp_tand, wp_tor, wp_ifE, wp_chain, gSlot, List.getElem?_cons_succ, List.getElem?_cons_zero, List.map_cons, List.map_nil, List.length_cons, List.length_nil, List.replicate_succ, List.replicate_zero, List.cons_append, List.nil_append, List.set_cons_succ, List.set_cons_zero, Option.some.injEq, exists_eq_left', Nat.reduceAdd, Nat.reduceSub, Nat.zero_add, Nat.add_zero, true_and, and_true, Vl.int.injEq, Vl.bl.injEq, Vl.loc.injEq, Vl.tup.injEq, exists_eq', exists_eq_left, Ob.lst.injEq, F4.last D3.two]
  refine ⟨by decide, ?_⟩
  obtain ⟨v, hv, hm⟩ := ix_mod (xs := [.int (m1.fmod 5), .int 0, .int (1000000000000000000000000000000 + m2), .int m3]) (m := m4) (j := 4) rfl (by decide)
  refine ⟨v, hv, ?_⟩
  have hF : Fr S S4 := F1.trans (F2.trans (F3.trans (Fr.app.trans F4)))
  simp only [List.mem_cons, List.not_mem_nil, or_false] at hm
  rcases hm with rfl | rfl | rfl | rfl
  · exact hQ _ _ (by omega) (by omega) D4.less hF
  · exact hQ _ _ (by omega) (by omega) D4.less hF
  · exact hQ _ _ (by omega) (by omega) D4.less hF
  · exact hQ _ _ (by omega) (by omega) D4.less hF
theorem fine1 {S : Store} {xs : List Vl} (hl : xs.length ≤ 1000) (h : ∀ x ∈ xs, Fine S x) : FineN S 1 (.tup xs) := ⟨rfl, fun ys e => by cases e; exact ⟨Nat.le_trans hl (by decide), h⟩⟩
theorem isPlace_3 {R : Int} {r a b : Vl} (h : isB 0 (R - 1) r = false ∨ isC a = false ∨ isC b = false) : isPlace R (.tup [r, a, b]) = false := by
  show (_ && (_ && _)) = false
  rcases h with h | h | h <;> rw [h] <;> simp
theorem spoilt_ok {R r a b : Int} (hR : 1 ≤ R ∧ R ≤ 3) {f : Nat} {S : Store} (h : Dr S f) (hf : 4 ≤ f) {Q : Vl → Store → Prop} {E : Str → Store → Prop} (hQ : ∀ v S', FineN S' 1 v → isPlace R v = false → Dr S' (f - 4) → Fr S S' → Q v S') :
    Wp (r__law_spoilt [.loc 1, .int R, .tup [.int r, .int a, .int b]]) S Q E := by
  have h2 := h.two
  unfold r__law_spoilt b__law_spoilt
  rw [wp_fn]
  simp only [wp_ret, wp_stuck, wp_ifs, wp_newL, wp_var, wp_c, wp_op, wp_un, wp_tval, wp_tnot, wp_not, wp_nil, wp_cons, wp_tup, wp_lst, wp_dct, wp_call, wp_app, wp_append, wp_ixT, wp_ixL, wp_put, wp_sl, wp_pn, wp_ps, wp_slT, wp_addI, wp_addT, wp_sub, wp_mul, wp_mulT, wp_div, wp_mod, wp_pow, wp_neg, wp_cmp, wp_eqI, wp_neI, wp_eqS, wp_neS, wp_is0, wp_not0, wp_isB, wp_notB, wp_lenT, wp_lenL, wp_tupT, wp_tupL, wp_lstT, ws_next, ws_brk, ws_cont, ws_seq, ws_expr, ws_ret, ws_retN, ws_set, ws_asg, ws_put, ws_raise, ws_if, ws_for1, wp_and, wp_or, wp_tand, wp_tor, wp_ifE, wp_chain, gSlot, List.getElem?_cons_succ, List.getElem?_cons_zero, List.map_cons, List.map_nil, List.length_cons, List.length_nil, List.replicate_succ, List.replicate_zero, List.cons_append, List.nil_append, List.set_cons_succ, List.set_cons_zero, Option.some.injEq, exists_eq_left', Nat.reduceAdd, Nat.reduceSub, Nat.zero_add, Nat.add_zero, true_and, and_true, Vl.int.injEq, Vl.bl.injEq, Vl.loc.injEq, Vl.tup.injEq, exists_eq', exists_eq_left, Ob.lst.injEq]
  refine ⟨_, rfl, ?_⟩
  simp only [wp_ret, wp_stuck, wp_ifs, wp_newL, wp_var, wp_c, wp_op, wp_un, wp_tval, wp_tnot, wp_not, wp_nil, wp_cons, wp_tup, wp_lst, wp_dct, wp_call, wp_app, wp_append, wp_ixT, wp_ixL, wp_put, wp_sl, wp_pn, wp_ps, wp_slT, wp_addI, wp_addT, wp_sub, wp_mul, wp_mulT, wp_div, wp_mod, wp_pow, wp_neg, wp_cmp, wp_eqI, wp_neI, wp_eqS, wp_neS, wp_is0, wp_not0, wp_isB, wp_notB, wp_lenT, wp_lenL, wp_tupT, wp_tupL, wp_lstT, ws_next, ws_brk, ws_cont, ws_seq, ws_expr, ws_ret, ws_retN, ws_set, ws_asg, ws_put, ws_raise, ws_if, ws_for1, wp_and, wp_or, wp_tand, wp_tor, wp_ifE, wp_chain, gSlot, List.getElem?_cons_succ, List.getElem?_cons_zero, List.map_cons, List.map_nil, List.length_cons, List.length_nil, List.replicate_succ, List.replicate_zero, List.cons_append, List.nil_append, List.set_cons_succ, List.set_cons_zero, Option.some.injEq, exists_eq_left', Nat.reduceAdd, Nat.reduceSub, Nat.zero_add, Nat.add_zero, true_and, and_true, Vl.int.injEq, Vl.bl.injEq, Vl.loc.injEq, Vl.tup.injEq, exists_eq', exists_eq_left, Ob.lst.injEq]
  refine draw_ok h (by omega) fun m1 S1 _ _ l1 D1 F1 => ?_
  have z1 := D1.two
  simp only [wp_ret, wp_stuck, wp_ifs, wp_newL, wp_var, wp_c, wp_op, wp_un, wp_tval, wp_tnot, wp_not, wp_nil, wp_cons, wp_tup, wp_lst, wp_dct, wp_call, wp_app, wp_append, wp_ixT, wp_ixL, wp_put, wp_sl, wp_pn, wp_ps, wp_slT, wp_addI, wp_addT, wp_sub, wp_mul, wp_mulT, wp_div, wp_mod, wp_pow, wp_neg, wp_cmp, wp_eqI, wp_neI, wp_eqS, wp_neS, wp_is0, wp_not0, wp_isB, wp_notB, wp_lenT, wp_lenL, wp_tupT, wp_tupL, wp_lstT, ws_next, ws_brk, ws_cont, ws_seq, ws_expr, ws_ret, ws_retN, ws_set, ws_asg, ws_put, ws_raise, ws_if, ws_for1, wp_and, wp_or, wp_tand, wp_tor, wp_ifE, wp_chain, gSlot, List.getElem?_cons_succ, List.getElem?_cons_zero, List.map_cons, List.map_nil, List.length_cons, List.length_nil, List.replicate_succ, List.replicate_zero, List.cons_append, List.nil_append, List.set_cons_succ, List.set_cons_zero, Option.some.injEq, exists_eq_left', Nat.reduceAdd, Nat.reduceSub, Nat.zero_add, Nat.add_zero, true_and, and_true, Vl.int.injEq, Vl.bl.injEq, Vl.loc.injEq, Vl.tup.injEq, exists_eq', exists_eq_left, Ob.lst.injEq]
  refine ⟨by decide, ws_ite.mpr ⟨fun _ => ?_, fun _ => ?_⟩⟩
  · simp only [wp_ret, wp_stuck, wp_ifs, wp_newL, wp_var, wp_c, wp_op, wp_un, wp_tval, wp_tnot, wp_not, wp_nil, wp_cons, wp_tup, wp_lst, wp_dct, wp_call, wp_app, wp_append, wp_ixT, wp_ixL, wp_put, wp_sl, wp_pn, wp_ps, wp_slT, wp_addI, wp_addT, wp_sub, wp_mul, wp_mulT, wp_div, wp_mod, wp_pow, wp_neg, wp_cmp, wp_eqI, wp_neI, wp_eqS, wp_neS, wp_is0, wp_not0, wp_isB, wp_notB, wp_lenT, wp_lenL, wp_tupT, wp_tupL, wp_lstT, ws_next, ws_brk, ws_cont, ws_seq, ws_expr, ws_ret, ws_retN, ws_set, ws_asg, ws_put, ws_raise, ws_if, ws_for1, wp_and, wp_or, wp_tand, wp_tor, wp_ifE, wp_chain, gSlot, List.getElem?_cons_succ, List.getElem?_cons_zero, List.map_cons, List.map_nil, List.length_cons, List.length_nil, List.replicate_succ, List.replicate_zero, List.cons_append, List.nil_append, List.set_cons_succ, List.set_cons_zero, Option.some.injEq, exists_eq_left', Nat.reduceAdd, Nat.reduceSub, Nat.zero_add, Nat.add_zero, true_and, and_true, Vl.int.injEq, Vl.bl.injEq, Vl.loc.injEq, Vl.tup.injEq, exists_eq', exists_eq_left, Ob.lst.injEq]
    rw [pow9]
    refine ⟨⟨by decide, by decide, by decide⟩, by decide, draw_ok D1.app (by omega) fun m2 S2 _ _ l2 D2 F2 => ?_⟩
    simp only [wp_ret, wp_stuck, wp_ifs, wp_newL, wp_var, wp_c, wp_op, wp_un, wp_tval, wp_tnot, wp_not, wp_nil, wp_cons, wp_tup, wp_lst, wp_dct, wp_call, wp_app, wp_append, wp_ixT, wp_ixL, wp_put, wp_sl, wp_pn, wp_ps, wp_slT, wp_addI, wp_addT, wp_sub, wp_mul, wp_mulT, wp_div, wp_mod, wp_pow, wp_neg, wp_cmp, wp_eqI, wp_neI, wp_eqS, wp_neS, wp_is0, wp_not0, wp_isB, wp_notB, wp_lenT, wp_lenL, wp_tupT, wp_tupL, wp_lstT, ws_next, ws_brk, ws_cont, ws_seq, ws_expr, ws_ret, ws_retN, ws_set, ws_asg, ws_put, ws_raise, ws_if, ws_for1, wp_and, wp_or, wp_tand, wp_tor, wp_ifE, wp_chain, gSlot, List.getElem?_cons_succ, List.getElem?_cons_zero, List.map_cons, List.map_nil, List.length_cons, List.length_nil, List.replicate_succ, List.replicate_zero, List.cons_append, List.nil_append, List.set_cons_succ, List.set_cons_zero, Option.some.injEq, exists_eq_left', Nat.reduceAdd, Nat.reduceSub, Nat.zero_add, Nat.add_zero, true_and, and_true, Vl.int.injEq, Vl.bl.injEq, Vl.loc.injEq, Vl.tup.injEq, exists_eq', exists_eq_left, Ob.lst.injEq, F2.last z1]
    refine ⟨by decide, ?_⟩
    obtain ⟨v, hv, hm⟩ := ix_mod (xs := [.int (-1), .int R, .int 3, .bl true, .non, .str "0", .int 1000000000, .bl false]) (m := m2) (j := 8) rfl (by decide)
    refine ⟨v, hv, by decide, ?_⟩
    have key : Fine S2 v ∧ isB 0 (R - 1) v = false := by
      simp only [List.mem_cons, List.not_mem_nil, or_false] at hm
      rcases hm with rfl | rfl | rfl | rfl | rfl | rfl | rfl | rfl
      · exact ⟨rfl, by simp [isB]⟩
      · exact ⟨rfl, by simp [isB]; omega⟩
      · exact ⟨rfl, by simp [isB]; omega⟩
      · exact ⟨rfl, rfl⟩
      · exact ⟨rfl, rfl⟩
      · exact ⟨rfl, rfl⟩
      · exact ⟨rfl, by simp [isB]; omega⟩
      · exact ⟨rfl, rfl⟩
    refine hQ _ _ (fine1 (by simp) fun x hx => ?_) (isPlace_3 (.inl key.2)) D2.less (F1.trans (Fr.app.trans F2))
    simp only [List.mem_cons, List.not_mem_nil, or_false] at hx
    rcases hx with rfl | rfl | rfl
    · exact key.1
    · rfl
    · rfl
  have bad6 : ∀ {S2 : Store} {v : Vl}, v ∈ [Vl.int (-1), .int (-1000000000000000000000000000000), .bl true, .non, .str "0", .bl false] → Fine S2 v ∧ isC v = false := fun {S2 v} hm => by
    simp only [List.mem_cons, List.not_mem_nil, or_false] at hm
    rcases hm with rfl | rfl | rfl | rfl | rfl | rfl
    · exact ⟨rfl, rfl⟩
    · exact ⟨rfl, rfl⟩
    · exact ⟨rfl, rfl⟩
    · exact ⟨rfl, rfl⟩
    · exact ⟨rfl, rfl⟩
    · exact ⟨rfl, rfl⟩
  simp only [wp_ret, wp_stuck, wp_ifs, wp_newL, wp_var, wp_c, wp_op, wp_un, wp_tval, wp_tnot, wp_not, wp_nil, wp_cons, wp_tup, wp_lst, wp_dct, wp_call, wp_app, wp_append, wp_ixT, wp_ixL, wp_put, wp_sl, wp_pn, wp_ps, wp_slT, wp_addI, wp_addT, wp_sub, wp_mul, wp_mulT, wp_div, wp_mod, wp_pow, wp_neg, wp_cmp, wp_eqI, wp_neI, wp_eqS, wp_neS, wp_is0, wp_not0, wp_isB, wp_notB, wp_lenT, wp_lenL, wp_tupT, wp_tupL, wp_lstT, ws_next, ws_brk, ws_cont, ws_seq, ws_expr, ws_ret, ws_retN, ws_set, ws_asg, ws_put, ws_raise, ws_if, ws_for1, wp_and, wp_or, wp_tand, wp_tor, wp_ifE, wp_chain, gSlot, List.getElem?_cons_succ, List.getElem?_cons_zero, List.map_cons, List.map_nil, List.length_cons, List.length_nil, List.replicate_succ, List.replicate_zero, List.cons_append, List.nil_append, List.set_cons_succ, List.set_cons_zero, Option.some.injEq, exists_eq_left', Nat.reduceAdd, Nat.reduceSub, Nat.zero_add, Nat.add_zero, true_and, and_true, Vl.int.injEq, Vl.bl.injEq, Vl.loc.injEq, Vl.tup.injEq, exists_eq', exists_eq_left, Ob.lst.injEq]
  refine ws_ite.mpr ⟨fun _ => ?_, fun _ => ?_⟩
  · simp only [wp_ret, wp_stuck, wp_ifs, wp_newL, wp_var, wp_c, wp_op, wp_un, wp_tval, wp_tnot, wp_not, wp_nil, wp_cons, wp_tup, wp_lst, wp_dct, wp_call, wp_app, wp_append, wp_ixT, wp_ixL, wp_put, wp_sl, wp_pn, wp_ps, wp_slT, wp_addI, wp_addT, wp_sub, wp_mul, wp_mulT, wp_div, wp_mod, wp_pow, wp_neg, wp_cmp, wp_eqI, wp_neI, wp_eqS, wp_neS, wp_is0, wp_not0, wp_isB, wp_notB, wp_lenT, wp_lenL, wp_tupT, wp_tupL, wp_lstT, ws_next, ws_brk, ws_cont, ws_seq, ws_expr, ws_ret, ws_retN, ws_set, ws_asg, ws_put, ws_raise, ws_if, ws_for1, wp_and, wp_or, wp_tand, wp_tor, wp_ifE, wp_chain, gSlot, List.getElem?_cons_succ, List.getElem?_cons_zero, List.map_cons, List.map_nil, List.length_cons, List.length_nil, List.replicate_succ, List.replicate_zero, List.cons_append, List.nil_append, List.set_cons_succ, List.set_cons_zero, Option.some.injEq, exists_eq_left', Nat.reduceAdd, Nat.reduceSub, Nat.zero_add, Nat.add_zero, true_and, and_true, Vl.int.injEq, Vl.bl.injEq, Vl.loc.injEq, Vl.tup.injEq, exists_eq', exists_eq_left, Ob.lst.injEq]
    rw [pow30]
    refine ⟨⟨by decide, by decide, by decide⟩, by decide, draw_ok D1.app (by omega) fun m2 S2 _ _ l2 D2 F2 => ?_⟩
    simp only [wp_ret, wp_stuck, wp_ifs, wp_newL, wp_var, wp_c, wp_op, wp_un, wp_tval, wp_tnot, wp_not, wp_nil, wp_cons, wp_tup, wp_lst, wp_dct, wp_call, wp_app, wp_append, wp_ixT, wp_ixL, wp_put, wp_sl, wp_pn, wp_ps, wp_slT, wp_addI, wp_addT, wp_sub, wp_mul, wp_mulT, wp_div, wp_mod, wp_pow, wp_neg, wp_cmp, wp_eqI, wp_neI, wp_eqS, wp_neS, wp_is0, wp_not0, wp_isB, wp_notB, wp_lenT, wp_lenL, wp_tupT, wp_tupL, wp_lstT, ws_next, ws_brk, ws_cont, ws_seq, ws_expr, ws_ret, ws_retN, ws_set, ws_asg, ws_put, ws_raise, ws_if, ws_for1, wp_and, wp_or, wp_tand, wp_tor, wp_ifE, wp_chain, gSlot, List.getElem?_cons_succ, List.getElem?_cons_zero, List.map_cons, List.map_nil, List.length_cons, List.length_nil, List.replicate_succ, List.replicate_zero, List.cons_append, List.nil_append, List.set_cons_succ, List.set_cons_zero, Option.some.injEq, exists_eq_left', Nat.reduceAdd, Nat.reduceSub, Nat.zero_add, Nat.add_zero, true_and, and_true, Vl.int.injEq, Vl.bl.injEq, Vl.loc.injEq, Vl.tup.injEq, exists_eq', exists_eq_left, Ob.lst.injEq, F2.last z1]
    refine ⟨by decide, ?_⟩
    obtain ⟨v, hv, hm⟩ := ix_mod (xs := [.int (-1), .int (-1000000000000000000000000000000), .bl true, .non, .str "0", .bl false]) (m := m2) (j := 6) rfl (by decide)
    refine ⟨v, hv, by decide, ?_⟩
    have key := bad6 (S2 := S2) hm
    refine hQ _ _ (fine1 (by simp) fun x hx => ?_) (isPlace_3 (.inr (.inl key.2))) D2.less (F1.trans (Fr.app.trans F2))
    simp only [List.mem_cons, List.not_mem_nil, or_false] at hx
    rcases hx with rfl | rfl | rfl
    · rfl
    · exact key.1
    · rfl
  simp only [wp_ret, wp_stuck, wp_ifs, wp_newL, wp_var, wp_c, wp_op, wp_un, wp_tval, wp_tnot, wp_not, wp_nil, wp_cons, wp_tup, wp_lst, wp_dct, wp_call, wp_app, wp_append, wp_ixT, wp_ixL, wp_put, wp_sl, wp_pn, wp_ps, wp_slT, wp_addI, wp_addT, wp_sub, wp_mul, wp_mulT, wp_div, wp_mod, wp_pow, wp_neg, wp_cmp, wp_eqI, wp_neI, wp_eqS, wp_neS, wp_is0, wp_not0, wp_isB, wp_notB, wp_lenT, wp_lenL, wp_tupT, wp_tupL, wp_lstT, ws_next, ws_brk, ws_cont, ws_seq, ws_expr, ws_ret, ws_retN, ws_set, ws_asg, ws_put, ws_raise, ws_if, ws_for1, wp_and, wp_or, wp_tand, wp_tor, wp_ifE, wp_chain, gSlot, List.getElem?_cons_succ, List.getElem?_cons_zero, List.map_cons, List.map_nil, List.length_cons, List.length_nil, List.replicate_succ, List.replicate_zero, List.cons_append, List.nil_append, List.set_cons_succ, List.set_cons_zero, Option.some.injEq, exists_eq_left', Nat.reduceAdd, Nat.reduceSub, Nat.zero_add, Nat.add_zero, true_and, and_true, Vl.int.injEq, Vl.bl.injEq, Vl.loc.injEq, Vl.tup.injEq, exists_eq', exists_eq_left, Ob.lst.injEq]
  refine ws_ite.mpr ⟨fun _ => ?_, fun _ => ?_⟩
  · simp only [wp_ret, wp_stuck, wp_ifs, wp_newL, wp_var, wp_c, wp_op, wp_un, wp_tval, wp_tnot, wp_not, wp_nil, wp_cons, wp_tup, wp_lst, wp_dct, wp_call, wp_app, wp_append, wp_ixT, wp_ixL, wp_put, wp_sl, wp_pn, wp_ps, wp_slT, wp_addI, wp_addT, wp_sub, wp_mul, wp_mulT, wp_div, wp_mod, wp_pow, wp_neg, wp_cmp, wp_eqI, wp_neI, wp_eqS, wp_neS, wp_is0, wp_not0, wp_isB, wp_notB, wp_lenT, wp_lenL, wp_tupT, wp_tupL, wp_lstT, ws_next, ws_brk, ws_cont, ws_seq, ws_expr, ws_ret, ws_retN, ws_set, ws_asg, ws_put, ws_raise, ws_if, ws_for1, wp_and, wp_or, wp_tand, wp_tor, wp_ifE, wp_chain, gSlot, List.getElem?_cons_succ, List.getElem?_cons_zero, List.map_cons, List.map_nil, List.length_cons, List.length_nil, List.replicate_succ, List.replicate_zero, List.cons_append, List.nil_append, List.set_cons_succ, List.set_cons_zero, Option.some.injEq, exists_eq_left', Nat.reduceAdd, Nat.reduceSub, Nat.zero_add, Nat.add_zero, true_and, and_true, Vl.int.injEq, Vl.bl.injEq, Vl.loc.injEq, Vl.tup.injEq, exists_eq', exists_eq_left, Ob.lst.injEq]
    rw [pow30]
    refine ⟨⟨by decide, by decide, by decide⟩, by decide, draw_ok D1.app (by omega) fun m2 S2 _ _ l2 D2 F2 => ?_⟩
    simp only [wp_ret, wp_stuck, wp_ifs, wp_newL, wp_var, wp_c, wp_op, wp_un, wp_tval, wp_tnot, wp_not, wp_nil, wp_cons, wp_tup, wp_lst, wp_dct, wp_call, wp_app, wp_append, wp_ixT, wp_ixL, wp_put, wp_sl, wp_pn, wp_ps, wp_slT, wp_addI, wp_addT, wp_sub, wp_mul, wp_mulT, wp_div, wp_mod, wp_pow, wp_neg, wp_cmp, wp_eqI, wp_neI, wp_eqS, wp_neS, wp_is0, wp_not0, wp_isB, wp_notB, wp_lenT, wp_lenL, wp_tupT, wp_tupL, wp_lstT, ws_next, ws_brk, ws_cont, ws_seq, ws_expr, ws_ret, ws_retN, ws_set, ws_asg, ws_put, ws_raise, ws_if, ws_for1, wp_and, wp_or, wp_tand, wp_tor, wp_ifE, wp_chain, gSlot, List.getElem?_cons_succ, List.getElem?_cons_zero, List.map_cons, List.map_nil, List.length_cons, List.length_nil, List.replicate_succ, List.replicate_zero, List.cons_append, List.nil_append, List.set_cons_succ, List.set_cons_zero, Option.some.injEq, exists_eq_left', Nat.reduceAdd, Nat.reduceSub, Nat.zero_add, Nat.add_zero, true_and, and_true, Vl.int.injEq, Vl.bl.injEq, Vl.loc.injEq, Vl.tup.injEq, exists_eq', exists_eq_left, Ob.lst.injEq, F2.last z1]
    refine ⟨by decide, ?_⟩
    obtain ⟨v, hv, hm⟩ := ix_mod (xs := [.int (-1), .int (-1000000000000000000000000000000), .bl true, .non, .str "0", .bl false]) (m := m2) (j := 6) rfl (by decide)
    refine ⟨v, hv, by decide, ?_⟩
    have key := bad6 (S2 := S2) hm
    refine hQ _ _ (fine1 (by simp) fun x hx => ?_) (isPlace_3 (.inr (.inr key.2))) D2.less (F1.trans (Fr.app.trans F2))
    simp only [List.mem_cons, List.not_mem_nil, or_false] at hx
    rcases hx with rfl | rfl | rfl
    · rfl
    · rfl
    · exact key.1
  simp only [wp_ret, wp_stuck, wp_ifs, wp_newL, wp_var, wp_c, wp_op, wp_un, wp_tval, wp_tnot, wp_not, wp_nil, wp_cons, wp_tup, wp_lst, wp_dct, wp_call, wp_app, wp_append, wp_ixT, wp_ixL, wp_put, wp_sl, wp_pn, wp_ps, wp_slT, wp_addI, wp_addT, wp_sub, wp_mul, wp_mulT, wp_div, wp_mod, wp_pow, wp_neg, wp_cmp, wp_eqI, wp_neI, wp_eqS, wp_neS, wp_is0, wp_not0, wp_isB, wp_notB, wp_lenT, wp_lenL, wp_tupT, wp_tupL, wp_lstT, ws_next, ws_brk, ws_cont, ws_seq, ws_expr, ws_ret, ws_retN, ws_set, ws_asg, ws_put, ws_raise, ws_if, ws_for1, wp_and, wp_or, wp_tand, wp_tor, wp_ifE, wp_chain, gSlot, List.getElem?_cons_succ, List.getElem?_cons_zero, List.map_cons, List.map_nil, List.length_cons, List.length_nil, List.replicate_succ, List.replicate_zero, List.cons_append, List.nil_append, List.set_cons_succ, List.set_cons_zero, Option.some.injEq, exists_eq_left', Nat.reduceAdd, Nat.reduceSub, Nat.zero_add, Nat.add_zero, true_and, and_true, Vl.int.injEq, Vl.bl.injEq, Vl.loc.injEq, Vl.tup.injEq, exists_eq', exists_eq_left, Ob.lst.injEq]
  refine ⟨by decide, by decide, by decide, by decide, by decide, by decide, by decide, draw_ok D1.app.app (by omega) fun m2 S2 _ _ l2 D2 F2 => ?_⟩
  simp only [wp_ret, wp_stuck, wp_ifs, wp_newL, wp_var, wp_c, wp_op, wp_un, wp_tval, wp_tnot, wp_not, wp_nil, wp_cons, wp_tup, wp_lst, wp_dct, wp_call, wp_app, wp_append, wp_ixT, wp_ixL, wp_put, wp_sl, wp_pn, wp_ps, wp_slT, wp_addI, wp_addT, wp_sub, wp_mul, wp_mulT, wp_div, wp_mod, wp_pow, wp_neg, wp_cmp, wp_eqI, wp_neI, wp_eqS, wp_neS, wp_is0, wp_not0, wp_isB, wp_notB, wp_lenT, wp_lenL, wp_tupT, wp_tupL, wp_lstT, ws_next, ws_brk, ws_cont, ws_seq, ws_expr, ws_ret, ws_retN, ws_set, ws_asg, ws_put, ws_raise, ws_if, ws_for1, wp_and, wp_or, wp_tand, wp_tor, wp_ifE, wp_chain, gSlot, List.getElem?_cons_succ, List.getElem?_cons_zero, List.map_cons, List.map_nil, List.length_cons, List.length_nil, List.replicate_succ, List.replicate_zero, List.cons_append, List.nil_append, List.set_cons_succ, List.set_cons_zero, Option.some.injEq, exists_eq_left', Nat.reduceAdd, Nat.reduceSub, Nat.zero_add, Nat.add_zero, true_and, and_true, Vl.int.injEq, Vl.bl.injEq, Vl.loc.injEq, Vl.tup.injEq, exists_eq', exists_eq_left, Ob.lst.injEq, F2.last (S := S1 ++ [Ob.lst [.int r, .int a, .int b]]) (by simp <;> omega)]
  refine ⟨by decide, ?_⟩
  obtain ⟨v, hv, hm⟩ := ix_mod (xs := [.tup [.int r, .int a], .tup [.int r, .int a, .int b, .int 0], .loc S1.length, .non, .int 0, .tup [], .tup [.int r, .tup [.int a, .int b]]]) (m := m2) (j := 7) rfl (by decide)
  refine ⟨v, hv, ?_⟩
  have hF : Fr S S2 := F1.trans (Fr.app.trans (Fr.app.trans F2))
  have hloc := F2.get (get_mid (S := S1)) (by omega)
  simp only [List.mem_cons, List.not_mem_nil, or_false] at hm
  rcases hm with rfl | rfl | rfl | rfl | rfl | rfl | rfl
  · exact hQ _ _ (fine1 (by simp) fun x hx => by simp at hx; rcases hx with rfl | rfl <;> rfl) rfl D2.less hF
  · exact hQ _ _ (fine1 (by simp) fun x hx => by simp at hx; rcases hx with rfl | rfl | rfl | rfl <;> rfl) rfl D2.less hF
  · exact hQ _ _ (fine_atom (by show (tyN S2 (.loc S1.length)).isSome = true; simp [tyN, hloc]) rfl 1) rfl D2.less hF
  · exact hQ _ _ (fine_atom (S := S2) (v := .non) rfl rfl 1) rfl D2.less hF
  · exact hQ _ _ (fine_atom (S := S2) (v := .int 0) rfl rfl 1) rfl D2.less hF
  · exact hQ _ _ (fine1 (by simp) fun x hx => by cases hx) rfl D2.less hF
  · exact hQ _ _ (fine1 (by simp) fun x hx => by simp at hx; rcases hx with rfl | rfl <;> rfl) rfl D2.less hF
theorem law_ok {ns : List Int} (hl : ns.length ≤ 63) : ∃ S', r_law [.frz (ns.map .int)] [] = some (.ok (.bl true) S') := by
  suffices h : Wp (r_law [.frz (ns.map .int)]) [] (fun v _ => v = .bl true) (fun _ _ => False) by
    obtain ⟨a, S1, e, rfl⟩ := wp_get h fun _ _ z => z
    exact ⟨S1, e⟩
  unfold r_law b_law
  rw [wp_fn]
  simp only [wp_ret, wp_stuck, wp_ifs, wp_newL, wp_var, wp_c, wp_op, wp_un, wp_tval, wp_tnot, wp_not, wp_nil, wp_cons, wp_tup, wp_lst, wp_dct, wp_call, wp_app, wp_append, wp_ixT, wp_ixL, wp_put, wp_sl, wp_pn, wp_ps, wp_slT, wp_addI, wp_addT, wp_sub, wp_mul, wp_mulT, wp_div, wp_mod, wp_pow, wp_neg, wp_cmp, wp_eqI, wp_neI, wp_eqS, wp_neS, wp_is0, wp_not0, wp_isB, wp_notB, wp_lenT, wp_lenL, wp_tupT, wp_tupL, wp_lstT, ws_next, ws_brk, ws_cont, ws_seq, ws_expr, ws_ret, ws_retN, ws_set, ws_asg, ws_put, ws_raise, ws_if, ws_for1, wp_and, wp_or, wp_tand, wp_tor, wp_ifE, wp_chain, gSlot, List.getElem?_cons_succ, List.getElem?_cons_zero, List.map_cons, List.map_nil, List.length_cons, List.length_nil, List.replicate_succ, List.replicate_zero, List.cons_append, List.nil_append, List.set_cons_succ, List.set_cons_zero, Option.some.injEq, exists_eq_left', Nat.reduceAdd, Nat.reduceSub, Nat.zero_add, Nat.add_zero, true_and, and_true, Vl.int.injEq, Vl.bl.injEq, Vl.loc.injEq, Vl.tup.injEq, exists_eq', exists_eq_left, Ob.lst.injEq]
  refine numbers_ok hl fun xs hx hxl => ?_
  have D0 : Dr ([] ++ [Ob.lst xs] ++ [Ob.lst [.loc 0, .int 0]]) 1000000 := ⟨xs, 0, rfl, rfl, hx, hxl, Int.le_refl 0, by decide⟩
  refine ⟨by decide, program_ok D0 (by decide) fun R ss ts S1 hP D1 F1 => ?_⟩
  simp only [wp_ret, wp_stuck, wp_ifs, wp_newL, wp_var, wp_c, wp_op, wp_un, wp_tval, wp_tnot, wp_not, wp_nil, wp_cons, wp_tup, wp_lst, wp_dct, wp_call, wp_app, wp_append, wp_ixT, wp_ixL, wp_put, wp_sl, wp_pn, wp_ps, wp_slT, wp_addI, wp_addT, wp_sub, wp_mul, wp_mulT, wp_div, wp_mod, wp_pow, wp_neg, wp_cmp, wp_eqI, wp_neI, wp_eqS, wp_neS, wp_is0, wp_not0, wp_isB, wp_notB, wp_lenT, wp_lenL, wp_tupT, wp_tupL, wp_lstT, ws_next, ws_brk, ws_cont, ws_seq, ws_expr, ws_ret, ws_retN, ws_set, ws_asg, ws_put, ws_raise, ws_if, ws_for1, wp_and, wp_or, wp_tand, wp_tor, wp_ifE, wp_chain, gSlot, List.getElem?_cons_succ, List.getElem?_cons_zero, List.map_cons, List.map_nil, List.length_cons, List.length_nil, List.replicate_succ, List.replicate_zero, List.cons_append, List.nil_append, List.set_cons_succ, List.set_cons_zero, Option.some.injEq, exists_eq_left', Nat.reduceAdd, Nat.reduceSub, Nat.zero_add, Nat.add_zero, true_and, and_true, Vl.int.injEq, Vl.bl.injEq, Vl.loc.injEq, Vl.tup.injEq, exists_eq', exists_eq_left, Ob.lst.injEq]
  have hR := hP.1
  have a0 : atI [Vl.int R, .tup ss, .tup ts] 0 = some (.int R) := rfl
  refine draw_ok D1 (by decide) fun m1 S2 _ _ l2 D2 F2 => ?_
  simp only [wp_ret, wp_stuck, wp_ifs, wp_newL, wp_var, wp_c, wp_op, wp_un, wp_tval, wp_tnot, wp_not, wp_nil, wp_cons, wp_tup, wp_lst, wp_dct, wp_call, wp_app, wp_append, wp_ixT, wp_ixL, wp_put, wp_sl, wp_pn, wp_ps, wp_slT, wp_addI, wp_addT, wp_sub, wp_mul, wp_mulT, wp_div, wp_mod, wp_pow, wp_neg, wp_cmp, wp_eqI, wp_neI, wp_eqS, wp_neS, wp_is0, wp_not0, wp_isB, wp_notB, wp_lenT, wp_lenL, wp_tupT, wp_tupL, wp_lstT, ws_next, ws_brk, ws_cont, ws_seq, ws_expr, ws_ret, ws_retN, ws_set, ws_asg, ws_put, ws_raise, ws_if, ws_for1, wp_and, wp_or, wp_tand, wp_tor, wp_ifE, wp_chain, gSlot, List.getElem?_cons_succ, List.getElem?_cons_zero, List.map_cons, List.map_nil, List.length_cons, List.length_nil, List.replicate_succ, List.replicate_zero, List.cons_append, List.nil_append, List.set_cons_succ, List.set_cons_zero, Option.some.injEq, exists_eq_left', Nat.reduceAdd, Nat.reduceSub, Nat.zero_add, Nat.add_zero, true_and, and_true, Vl.int.injEq, Vl.bl.injEq, Vl.loc.injEq, Vl.tup.injEq, exists_eq', exists_eq_left, Ob.lst.injEq, a0]
  have r0 := fm0 (i := m1) (j := R) (by omega)
  have r1 := fm1 (i := m1) (j := R) (by omega)
  refine ⟨by omega, purse_ok D2 (by decide) fun a S3 a0' a1 D3 F3 => ?_⟩
  refine purse_ok D3 (by decide) fun b S4 b0 b1 D4 F4 => ?_
  have hprog : isProg (.tup [.int R, .tup ss, .tup ts]) = true := prog_right hP
  obtain ⟨rR, rS, rT⟩ := r0_prog hP
  have hfp : ∀ S : Store, FineN S 3 (.tup [.int R, .tup ss, .tup ts]) := fun S => fine_tup (by show 3 ≤ 16777216; decide) (fun x hx j => by
    simp only [List.mem_cons, List.not_mem_nil, or_false] at hx
    rcases hx with rfl | rfl | rfl
    · exact (rR.rp S false false).1 j
    · exact (rS.rp S false false).1 j
    · exact (rT.rp S false false).1 j) 3
  have hfs : ∀ S : Store, FineN S 1 (.tup [.int (m1.fmod R), .int a, .int b]) := fun S => fine1 (by simp) fun x hx => by simp at hx; rcases hx with rfl | rfl | rfl <;> rfl
  have hpl : isPlace R (.tup [.int (m1.fmod R), .int a, .int b]) = true := by
    show (isB 0 (R - 1) (.int (m1.fmod R)) && (decide (0 ≤ a) && decide (0 ≤ b))) = true
    rw [bI r0 (Int.le_sub_one_of_lt r1), decide_eq_true a0', decide_eq_true b0]; rfl
  have t1 : ∀ S, r__law_told [.tup [.int R, .tup ss, .tup ts], .tup [.int (m1.fmod R), .int a, .int b]] S = some (.ok (.str "right") S) := fun S => by
    rw [told_ok (hfp S) (hfs S), if_neg (by rw [hprog]; decide)]
    show some (Tw.R.ok (Vl.str (if isPlace R _ = true then _ else _)) S) = _
    rw [if_pos hpl]
  refine ⟨by decide, ?_⟩
  simp only [wp_ret, wp_stuck, wp_ifs, wp_newL, wp_var, wp_c, wp_op, wp_un, wp_tval, wp_tnot, wp_not, wp_nil, wp_cons, wp_tup, wp_lst, wp_dct, wp_call, wp_app, wp_append, wp_ixT, wp_ixL, wp_put, wp_sl, wp_pn, wp_ps, wp_slT, wp_addI, wp_addT, wp_sub, wp_mul, wp_mulT, wp_div, wp_mod, wp_pow, wp_neg, wp_cmp, wp_eqI, wp_neI, wp_eqS, wp_neS, wp_is0, wp_not0, wp_isB, wp_notB, wp_lenT, wp_lenL, wp_tupT, wp_tupL, wp_lstT, ws_next, ws_brk, ws_cont, ws_seq, ws_expr, ws_ret, ws_retN, ws_set, ws_asg, ws_put, ws_raise, ws_if, ws_for1, wp_and, wp_or, wp_tand, wp_tor, wp_ifE, wp_chain, gSlot, List.getElem?_cons_succ, List.getElem?_cons_zero, List.map_cons, List.map_nil, List.length_cons, List.length_nil, List.replicate_succ, List.replicate_zero, List.cons_append, List.nil_append, List.set_cons_succ, List.set_cons_zero, Option.some.injEq, exists_eq_left', Nat.reduceAdd, Nat.reduceSub, Nat.zero_add, Nat.add_zero, true_and, and_true, Vl.int.injEq, Vl.bl.injEq, Vl.loc.injEq, Vl.tup.injEq, exists_eq', exists_eq_left, Ob.lst.injEq, wp_of (t1 S4), ws_ite, a0]
  refine ⟨fun z => (by simp at z), fun _ => ?_⟩
  refine spoilt_ok hR D4 (by decide) fun v S5 hv hb D5 F5 => ?_
  have t2 : ∀ S, FineN S 1 v → r__law_told [.tup [.int R, .tup ss, .tup ts], v] S = some (.ok (.str "standing") S) := fun S hf => by
    rw [told_ok (hfp S) hf, if_neg (by rw [hprog]; decide)]
    show some (Tw.R.ok (Vl.str (if isPlace R _ = true then _ else _)) S) = _
    rw [if_neg (by rw [hb]; decide)]
  simp only [wp_ret, wp_stuck, wp_ifs, wp_newL, wp_var, wp_c, wp_op, wp_un, wp_tval, wp_tnot, wp_not, wp_nil, wp_cons, wp_tup, wp_lst, wp_dct, wp_call, wp_app, wp_append, wp_ixT, wp_ixL, wp_put, wp_sl, wp_pn, wp_ps, wp_slT, wp_addI, wp_addT, wp_sub, wp_mul, wp_mulT, wp_div, wp_mod, wp_pow, wp_neg, wp_cmp, wp_eqI, wp_neI, wp_eqS, wp_neS, wp_is0, wp_not0, wp_isB, wp_notB, wp_lenT, wp_lenL, wp_tupT, wp_tupL, wp_lstT, ws_next, ws_brk, ws_cont, ws_seq, ws_expr, ws_ret, ws_retN, ws_set, ws_asg, ws_put, ws_raise, ws_if, ws_for1, wp_and, wp_or, wp_tand, wp_tor, wp_ifE, wp_chain, gSlot, List.getElem?_cons_succ, List.getElem?_cons_zero, List.map_cons, List.map_nil, List.length_cons, List.length_nil, List.replicate_succ, List.replicate_zero, List.cons_append, List.nil_append, List.set_cons_succ, List.set_cons_zero, Option.some.injEq, exists_eq_left', Nat.reduceAdd, Nat.reduceSub, Nat.zero_add, Nat.add_zero, true_and, and_true, Vl.int.injEq, Vl.bl.injEq, Vl.loc.injEq, Vl.tup.injEq, exists_eq', exists_eq_left, Ob.lst.injEq, wp_of (t2 S5 hv), ws_ite]
  refine ⟨fun z => (by simp at z), fun _ => ?_⟩
  refine ⟨by decide, by decide, by decide, by decide, by decide, by decide, by decide, by decide, by decide, by decide, by decide, draw_ok D5.app.app (by decide) fun m2 S6 _ _ l6 D6 F6 => ?_⟩
  have z5 := D5.two
  simp only [wp_ret, wp_stuck, wp_ifs, wp_newL, wp_var, wp_c, wp_op, wp_un, wp_tval, wp_tnot, wp_not, wp_nil, wp_cons, wp_tup, wp_lst, wp_dct, wp_call, wp_app, wp_append, wp_ixT, wp_ixL, wp_put, wp_sl, wp_pn, wp_ps, wp_slT, wp_addI, wp_addT, wp_sub, wp_mul, wp_mulT, wp_div, wp_mod, wp_pow, wp_neg, wp_cmp, wp_eqI, wp_neI, wp_eqS, wp_neS, wp_is0, wp_not0, wp_isB, wp_notB, wp_lenT, wp_lenL, wp_tupT, wp_tupL, wp_lstT, ws_next, ws_brk, ws_cont, ws_seq, ws_expr, ws_ret, ws_retN, ws_set, ws_asg, ws_put, ws_raise, ws_if, ws_for1, wp_and, wp_or, wp_tand, wp_tor, wp_ifE, wp_chain, gSlot, List.getElem?_cons_succ, List.getElem?_cons_zero, List.map_cons, List.map_nil, List.length_cons, List.length_nil, List.replicate_succ, List.replicate_zero, List.cons_append, List.nil_append, List.set_cons_succ, List.set_cons_zero, Option.some.injEq, exists_eq_left', Nat.reduceAdd, Nat.reduceSub, Nat.zero_add, Nat.add_zero, true_and, and_true, Vl.int.injEq, Vl.bl.injEq, Vl.loc.injEq, Vl.tup.injEq, exists_eq', exists_eq_left, Ob.lst.injEq, F6.last (S := S5 ++ [Ob.lst [.int 1, .tup [], .tup []]]) (by simp <;> omega)]
  refine ⟨by decide, ?_⟩
  obtain ⟨p, hp, hm⟩ := ix_mod (xs := [.non, .tup [.int 0, .tup [], .tup []], .loc S5.length, .tup [.int 1, .tup [.tup [.int 0, .int 0, .int 3, .int 0]], .tup []]]) (m := m2) (j := 4) rfl (by decide)
  refine ⟨p, hp, ?_⟩
  have hloc := F6.get (get_mid (S := S5)) (by omega)
  have key : FineN S6 3 p ∧ isProg p = false := by
    simp only [List.mem_cons, List.not_mem_nil, or_false] at hm
    rcases hm with rfl | rfl | rfl | rfl
    · exact ⟨fine_atom (S := S6) (v := .non) rfl rfl 3, rfl⟩
    · refine ⟨((r0_tup (k := 2) (n := 203) 5 (fun x hx => ?_) (by decide) (by decide)).rp S6 false false).1 3, rfl⟩
      simp only [List.mem_cons, List.not_mem_nil, or_false] at hx
      rcases hx with rfl | rfl | rfl
      · exact (r0_int (by decide) (by decide)).mono (by decide) (by decide)
      · exact (r0_tup (k := 1) (n := 2) 0 (fun x hx => by cases hx) (by decide) (by decide)).mono (by decide) (by decide)
      · exact (r0_tup (k := 1) (n := 2) 0 (fun x hx => by cases hx) (by decide) (by decide)).mono (by decide) (by decide)
    · exact ⟨fine_atom (by show (tyN S6 (.loc S5.length)).isSome = true; simp [tyN, hloc]) rfl 3, rfl⟩
    · refine ⟨((r0_tup (k := 3) (n := 5000) 5 (fun x hx => ?_) (by decide) (by decide)).rp S6 false false).1 3, by decide +kernel⟩
      have e0 : ∀ {k n}, R0 (k + 1) (n + 3) (.tup []) := fun {k n} => (r0_tup (k := 0) (n := 0) 0 (fun x hx => by cases hx) (by decide) (by decide)).mono (by omega) (by omega)
      simp only [List.mem_cons, List.not_mem_nil, or_false] at hx
      rcases hx with rfl | rfl | rfl
      · exact (r0_int (by decide) (by decide)).mono (by decide) (by decide)
      · refine (r0_tup (k := 2) (n := 528) 5 (fun y hy => ?_) (by decide) (by decide)).mono (by decide) (by decide)
        simp only [List.mem_singleton] at hy
        subst hy
        refine (r0_tup (k := 1) (n := 103) 5 (fun z hz => ?_) (by decide) (by decide)).mono (by decide) (by decide)
        simp only [List.mem_cons, List.not_mem_nil, or_false] at hz
        rcases hz with rfl | rfl | rfl | rfl <;> exact r0_int (by decide) (by decide)
      · exact (r0_tup (k := 1) (n := 2) 0 (fun x hx => by cases hx) (by decide) (by decide)).mono (by decide) (by decide)
  have t3 : ∀ v, FineN S6 1 v → r__law_told [p, v] S6 = some (.ok (.str "program") S6) := fun v hf => by
    rw [told_ok key.1 hf, if_pos key.2]
  simp only [wp_ret, wp_stuck, wp_ifs, wp_newL, wp_var, wp_c, wp_op, wp_un, wp_tval, wp_tnot, wp_not, wp_nil, wp_cons, wp_tup, wp_lst, wp_dct, wp_call, wp_app, wp_append, wp_ixT, wp_ixL, wp_put, wp_sl, wp_pn, wp_ps, wp_slT, wp_addI, wp_addT, wp_sub, wp_mul, wp_mulT, wp_div, wp_mod, wp_pow, wp_neg, wp_cmp, wp_eqI, wp_neI, wp_eqS, wp_neS, wp_is0, wp_not0, wp_isB, wp_notB, wp_lenT, wp_lenL, wp_tupT, wp_tupL, wp_lstT, ws_next, ws_brk, ws_cont, ws_seq, ws_expr, ws_ret, ws_retN, ws_set, ws_asg, ws_put, ws_raise, ws_if, ws_for1, wp_and, wp_or, wp_tand, wp_tor, wp_ifE, wp_chain, gSlot, List.getElem?_cons_succ, List.getElem?_cons_zero, List.map_cons, List.map_nil, List.length_cons, List.length_nil, List.replicate_succ, List.replicate_zero, List.cons_append, List.nil_append, List.set_cons_succ, List.set_cons_zero, Option.some.injEq, exists_eq_left', Nat.reduceAdd, Nat.reduceSub, Nat.zero_add, Nat.add_zero, true_and, and_true, Vl.int.injEq, Vl.bl.injEq, Vl.loc.injEq, Vl.tup.injEq, exists_eq', exists_eq_left, Ob.lst.injEq, wp_of (t3 v (hv.up (by have := F6.1; simp at this; omega))), wp_of (t3 _ (hfs S6)), wp_ite]
  simp
end LW
end Tw
end

section
set_option Elab.async false
set_option maxRecDepth 100000
set_option maxHeartbeats 3000000
set_option linter.all false
namespace Tw
namespace LW
open PySem L2 PySem.Spec PyProof.Rows
theorem all_mk {q : Program} {w : World} {K : PySem.W.Frag} {h : Heap} {mg : Str → Option Value} {fa : Addr} (X : K.In h) (G : h.Ns mainGlobals mg) (hfa : mg "law" = some (.ref fa)) (T0 : Tabs0 q K mg h)
    {f_is_integer : Addr} {od_is_integer an_is_integer : Option Addr} {sl_is_integer : Array (Option Value)} {oc_is_integer kV_is_integer dc_is_integer pm_is_integer ct_is_integer : Value} {cd_is_integer : Value} {f_is_between : Addr} {od_is_between an_is_between : Option Addr} {sl_is_between : Array (Option Value)} {oc_is_between kV_is_between dc_is_between pm_is_between ct_is_between : Value} {cd_is_between : Value} {f_is_count : Addr} {od_is_count an_is_count : Option Addr} {sl_is_count : Array (Option Value)} {oc_is_count kV_is_count dc_is_count pm_is_count ct_is_count : Value} {cd_is_count : Value} {f_is_tuple_of : Addr} {od_is_tuple_of an_is_tuple_of : Option Addr} {sl_is_tuple_of : Array (Option Value)} {oc_is_tuple_of kV_is_tuple_of dc_is_tuple_of pm_is_tuple_of ct_is_tuple_of : Value} {cd_is_tuple_of : Value} {f_is_tuple_up_to : Addr} {od_is_tuple_up_to an_is_tuple_up_to : Option Addr} {sl_is_tuple_up_to : Array (Option Value)} {oc_is_tuple_up_to kV_is_tuple_up_to dc_is_tuple_up_to pm_is_tuple_up_to ct_is_tuple_up_to : Value} {cd_is_tuple_up_to : Value} {f__are_rooms : Addr} {od__are_rooms an__are_rooms : Option Addr} {sl__are_rooms : Array (Option Value)} {oc__are_rooms kV__are_rooms dc__are_rooms pm__are_rooms ct__are_rooms : Value} {ac__are_rooms pt__are_rooms : Addr} {dd__are_rooms : Option Addr} {vs__are_rooms : Array Value} {sx__are_rooms : Array (Option Value)} {f__is_step : Addr} {od__is_step an__is_step : Option Addr} {sl__is_step : Array (Option Value)} {oc__is_step kV__is_step dc__is_step pm__is_step ct__is_step : Value} {ac__is_step pt__is_step : Addr} {dd__is_step : Option Addr} {vs__is_step : Array Value} {sx__is_step : Array (Option Value)} {f__is_test : Addr} {od__is_test an__is_test : Option Addr} {sl__is_test : Array (Option Value)} {oc__is_test kV__is_test dc__is_test pm__is_test ct__is_test : Value} {cd__is_test : Value} {f_is_program : Addr} {od_is_program an_is_program : Option Addr} {sl_is_program : Array (Option Value)} {oc_is_program kV_is_program dc_is_program pm_is_program ct_is_program : Value} {ac_is_program pt_is_program : Addr} {dd_is_program : Option Addr} {vs_is_program : Array Value} {sx_is_program : Array (Option Value)} {f_check_program : Addr} {od_check_program an_check_program : Option Addr} {sl_check_program : Array (Option Value)} {oc_check_program kV_check_program dc_check_program pm_check_program ct_check_program : Value} {cd_check_program : Value} {f_is_place : Addr} {od_is_place an_is_place : Option Addr} {sl_is_place : Array (Option Value)} {oc_is_place kV_is_place dc_is_place pm_is_place ct_is_place : Value} {cd_is_place : Value} {f_check_place : Addr} {od_check_place an_check_place : Option Addr} {sl_check_place : Array (Option Value)} {oc_check_place kV_check_place dc_check_place pm_check_place ct_check_place : Value} {cd_check_place : Value} {f_check_standing : Addr} {od_check_standing an_check_standing : Option Addr} {sl_check_standing : Array (Option Value)} {oc_check_standing kV_check_standing dc_check_standing pm_check_standing ct_check_standing : Value} {cd_check_standing : Value} {f__law_mixed : Addr} {od__law_mixed an__law_mixed : Option Addr} {sl__law_mixed : Array (Option Value)} {oc__law_mixed kV__law_mixed dc__law_mixed pm__law_mixed ct__law_mixed : Value} {cd__law_mixed : Value} {f__law_numbers : Addr} {od__law_numbers an__law_numbers : Option Addr} {sl__law_numbers : Array (Option Value)} {oc__law_numbers kV__law_numbers dc__law_numbers pm__law_numbers ct__law_numbers : Value} {cd__law_numbers : Value} {f__law_draw : Addr} {od__law_draw an__law_draw : Option Addr} {sl__law_draw : Array (Option Value)} {oc__law_draw kV__law_draw dc__law_draw pm__law_draw ct__law_draw : Value} {cd__law_draw : Value} {f__law_program : Addr} {od__law_program an__law_program : Option Addr} {sl__law_program : Array (Option Value)} {oc__law_program kV__law_program dc__law_program pm__law_program ct__law_program : Value} {cd__law_program : Value} {f__law_purse : Addr} {od__law_purse an__law_purse : Option Addr} {sl__law_purse : Array (Option Value)} {oc__law_purse kV__law_purse dc__law_purse pm__law_purse ct__law_purse : Value} {cd__law_purse : Value} {f__law_spoilt : Addr} {od__law_spoilt an__law_spoilt : Option Addr} {sl__law_spoilt : Array (Option Value)} {oc__law_spoilt kV__law_spoilt dc__law_spoilt pm__law_spoilt ct__law_spoilt : Value} {cd__law_spoilt : Value} {f__law_told : Addr} {od__law_told an__law_told : Option Addr} {sl__law_told : Array (Option Value)} {oc__law_told kV__law_told dc__law_told pm__law_told ct__law_told : Value} {cd__law_told : Value} {f_law : Addr} {od_law an_law : Option Addr} {sl_law : Array (Option Value)} {oc_law kV_law dc_law pm_law ct_law : Value} {cd_law : Value} {t_MOST_MOVED : Tok} {t_MOST_ROOMS : Tok} {t_MOST_STEPS : Tok} {t_MOST_TESTS : Tok} {e_BadProgram : Addr} {e_BadStanding : Addr}
    (a_is_integer : PySem.W.nsIn K mainGlobals "is_integer" = some (some (.ref f_is_integer)))
    (l_is_integer : K.lookup f_is_integer = some ⟨oc_is_integer, od_is_integer, .func (PySem.W.fnOf "is_integer" "is_integer" (defArgs s_is_integer) (defBody s_is_integer) (defScope s_is_integer) .none kV_is_integer dc_is_integer pm_is_integer an_is_integer cd_is_integer ct_is_integer), sl_is_integer⟩)
    (c_is_integer : PySem.W.codeIn K cd_is_integer "is_integer" = true)
    (k_is_integer : PySem.W.keepIn K (.ref f_is_integer) = true)
    (a_is_between : PySem.W.nsIn K mainGlobals "is_between" = some (some (.ref f_is_between)))
    (l_is_between : K.lookup f_is_between = some ⟨oc_is_between, od_is_between, .func (PySem.W.fnOf "is_between" "is_between" (defArgs s_is_between) (defBody s_is_between) (defScope s_is_between) .none kV_is_between dc_is_between pm_is_between an_is_between cd_is_between ct_is_between), sl_is_between⟩)
    (c_is_between : PySem.W.codeIn K cd_is_between "is_between" = true)
    (k_is_between : PySem.W.keepIn K (.ref f_is_between) = true)
    (a_is_count : PySem.W.nsIn K mainGlobals "is_count" = some (some (.ref f_is_count)))
    (l_is_count : K.lookup f_is_count = some ⟨oc_is_count, od_is_count, .func (PySem.W.fnOf "is_count" "is_count" (defArgs s_is_count) (defBody s_is_count) (defScope s_is_count) .none kV_is_count dc_is_count pm_is_count an_is_count cd_is_count ct_is_count), sl_is_count⟩)
    (c_is_count : PySem.W.codeIn K cd_is_count "is_count" = true)
    (k_is_count : PySem.W.keepIn K (.ref f_is_count) = true)
    (a_is_tuple_of : PySem.W.nsIn K mainGlobals "is_tuple_of" = some (some (.ref f_is_tuple_of)))
    (l_is_tuple_of : K.lookup f_is_tuple_of = some ⟨oc_is_tuple_of, od_is_tuple_of, .func (PySem.W.fnOf "is_tuple_of" "is_tuple_of" (defArgs s_is_tuple_of) (defBody s_is_tuple_of) (defScope s_is_tuple_of) .none kV_is_tuple_of dc_is_tuple_of pm_is_tuple_of an_is_tuple_of cd_is_tuple_of ct_is_tuple_of), sl_is_tuple_of⟩)
    (c_is_tuple_of : PySem.W.codeIn K cd_is_tuple_of "is_tuple_of" = true)
    (k_is_tuple_of : PySem.W.keepIn K (.ref f_is_tuple_of) = true)
    (a_is_tuple_up_to : PySem.W.nsIn K mainGlobals "is_tuple_up_to" = some (some (.ref f_is_tuple_up_to)))
    (l_is_tuple_up_to : K.lookup f_is_tuple_up_to = some ⟨oc_is_tuple_up_to, od_is_tuple_up_to, .func (PySem.W.fnOf "is_tuple_up_to" "is_tuple_up_to" (defArgs s_is_tuple_up_to) (defBody s_is_tuple_up_to) (defScope s_is_tuple_up_to) .none kV_is_tuple_up_to dc_is_tuple_up_to pm_is_tuple_up_to an_is_tuple_up_to cd_is_tuple_up_to ct_is_tuple_up_to), sl_is_tuple_up_to⟩)
    (c_is_tuple_up_to : PySem.W.codeIn K cd_is_tuple_up_to "is_tuple_up_to" = true)
    (k_is_tuple_up_to : PySem.W.keepIn K (.ref f_is_tuple_up_to) = true)
    (a__are_rooms : PySem.W.nsIn K mainGlobals "_are_rooms" = some (some (.ref f__are_rooms)))
    (l__are_rooms : K.lookup f__are_rooms = some ⟨oc__are_rooms, od__are_rooms, .func (PySem.W.fnOf "_are_rooms" "_are_rooms" (defArgs s__are_rooms) (defBody s__are_rooms) (defScope s__are_rooms) .none kV__are_rooms dc__are_rooms pm__are_rooms an__are_rooms (.ref ac__are_rooms) ct__are_rooms), sl__are_rooms⟩)
    (c__are_rooms : PySem.W.codeIn K (.ref ac__are_rooms) "_are_rooms" = true)
    (k__are_rooms : PySem.W.keepIn K (.ref f__are_rooms) = true)
    (q__are_rooms : K.lookup ac__are_rooms = some ⟨.type "code", dd__are_rooms, .fields vs__are_rooms, sx__are_rooms⟩)
    (w__are_rooms : vs__are_rooms[11]? = some (.ref pt__are_rooms))
    (h__are_rooms : PySem.W.codeHdIn K ac__are_rooms pt__are_rooms = true)
    (n__are_rooms : K.lookup pt__are_rooms = none)
    (r__are_rooms_ : ((recsOf q).any fun e => e.name == ("_are_rooms" : Str)) = true)
    (a__is_step : PySem.W.nsIn K mainGlobals "_is_step" = some (some (.ref f__is_step)))
    (l__is_step : K.lookup f__is_step = some ⟨oc__is_step, od__is_step, .func (PySem.W.fnOf "_is_step" "_is_step" (defArgs s__is_step) (defBody s__is_step) (defScope s__is_step) .none kV__is_step dc__is_step pm__is_step an__is_step (.ref ac__is_step) ct__is_step), sl__is_step⟩)
    (c__is_step : PySem.W.codeIn K (.ref ac__is_step) "_is_step" = true)
    (k__is_step : PySem.W.keepIn K (.ref f__is_step) = true)
    (q__is_step : K.lookup ac__is_step = some ⟨.type "code", dd__is_step, .fields vs__is_step, sx__is_step⟩)
    (w__is_step : vs__is_step[11]? = some (.ref pt__is_step))
    (h__is_step : PySem.W.codeHdIn K ac__is_step pt__is_step = true)
    (n__is_step : K.lookup pt__is_step = none)
    (r__is_step_ : ((recsOf q).any fun e => e.name == ("_is_step" : Str)) = true)
    (a__is_test : PySem.W.nsIn K mainGlobals "_is_test" = some (some (.ref f__is_test)))
    (l__is_test : K.lookup f__is_test = some ⟨oc__is_test, od__is_test, .func (PySem.W.fnOf "_is_test" "_is_test" (defArgs s__is_test) (defBody s__is_test) (defScope s__is_test) .none kV__is_test dc__is_test pm__is_test an__is_test cd__is_test ct__is_test), sl__is_test⟩)
    (c__is_test : PySem.W.codeIn K cd__is_test "_is_test" = true)
    (k__is_test : PySem.W.keepIn K (.ref f__is_test) = true)
    (a_is_program : PySem.W.nsIn K mainGlobals "is_program" = some (some (.ref f_is_program)))
    (l_is_program : K.lookup f_is_program = some ⟨oc_is_program, od_is_program, .func (PySem.W.fnOf "is_program" "is_program" (defArgs s_is_program) (defBody s_is_program) (defScope s_is_program) .none kV_is_program dc_is_program pm_is_program an_is_program (.ref ac_is_program) ct_is_program), sl_is_program⟩)
    (c_is_program : PySem.W.codeIn K (.ref ac_is_program) "is_program" = true)
    (k_is_program : PySem.W.keepIn K (.ref f_is_program) = true)
    (q_is_program : K.lookup ac_is_program = some ⟨.type "code", dd_is_program, .fields vs_is_program, sx_is_program⟩)
    (w_is_program : vs_is_program[11]? = some (.ref pt_is_program))
    (h_is_program : PySem.W.codeHdIn K ac_is_program pt_is_program = true)
    (n_is_program : K.lookup pt_is_program = none)
    (r__is_program_ : ((recsOf q).any fun e => e.name == ("is_program" : Str)) = true)
    (a_check_program : PySem.W.nsIn K mainGlobals "check_program" = some (some (.ref f_check_program)))
    (l_check_program : K.lookup f_check_program = some ⟨oc_check_program, od_check_program, .func (PySem.W.fnOf "check_program" "check_program" (defArgs s_check_program) (defBody s_check_program) (defScope s_check_program) .none kV_check_program dc_check_program pm_check_program an_check_program cd_check_program ct_check_program), sl_check_program⟩)
    (c_check_program : PySem.W.codeIn K cd_check_program "check_program" = true)
    (k_check_program : PySem.W.keepIn K (.ref f_check_program) = true)
    (a_is_place : PySem.W.nsIn K mainGlobals "is_place" = some (some (.ref f_is_place)))
    (l_is_place : K.lookup f_is_place = some ⟨oc_is_place, od_is_place, .func (PySem.W.fnOf "is_place" "is_place" (defArgs s_is_place) (defBody s_is_place) (defScope s_is_place) .none kV_is_place dc_is_place pm_is_place an_is_place cd_is_place ct_is_place), sl_is_place⟩)
    (c_is_place : PySem.W.codeIn K cd_is_place "is_place" = true)
    (k_is_place : PySem.W.keepIn K (.ref f_is_place) = true)
    (a_check_place : PySem.W.nsIn K mainGlobals "check_place" = some (some (.ref f_check_place)))
    (l_check_place : K.lookup f_check_place = some ⟨oc_check_place, od_check_place, .func (PySem.W.fnOf "check_place" "check_place" (defArgs s_check_place) (defBody s_check_place) (defScope s_check_place) .none kV_check_place dc_check_place pm_check_place an_check_place cd_check_place ct_check_place), sl_check_place⟩)
    (c_check_place : PySem.W.codeIn K cd_check_place "check_place" = true)
    (k_check_place : PySem.W.keepIn K (.ref f_check_place) = true)
    (a_check_standing : PySem.W.nsIn K mainGlobals "check_standing" = some (some (.ref f_check_standing)))
    (l_check_standing : K.lookup f_check_standing = some ⟨oc_check_standing, od_check_standing, .func (PySem.W.fnOf "check_standing" "check_standing" (defArgs s_check_standing) (defBody s_check_standing) (defScope s_check_standing) .none kV_check_standing dc_check_standing pm_check_standing an_check_standing cd_check_standing ct_check_standing), sl_check_standing⟩)
    (c_check_standing : PySem.W.codeIn K cd_check_standing "check_standing" = true)
    (k_check_standing : PySem.W.keepIn K (.ref f_check_standing) = true)
    (a__law_mixed : PySem.W.nsIn K mainGlobals "_law_mixed" = some (some (.ref f__law_mixed)))
    (l__law_mixed : K.lookup f__law_mixed = some ⟨oc__law_mixed, od__law_mixed, .func (PySem.W.fnOf "_law_mixed" "_law_mixed" (defArgs s__law_mixed) (defBody s__law_mixed) (defScope s__law_mixed) .none kV__law_mixed dc__law_mixed pm__law_mixed an__law_mixed cd__law_mixed ct__law_mixed), sl__law_mixed⟩)
    (c__law_mixed : PySem.W.codeIn K cd__law_mixed "_law_mixed" = true)
    (k__law_mixed : PySem.W.keepIn K (.ref f__law_mixed) = true)
    (a__law_numbers : PySem.W.nsIn K mainGlobals "_law_numbers" = some (some (.ref f__law_numbers)))
    (l__law_numbers : K.lookup f__law_numbers = some ⟨oc__law_numbers, od__law_numbers, .func (PySem.W.fnOf "_law_numbers" "_law_numbers" (defArgs s__law_numbers) (defBody s__law_numbers) (defScope s__law_numbers) .none kV__law_numbers dc__law_numbers pm__law_numbers an__law_numbers cd__law_numbers ct__law_numbers), sl__law_numbers⟩)
    (c__law_numbers : PySem.W.codeIn K cd__law_numbers "_law_numbers" = true)
    (k__law_numbers : PySem.W.keepIn K (.ref f__law_numbers) = true)
    (a__law_draw : PySem.W.nsIn K mainGlobals "_law_draw" = some (some (.ref f__law_draw)))
    (l__law_draw : K.lookup f__law_draw = some ⟨oc__law_draw, od__law_draw, .func (PySem.W.fnOf "_law_draw" "_law_draw" (defArgs s__law_draw) (defBody s__law_draw) (defScope s__law_draw) .none kV__law_draw dc__law_draw pm__law_draw an__law_draw cd__law_draw ct__law_draw), sl__law_draw⟩)
    (c__law_draw : PySem.W.codeIn K cd__law_draw "_law_draw" = true)
    (k__law_draw : PySem.W.keepIn K (.ref f__law_draw) = true)
    (a__law_program : PySem.W.nsIn K mainGlobals "_law_program" = some (some (.ref f__law_program)))
    (l__law_program : K.lookup f__law_program = some ⟨oc__law_program, od__law_program, .func (PySem.W.fnOf "_law_program" "_law_program" (defArgs s__law_program) (defBody s__law_program) (defScope s__law_program) .none kV__law_program dc__law_program pm__law_program an__law_program cd__law_program ct__law_program), sl__law_program⟩)
    (c__law_program : PySem.W.codeIn K cd__law_program "_law_program" = true)
    (k__law_program : PySem.W.keepIn K (.ref f__law_program) = true)
    (a__law_purse : PySem.W.nsIn K mainGlobals "_law_purse" = some (some (.ref f__law_purse)))
    (l__law_purse : K.lookup f__law_purse = some ⟨oc__law_purse, od__law_purse, .func (PySem.W.fnOf "_law_purse" "_law_purse" (defArgs s__law_purse) (defBody s__law_purse) (defScope s__law_purse) .none kV__law_purse dc__law_purse pm__law_purse an__law_purse cd__law_purse ct__law_purse), sl__law_purse⟩)
    (c__law_purse : PySem.W.codeIn K cd__law_purse "_law_purse" = true)
    (k__law_purse : PySem.W.keepIn K (.ref f__law_purse) = true)
    (a__law_spoilt : PySem.W.nsIn K mainGlobals "_law_spoilt" = some (some (.ref f__law_spoilt)))
    (l__law_spoilt : K.lookup f__law_spoilt = some ⟨oc__law_spoilt, od__law_spoilt, .func (PySem.W.fnOf "_law_spoilt" "_law_spoilt" (defArgs s__law_spoilt) (defBody s__law_spoilt) (defScope s__law_spoilt) .none kV__law_spoilt dc__law_spoilt pm__law_spoilt an__law_spoilt cd__law_spoilt ct__law_spoilt), sl__law_spoilt⟩)
    (c__law_spoilt : PySem.W.codeIn K cd__law_spoilt "_law_spoilt" = true)
    (k__law_spoilt : PySem.W.keepIn K (.ref f__law_spoilt) = true)
    (a__law_told : PySem.W.nsIn K mainGlobals "_law_told" = some (some (.ref f__law_told)))
    (l__law_told : K.lookup f__law_told = some ⟨oc__law_told, od__law_told, .func (PySem.W.fnOf "_law_told" "_law_told" (defArgs s__law_told) (defBody s__law_told) (defScope s__law_told) .none kV__law_told dc__law_told pm__law_told an__law_told cd__law_told ct__law_told), sl__law_told⟩)
    (c__law_told : PySem.W.codeIn K cd__law_told "_law_told" = true)
    (k__law_told : PySem.W.keepIn K (.ref f__law_told) = true)
    (a_law : PySem.W.nsIn K mainGlobals "law" = some (some (.ref f_law)))
    (l_law : K.lookup f_law = some ⟨oc_law, od_law, .func (PySem.W.fnOf "law" "law" (defArgs s_law) (defBody s_law) (defScope s_law) .none kV_law dc_law pm_law an_law cd_law ct_law), sl_law⟩)
    (c_law : PySem.W.codeIn K cd_law "law" = true)
    (k_law : PySem.W.keepIn K (.ref f_law) = true)
    (z_isinstance : PySem.W.nsIn K mainGlobals "isinstance" = some none)
    (z_int : PySem.W.nsIn K mainGlobals "int" = some none)
    (z_bool : PySem.W.nsIn K mainGlobals "bool" = some none)
    (z_tuple : PySem.W.nsIn K mainGlobals "tuple" = some none)
    (z_len : PySem.W.nsIn K mainGlobals "len" = some none)
    (z_all : PySem.W.nsIn K mainGlobals "all" = some none)
    (z_range : PySem.W.nsIn K mainGlobals "range" = some none)
    (v_MOST_MOVED : PySem.W.nsIn K mainGlobals "MOST_MOVED" = some (some (.int 2 t_MOST_MOVED)))
    (v_MOST_ROOMS : PySem.W.nsIn K mainGlobals "MOST_ROOMS" = some (some (.int 3 t_MOST_ROOMS)))
    (v_MOST_STEPS : PySem.W.nsIn K mainGlobals "MOST_STEPS" = some (some (.int 4 t_MOST_STEPS)))
    (v_MOST_TESTS : PySem.W.nsIn K mainGlobals "MOST_TESTS" = some (some (.int 2 t_MOST_TESTS)))
    (b_BadProgram : PySem.W.nsIn K mainGlobals "BadProgram" = some (some (.ref e_BadProgram)))
    (b_BadStanding : PySem.W.nsIn K mainGlobals "BadStanding" = some (some (.ref e_BadStanding)))
    (x1_BadProgram : PySem.W.excIn K e_BadProgram [.type "ValueError", .type "Exception", .type "BaseException", .type "object"] "ValueError.__new__" = true)
    (x2_BadProgram : PySem.W.keepIn K (.ref e_BadProgram) = true)
    (x3_BadProgram : PySem.W.subIn K (.ref e_BadProgram) (.type "BaseException") = some true)
    (x4_BadProgram : PySem.W.typeIn K (.ref e_BadProgram) = some (.type "type"))
    (x1_BadStanding : PySem.W.excIn K e_BadStanding [.type "ValueError", .type "Exception", .type "BaseException", .type "object"] "ValueError.__new__" = true)
    (x2_BadStanding : PySem.W.keepIn K (.ref e_BadStanding) = true)
    (x3_BadStanding : PySem.W.subIn K (.ref e_BadStanding) (.type "BaseException") = some true)
    (x4_BadStanding : PySem.W.typeIn K (.ref e_BadStanding) = some (.type "type"))
    (hd_BadStanding : PySem.W.hasDictIn K e_BadStanding = true)
    (su_BadStanding_BadStanding : PySem.W.subIn K (.ref e_BadStanding) (.ref e_BadStanding) = some true)
    (su_BadProgram_BadStanding : PySem.W.subIn K (.ref e_BadProgram) (.ref e_BadStanding) = some false)
    (hd_BadProgram : PySem.W.hasDictIn K e_BadProgram = true)
    (su_BadProgram_BadProgram : PySem.W.subIn K (.ref e_BadProgram) (.ref e_BadProgram) = some true)
    (su_BadStanding_BadProgram : PySem.W.subIn K (.ref e_BadStanding) (.ref e_BadProgram) = some false) :
    LawG PySem.Challenge.pw_twinpurse_k02_standings_are_checked w K 11 "script" mg fa h := by
  have m_is_integer := PySem.W.mg_of X G a_is_integer
  have m_is_between := PySem.W.mg_of X G a_is_between
  have m_is_count := PySem.W.mg_of X G a_is_count
  have m_is_tuple_of := PySem.W.mg_of X G a_is_tuple_of
  have m_is_tuple_up_to := PySem.W.mg_of X G a_is_tuple_up_to
  have m__are_rooms := PySem.W.mg_of X G a__are_rooms
  have m__is_step := PySem.W.mg_of X G a__is_step
  have m__is_test := PySem.W.mg_of X G a__is_test
  have m_is_program := PySem.W.mg_of X G a_is_program
  have m_check_program := PySem.W.mg_of X G a_check_program
  have m_is_place := PySem.W.mg_of X G a_is_place
  have m_check_place := PySem.W.mg_of X G a_check_place
  have m_check_standing := PySem.W.mg_of X G a_check_standing
  have m__law_mixed := PySem.W.mg_of X G a__law_mixed
  have m__law_numbers := PySem.W.mg_of X G a__law_numbers
  have m__law_draw := PySem.W.mg_of X G a__law_draw
  have m__law_program := PySem.W.mg_of X G a__law_program
  have m__law_purse := PySem.W.mg_of X G a__law_purse
  have m__law_spoilt := PySem.W.mg_of X G a__law_spoilt
  have m__law_told := PySem.W.mg_of X G a__law_told
  have m_law := PySem.W.mg_of X G a_law
  have g_isinstance := PySem.W.mg_none_of X G z_isinstance
  have g_int := PySem.W.mg_none_of X G z_int
  have g_bool := PySem.W.mg_none_of X G z_bool
  have g_tuple := PySem.W.mg_none_of X G z_tuple
  have g_len := PySem.W.mg_none_of X G z_len
  have g_all := PySem.W.mg_none_of X G z_all
  have g_range := PySem.W.mg_none_of X G z_range
  have u_MOST_MOVED := PySem.W.mg_of X G v_MOST_MOVED
  have u_MOST_ROOMS := PySem.W.mg_of X G v_MOST_ROOMS
  have u_MOST_STEPS := PySem.W.mg_of X G v_MOST_STEPS
  have u_MOST_TESTS := PySem.W.mg_of X G v_MOST_TESTS
  have o_BadProgram := PySem.W.mg_of X G b_BadProgram
  have o_BadStanding := PySem.W.mg_of X G b_BadStanding
  have x_BadProgram : XFact K mg "BadProgram" e_BadProgram := ⟨x1_BadProgram, o_BadProgram, x2_BadProgram, x3_BadProgram, x4_BadProgram⟩
  have x_BadStanding : XFact K mg "BadStanding" e_BadStanding := ⟨x1_BadStanding, o_BadStanding, x2_BadStanding, x3_BadStanding, x4_BadStanding⟩
  cases hfa.symm.trans m_law
  refine ⟨PySem.W.fnOf "law" "law" (defArgs s_law) (defBody s_law) (defScope s_law) .none kV_law dc_law pm_law an_law cd_law ct_law, [(ac__are_rooms, pt__are_rooms), (ac__is_step, pt__is_step), (ac_is_program, pt_is_program)], r_law, (by simp only [List.forall_mem_cons, List.not_mem_nil, false_imp_iff, implies_true, and_true]; exact ⟨T0 "_are_rooms" _ _ _ _ _ _ _ r__are_rooms_ m__are_rooms l__are_rooms rfl h__are_rooms, T0 "_is_step" _ _ _ _ _ _ _ r__is_step_ m__is_step l__is_step rfl h__is_step, T0 "is_program" _ _ _ _ _ _ _ r__is_program_ m_is_program l_is_program rfl h_is_program⟩), (by simp only [List.forall_mem_cons, List.not_mem_nil, false_imp_iff, implies_true, and_true]; exact ⟨n__are_rooms, n__is_step, n_is_program⟩), (by simp only [List.forall_mem_cons, List.not_mem_nil, false_imp_iff, implies_true, and_true]; exact ⟨h__are_rooms, h__is_step, h_is_program⟩), fun s u => .of_eq rfl, fun ns hl => law_ok hl, fun base iK nB TB => ?_⟩
  have kc_BadStanding_BadProgram : Clause ⟨K, mg, ([(ac__are_rooms, pt__are_rooms), (ac__is_step, pt__is_step), (ac_is_program, pt_is_program)] : List (Addr × Addr)).map (·.2)⟩ (.ref e_BadStanding) (tkx "BadStanding" ["BadProgram"]) := clause_of o_BadStanding (PySem.W.exm_ref x3_BadStanding hd_BadStanding x4_BadStanding su_BadStanding_BadStanding) (fun y hy => by
    simp only [List.mem_cons, List.not_mem_nil, or_false] at hy
    subst hy
    exact ⟨_, o_BadProgram, PySem.W.exm_ref x3_BadStanding hd_BadStanding x4_BadStanding su_BadProgram_BadStanding⟩)
  have kc_BadProgram_BadStanding : Clause ⟨K, mg, ([(ac__are_rooms, pt__are_rooms), (ac__is_step, pt__is_step), (ac_is_program, pt_is_program)] : List (Addr × Addr)).map (·.2)⟩ (.ref e_BadProgram) (tkx "BadProgram" ["BadStanding"]) := clause_of o_BadProgram (PySem.W.exm_ref x3_BadProgram hd_BadProgram x4_BadProgram su_BadProgram_BadProgram) (fun y hy => by
    simp only [List.mem_cons, List.not_mem_nil, or_false] at hy
    subst hy
    exact ⟨_, o_BadStanding, PySem.W.exm_ref x3_BadProgram hd_BadProgram x4_BadProgram su_BadStanding_BadProgram⟩)
  have TB__are_rooms := TB (ac__are_rooms, pt__are_rooms) (by simp)
  have TB__is_step := TB (ac__is_step, pt__is_step) (by simp)
  have TB_is_program := TB (ac_is_program, pt_is_program) (by simp)
  have D_is_integer := d_is_integer (P := PySem.Challenge.pw_twinpurse_k02_standings_are_checked) (w := w) (base := base) (tabs := (([(ac__are_rooms, pt__are_rooms), (ac__is_step, pt__is_step), (ac_is_program, pt_is_program)] : List (Addr × Addr)).map (·.2))) m_is_integer l_is_integer c_is_integer k_is_integer g_isinstance g_int g_bool
  have D_is_between := d_is_between (P := PySem.Challenge.pw_twinpurse_k02_standings_are_checked) (w := w) (base := base) (tabs := (([(ac__are_rooms, pt__are_rooms), (ac__is_step, pt__is_step), (ac_is_program, pt_is_program)] : List (Addr × Addr)).map (·.2))) m_is_between l_is_between c_is_between k_is_between D_is_integer
  have D_is_count := d_is_count (P := PySem.Challenge.pw_twinpurse_k02_standings_are_checked) (w := w) (base := base) (tabs := (([(ac__are_rooms, pt__are_rooms), (ac__is_step, pt__is_step), (ac_is_program, pt_is_program)] : List (Addr × Addr)).map (·.2))) m_is_count l_is_count c_is_count k_is_count D_is_integer
  have D_is_tuple_of := d_is_tuple_of (P := PySem.Challenge.pw_twinpurse_k02_standings_are_checked) (w := w) (base := base) (tabs := (([(ac__are_rooms, pt__are_rooms), (ac__is_step, pt__is_step), (ac_is_program, pt_is_program)] : List (Addr × Addr)).map (·.2))) m_is_tuple_of l_is_tuple_of c_is_tuple_of k_is_tuple_of g_isinstance g_tuple g_len
  have D_is_tuple_up_to := d_is_tuple_up_to (P := PySem.Challenge.pw_twinpurse_k02_standings_are_checked) (w := w) (base := base) (tabs := (([(ac__are_rooms, pt__are_rooms), (ac__is_step, pt__is_step), (ac_is_program, pt_is_program)] : List (Addr × Addr)).map (·.2))) m_is_tuple_up_to l_is_tuple_up_to c_is_tuple_up_to k_is_tuple_up_to g_isinstance g_tuple g_len
  have D__are_rooms := d__are_rooms (P := PySem.Challenge.pw_twinpurse_k02_standings_are_checked) (w := w) (base := base) (tabs := (([(ac__are_rooms, pt__are_rooms), (ac__is_step, pt__is_step), (ac_is_program, pt_is_program)] : List (Addr × Addr)).map (·.2))) m__are_rooms l__are_rooms c__are_rooms k__are_rooms D_is_between g_all TB__are_rooms (by simp)
  have D__is_step := d__is_step (P := PySem.Challenge.pw_twinpurse_k02_standings_are_checked) (w := w) (base := base) (tabs := (([(ac__are_rooms, pt__are_rooms), (ac__is_step, pt__is_step), (ac_is_program, pt_is_program)] : List (Addr × Addr)).map (·.2))) m__is_step l__is_step c__is_step k__is_step D_is_tuple_of D__are_rooms D_is_between g_all u_MOST_MOVED TB__is_step (by simp)
  have D__is_test := d__is_test (P := PySem.Challenge.pw_twinpurse_k02_standings_are_checked) (w := w) (base := base) (tabs := (([(ac__are_rooms, pt__are_rooms), (ac__is_step, pt__is_step), (ac_is_program, pt_is_program)] : List (Addr × Addr)).map (·.2))) m__is_test l__is_test c__is_test k__is_test D_is_tuple_of D__are_rooms
  have D_is_program := d_is_program (P := PySem.Challenge.pw_twinpurse_k02_standings_are_checked) (w := w) (base := base) (tabs := (([(ac__are_rooms, pt__are_rooms), (ac__is_step, pt__is_step), (ac_is_program, pt_is_program)] : List (Addr × Addr)).map (·.2))) m_is_program l_is_program c_is_program k_is_program D_is_tuple_of D_is_between D_is_tuple_up_to D__is_step D__is_test g_all u_MOST_ROOMS u_MOST_STEPS u_MOST_TESTS TB_is_program (by simp)
  have D_check_program := d_check_program (P := PySem.Challenge.pw_twinpurse_k02_standings_are_checked) (w := w) (base := base) (tabs := (([(ac__are_rooms, pt__are_rooms), (ac__is_step, pt__is_step), (ac_is_program, pt_is_program)] : List (Addr × Addr)).map (·.2))) m_check_program l_check_program c_check_program k_check_program D_is_program x_BadProgram
  have D_is_place := d_is_place (P := PySem.Challenge.pw_twinpurse_k02_standings_are_checked) (w := w) (base := base) (tabs := (([(ac__are_rooms, pt__are_rooms), (ac__is_step, pt__is_step), (ac_is_program, pt_is_program)] : List (Addr × Addr)).map (·.2))) m_is_place l_is_place c_is_place k_is_place D_is_tuple_of D_is_between D_is_count
  have D_check_place := d_check_place (P := PySem.Challenge.pw_twinpurse_k02_standings_are_checked) (w := w) (base := base) (tabs := (([(ac__are_rooms, pt__are_rooms), (ac__is_step, pt__is_step), (ac_is_program, pt_is_program)] : List (Addr × Addr)).map (·.2))) m_check_place l_check_place c_check_place k_check_place D_is_place x_BadStanding
  have D_check_standing := d_check_standing (P := PySem.Challenge.pw_twinpurse_k02_standings_are_checked) (w := w) (base := base) (tabs := (([(ac__are_rooms, pt__are_rooms), (ac__is_step, pt__is_step), (ac_is_program, pt_is_program)] : List (Addr × Addr)).map (·.2))) m_check_standing l_check_standing c_check_standing k_check_standing D_check_program D_check_place
  have D__law_mixed := d__law_mixed (P := PySem.Challenge.pw_twinpurse_k02_standings_are_checked) (w := w) (base := base) (tabs := (([(ac__are_rooms, pt__are_rooms), (ac__is_step, pt__is_step), (ac_is_program, pt_is_program)] : List (Addr × Addr)).map (·.2))) m__law_mixed l__law_mixed c__law_mixed k__law_mixed 
  have D__law_numbers := d__law_numbers (P := PySem.Challenge.pw_twinpurse_k02_standings_are_checked) (w := w) (base := base) (tabs := (([(ac__are_rooms, pt__are_rooms), (ac__is_step, pt__is_step), (ac_is_program, pt_is_program)] : List (Addr × Addr)).map (·.2))) m__law_numbers l__law_numbers c__law_numbers k__law_numbers D__law_mixed g_range
  have D__law_draw := d__law_draw (P := PySem.Challenge.pw_twinpurse_k02_standings_are_checked) (w := w) (base := base) (tabs := (([(ac__are_rooms, pt__are_rooms), (ac__is_step, pt__is_step), (ac_is_program, pt_is_program)] : List (Addr × Addr)).map (·.2))) m__law_draw l__law_draw c__law_draw k__law_draw D__law_mixed g_len
  have D__law_program := d__law_program (P := PySem.Challenge.pw_twinpurse_k02_standings_are_checked) (w := w) (base := base) (tabs := (([(ac__are_rooms, pt__are_rooms), (ac__is_step, pt__is_step), (ac_is_program, pt_is_program)] : List (Addr × Addr)).map (·.2))) m__law_program l__law_program c__law_program k__law_program D__law_draw g_range g_tuple
  have D__law_purse := d__law_purse (P := PySem.Challenge.pw_twinpurse_k02_standings_are_checked) (w := w) (base := base) (tabs := (([(ac__are_rooms, pt__are_rooms), (ac__is_step, pt__is_step), (ac_is_program, pt_is_program)] : List (Addr × Addr)).map (·.2))) m__law_purse l__law_purse c__law_purse k__law_purse D__law_draw
  have D__law_spoilt := d__law_spoilt (P := PySem.Challenge.pw_twinpurse_k02_standings_are_checked) (w := w) (base := base) (tabs := (([(ac__are_rooms, pt__are_rooms), (ac__is_step, pt__is_step), (ac_is_program, pt_is_program)] : List (Addr × Addr)).map (·.2))) m__law_spoilt l__law_spoilt c__law_spoilt k__law_spoilt D__law_draw
  have D__law_told := d__law_told (P := PySem.Challenge.pw_twinpurse_k02_standings_are_checked) (w := w) (base := base) (tabs := (([(ac__are_rooms, pt__are_rooms), (ac__is_step, pt__is_step), (ac_is_program, pt_is_program)] : List (Addr × Addr)).map (·.2))) m__law_told l__law_told c__law_told k__law_told D_check_standing x_BadStanding x_BadProgram kc_BadStanding_BadProgram kc_BadProgram_BadStanding
  exact g_law l_law c_law D__law_numbers D__law_program D__law_purse D__law_draw D__law_told D__law_spoilt
end LW
end Tw
end

section
set_option Elab.async false
set_option linter.all false
open PySem PySem.W PyProof.Rows in
set_option maxRecDepth 100000 in
set_option maxHeartbeats 0 in
theorem PySem.Challenge.cw_twinpurse_k02_standings_are_checked_holds : PySem.Challenge.rw_twinpurse_k02_standings_are_checked.Holds := by
  w_on; o_law; k_head; (case hw => w_witness2)
  k_fill
  refine Tw.walkG (l := PySem.Challenge.rw_twinpurse_k02_standings_are_checked) (k := 11) (x := "script") rfl rfl ⟨rfl, by decide, by decide⟩ (fun w h Y => PySem.W.kIn_of Y) ?F
  case F =>
    intro w mg fa h Y KX G hmg T0
    refine' Tw.LW.all_mk KX G hmg T0 ?a_is_integer ?l_is_integer ?c_is_integer ?k_is_integer ?a_is_between ?l_is_between ?c_is_between ?k_is_between ?a_is_count ?l_is_count ?c_is_count ?k_is_count ?a_is_tuple_of ?l_is_tuple_of ?c_is_tuple_of ?k_is_tuple_of ?a_is_tuple_up_to ?l_is_tuple_up_to ?c_is_tuple_up_to ?k_is_tuple_up_to ?a__are_rooms ?l__are_rooms ?c__are_rooms ?k__are_rooms ?q__are_rooms ?w__are_rooms ?h__are_rooms ?n__are_rooms ?r__are_rooms_ ?a__is_step ?l__is_step ?c__is_step ?k__is_step ?q__is_step ?w__is_step ?h__is_step ?n__is_step ?r__is_step_ ?a__is_test ?l__is_test ?c__is_test ?k__is_test ?a_is_program ?l_is_program ?c_is_program ?k_is_program ?q_is_program ?w_is_program ?h_is_program ?n_is_program ?r__is_program_ ?a_check_program ?l_check_program ?c_check_program ?k_check_program ?a_is_place ?l_is_place ?c_is_place ?k_is_place ?a_check_place ?l_check_place ?c_check_place ?k_check_place ?a_check_standing ?l_check_standing ?c_check_standing ?k_check_standing ?a__law_mixed ?l__law_mixed ?c__law_mixed ?k__law_mixed ?a__law_numbers ?l__law_numbers ?c__law_numbers ?k__law_numbers ?a__law_draw ?l__law_draw ?c__law_draw ?k__law_draw ?a__law_program ?l__law_program ?c__law_program ?k__law_program ?a__law_purse ?l__law_purse ?c__law_purse ?k__law_purse ?a__law_spoilt ?l__law_spoilt ?c__law_spoilt ?k__law_spoilt ?a__law_told ?l__law_told ?c__law_told ?k__law_told ?a_law ?l_law ?c_law ?k_law ?z_isinstance ?z_int ?z_bool ?z_tuple ?z_len ?z_all ?z_range ?v_MOST_MOVED ?v_MOST_ROOMS ?v_MOST_STEPS ?v_MOST_TESTS ?b_BadProgram ?b_BadStanding ?x1_BadProgram ?x2_BadProgram ?x3_BadProgram ?x4_BadProgram ?x1_BadStanding ?x2_BadStanding ?x3_BadStanding ?x4_BadStanding ?hd_BadStanding ?su_BadStanding_BadStanding ?su_BadProgram_BadStanding ?hd_BadProgram ?su_BadProgram_BadProgram ?su_BadStanding_BadProgram
    (case a_is_integer => first | k_is | rfl | kernel_rfl)
    (case l_is_integer => first | k_is | rfl | kernel_rfl)
    (case c_is_integer => first | k_is | rfl | kernel_rfl)
    (case k_is_integer => first | k_is | rfl | kernel_rfl)
    (case a_is_between => first | k_is | rfl | kernel_rfl)
    (case l_is_between => first | k_is | rfl | kernel_rfl)
    (case c_is_between => first | k_is | rfl | kernel_rfl)
    (case k_is_between => first | k_is | rfl | kernel_rfl)
    (case a_is_count => first | k_is | rfl | kernel_rfl)
    (case l_is_count => first | k_is | rfl | kernel_rfl)
    (case c_is_count => first | k_is | rfl | kernel_rfl)
    (case k_is_count => first | k_is | rfl | kernel_rfl)
    (case a_is_tuple_of => first | k_is | rfl | kernel_rfl)
    (case l_is_tuple_of => first | k_is | rfl | kernel_rfl)
    (case c_is_tuple_of => first | k_is | rfl | kernel_rfl)
    (case k_is_tuple_of => first | k_is | rfl | kernel_rfl)
    (case a_is_tuple_up_to => first | k_is | rfl | kernel_rfl)
    (case l_is_tuple_up_to => first | k_is | rfl | kernel_rfl)
    (case c_is_tuple_up_to => first | k_is | rfl | kernel_rfl)
    (case k_is_tuple_up_to => first | k_is | rfl | kernel_rfl)
    (case a__are_rooms => first | k_is | rfl | kernel_rfl)
    (case l__are_rooms => first | k_is | rfl | kernel_rfl)
    (case c__are_rooms => first | k_is | rfl | kernel_rfl)
    (case k__are_rooms => first | k_is | rfl | kernel_rfl)
    (case q__are_rooms => first | k_is | rfl | kernel_rfl)
    (case w__are_rooms => first | k_is | rfl | kernel_rfl)
    (case h__are_rooms => first | k_is | rfl | kernel_rfl)
    (case n__are_rooms => first | k_is | rfl | kernel_rfl)
    (case r__are_rooms_ => first | k_is | rfl | kernel_rfl)
    (case a__is_step => first | k_is | rfl | kernel_rfl)
    (case l__is_step => first | k_is | rfl | kernel_rfl)
    (case c__is_step => first | k_is | rfl | kernel_rfl)
    (case k__is_step => first | k_is | rfl | kernel_rfl)
    (case q__is_step => first | k_is | rfl | kernel_rfl)
    (case w__is_step => first | k_is | rfl | kernel_rfl)
    (case h__is_step => first | k_is | rfl | kernel_rfl)
    (case n__is_step => first | k_is | rfl | kernel_rfl)
    (case r__is_step_ => first | k_is | rfl | kernel_rfl)
    (case a__is_test => first | k_is | rfl | kernel_rfl)
    (case l__is_test => first | k_is | rfl | kernel_rfl)
    (case c__is_test => first | k_is | rfl | kernel_rfl)
    (case k__is_test => first | k_is | rfl | kernel_rfl)
    (case a_is_program => first | k_is | rfl | kernel_rfl)
    (case l_is_program => first | k_is | rfl | kernel_rfl)
    (case c_is_program => first | k_is | rfl | kernel_rfl)
    (case k_is_program => first | k_is | rfl | kernel_rfl)
    (case q_is_program => first | k_is | rfl | kernel_rfl)
    (case w_is_program => first | k_is | rfl | kernel_rfl)
    (case h_is_program => first | k_is | rfl | kernel_rfl)
    (case n_is_program => first | k_is | rfl | kernel_rfl)
    (case r__is_program_ => first | k_is | rfl | kernel_rfl)
    (case a_check_program => first | k_is | rfl | kernel_rfl)
    (case l_check_program => first | k_is | rfl | kernel_rfl)
    (case c_check_program => first | k_is | rfl | kernel_rfl)
    (case k_check_program => first | k_is | rfl | kernel_rfl)
    (case a_is_place => first | k_is | rfl | kernel_rfl)
    (case l_is_place => first | k_is | rfl | kernel_rfl)
    (case c_is_place => first | k_is | rfl | kernel_rfl)
    (case k_is_place => first | k_is | rfl | kernel_rfl)
    (case a_check_place => first | k_is | rfl | kernel_rfl)
    (case l_check_place => first | k_is | rfl | kernel_rfl)
    (case c_check_place => first | k_is | rfl | kernel_rfl)
    (case k_check_place => first | k_is | rfl | kernel_rfl)
    (case a_check_standing => first | k_is | rfl | kernel_rfl)
    (case l_check_standing => first | k_is | rfl | kernel_rfl)
    (case c_check_standing => first | k_is | rfl | kernel_rfl)
    (case k_check_standing => first | k_is | rfl | kernel_rfl)
    (case a__law_mixed => first | k_is | rfl | kernel_rfl)
    (case l__law_mixed => first | k_is | rfl | kernel_rfl)
    (case c__law_mixed => first | k_is | rfl | kernel_rfl)
    (case k__law_mixed => first | k_is | rfl | kernel_rfl)
    (case a__law_numbers => first | k_is | rfl | kernel_rfl)
    (case l__law_numbers => first | k_is | rfl | kernel_rfl)
    (case c__law_numbers => first | k_is | rfl | kernel_rfl)
    (case k__law_numbers => first | k_is | rfl | kernel_rfl)
    (case a__law_draw => first | k_is | rfl | kernel_rfl)
    (case l__law_draw => first | k_is | rfl | kernel_rfl)
    (case c__law_draw => first | k_is | rfl | kernel_rfl)
    (case k__law_draw => first | k_is | rfl | kernel_rfl)
    (case a__law_program => first | k_is | rfl | kernel_rfl)
    (case l__law_program => first | k_is | rfl | kernel_rfl)
    (case c__law_program => first | k_is | rfl | kernel_rfl)
    (case k__law_program => first | k_is | rfl | kernel_rfl)
    (case a__law_purse => first | k_is | rfl | kernel_rfl)
    (case l__law_purse => first | k_is | rfl | kernel_rfl)
    (case c__law_purse => first | k_is | rfl | kernel_rfl)
    (case k__law_purse => first | k_is | rfl | kernel_rfl)
    (case a__law_spoilt => first | k_is | rfl | kernel_rfl)
    (case l__law_spoilt => first | k_is | rfl | kernel_rfl)
    (case c__law_spoilt => first | k_is | rfl | kernel_rfl)
    (case k__law_spoilt => first | k_is | rfl | kernel_rfl)
    (case a__law_told => first | k_is | rfl | kernel_rfl)
    (case l__law_told => first | k_is | rfl | kernel_rfl)
    (case c__law_told => first | k_is | rfl | kernel_rfl)
    (case k__law_told => first | k_is | rfl | kernel_rfl)
    (case a_law => first | k_is | rfl | kernel_rfl)
    (case l_law => first | k_is | rfl | kernel_rfl)
    (case c_law => first | k_is | rfl | kernel_rfl)
    (case k_law => first | k_is | rfl | kernel_rfl)
    (case z_isinstance => first | k_is | rfl | kernel_rfl)
    (case z_int => first | k_is | rfl | kernel_rfl)
    (case z_bool => first | k_is | rfl | kernel_rfl)
    (case z_tuple => first | k_is | rfl | kernel_rfl)
    (case z_len => first | k_is | rfl | kernel_rfl)
    (case z_all => first | k_is | rfl | kernel_rfl)
    (case z_range => first | k_is | rfl | kernel_rfl)
    (case v_MOST_MOVED => first | k_is | rfl | kernel_rfl)
    (case v_MOST_ROOMS => first | k_is | rfl | kernel_rfl)
    (case v_MOST_STEPS => first | k_is | rfl | kernel_rfl)
    (case v_MOST_TESTS => first | k_is | rfl | kernel_rfl)
    (case b_BadProgram => first | k_is | rfl | kernel_rfl)
    (case b_BadStanding => first | k_is | rfl | kernel_rfl)
    (case x1_BadProgram => first | k_is | rfl | kernel_rfl)
    (case x2_BadProgram => first | k_is | rfl | kernel_rfl)
    (case x3_BadProgram => first | k_is | rfl | kernel_rfl)
    (case x4_BadProgram => first | k_is | rfl | kernel_rfl)
    (case x1_BadStanding => first | k_is | rfl | kernel_rfl)
    (case x2_BadStanding => first | k_is | rfl | kernel_rfl)
    (case x3_BadStanding => first | k_is | rfl | kernel_rfl)
    (case x4_BadStanding => first | k_is | rfl | kernel_rfl)
    (case hd_BadStanding => first | k_is | rfl | kernel_rfl)
    (case su_BadStanding_BadStanding => first | k_is | rfl | kernel_rfl)
    (case su_BadProgram_BadStanding => first | k_is | rfl | kernel_rfl)
    (case hd_BadProgram => first | k_is | rfl | kernel_rfl)
    (case su_BadProgram_BadProgram => first | k_is | rfl | kernel_rfl)
    (case su_BadStanding_BadProgram => first | k_is | rfl | kernel_rfl)
end
