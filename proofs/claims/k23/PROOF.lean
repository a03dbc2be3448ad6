import PyProof.Rows.All
import Wide.All
import OpenK.AllK
import Wide.FinOn
import HandS.ForExc
import HandS.Comp
import HandS.Iter
import HandS.IsInst
import HandS.TupAny
import HandS.TupMul
import HandS.Conv
import HandS.Wide
import HandS.Flow
import HandS.AnyAll
import HandS.ExcIs
import HandS.Dict
import HandS.Style
import HandS.TryMany
import HandS.CallLocal
import HandS.GenList
import PyProof.ReprRoads
import PyProof.ReprLen
import HandS.EndTab
import HandS.EndOwn
import HandS.Zip
import HandS.Small
import HandS.Star
import HandS.List
import PyProof.ListMulRoad
import PyProof.FactsAll.tuple_2
import KE.KTupSum
import KE.GoesEnum
import HandS.Gcd
import HandS.SortKw
import KE.KMathGC
import PyProof.AutoSeq1
import KE.KMinBuiltin
import HandS.Text
import HandS.StrMore
import HandS.TupSets
import KE.DataMinKey
import KE.LtSeq
import KE.KeyNested
import KE.GoesSet
import KE.DataAny
import PySem.Challenge.RW_twinpurse_k23_least_standings_and_number
section
set_option Elab.async false
set_option maxRecDepth 100000
set_option maxHeartbeats 3000000
set_option autoImplicit true
set_option linter.all false
set_option relaxedAutoImplicit true
namespace Tw
open PySem L2
/-! ## 1. Values as trees, a store of what can be changed, runs -/
/-- a value: tuples are trees; loc n is the n-th changeable thing of the store; frz is a list that nobody changes -/
inductive Vl where
  | non | bl (b : Bool) | int (i : Int) | str (s : Str)
  | tup (xs : List Vl) | loc (n : Nat) | frz (xs : List Vl)
  | fn (x : Str) | ty (n : String) | cls (x : Str)
/-- a changeable thing: a list, or a dict of which nothing is asked -/
inductive Ob where
  | lst (xs : List Vl) | dct
abbrev Store := List Ob
/-- how a piece of the program ends: a value, or an error of a class -/
inductive R (α : Type) where
  | ok (a : α) (S : Store)
  | er (c : Str) (S : Store)
/-- none: not told -/
abbrev M (α : Type) := Store → Option (R α)
def ret {α} (a : α) : M α := fun S => some (.ok a S)
def stuck {α} : M α := fun _ => none
def bnd {α β} (m : M α) (f : α → M β) : M β := fun S => match m S with
  | some (.ok a S1) => f a S1
  | some (.er c S1) => some (.er c S1)
  | none => none
abbrev Rho := List (Option Vl)
/-! ## 2. What they are in the machine -/
structure GG where
  K : PySem.W.Frag
  mg : Str → Option Value
  tabs : List Addr
/-- a list that nobody changes: it stands in the written part, or frozen -/
def SqC (K : PySem.W.Frag) (H : Hp) (a : Addr) (vs : List V) : Prop := (∃ o, H a = some (.frz o (.lst vs))) ∨ SqL K (fun _ => none) a vs
theorem SqC.sql {K : PySem.W.Frag} {H : Hp} {a : Addr} {vs : List V} (h : SqC K H a vs) : SqL K H a vs := by
  rcases h with ⟨o, h⟩ | h
  · exact .inl (.inr ⟨o, h⟩)
  · rcases h with (h | ⟨o, h⟩) | h
    · cases h
    · cases h
    · exact .inr h
mutual
inductive Rv (G : GG) (μ : List Addr) (H : Hp) : Vl → V → Prop
  | non : Rv G μ H .non .non
  | bl (b : Bool) : Rv G μ H (.bl b) (.bl b)
  | int (i : Int) : Rv G μ H (.int i) (.int i)
  | str (s : Str) : Rv G μ H (.str s) (.str s)
  | tup {xs : List Vl} {vs : List V} {a : Addr} (h : SqT G.K H a vs) (r : Rvs G μ H xs vs) : Rv G μ H (.tup xs) (.ref a)
  | loc {n : Nat} {a : Addr} (h : μ[n]? = some a) : Rv G μ H (.loc n) (.ref a)
  | frz {xs : List Vl} {vs : List V} {a : Addr} (h : SqC G.K H a vs) (r : Rvs G μ H xs vs) : Rv G μ H (.frz xs) (.ref a)
  | fn {x : Str} {f : Addr} (h : G.mg x = some (.ref f)) : Rv G μ H (.fn x) (.ref f)
  | ty (n : String) : Rv G μ H (.ty n) (.ty n)
  | cls {x : Str} {f : Addr} (h : G.mg x = some (.ref f)) : Rv G μ H (.cls x) (.ref f)
inductive Rvs (G : GG) (μ : List Addr) (H : Hp) : List Vl → List V → Prop
  | nil : Rvs G μ H [] []
  | cons {x : Vl} {v : V} {xs : List Vl} {vs : List V} (h : Rv G μ H x v) (t : Rvs G μ H xs vs) : Rvs G μ H (x :: xs) (v :: vs)
end
/-- later: more things, the old ones at their places; no tuple and no frozen thing is changed -/
structure Gr (μ : List Addr) (H : Hp) (μ' : List Addr) (H' : Hp) : Prop where
  pre : ∀ (n : Nat) (a : Addr), μ[n]? = some a → μ'[n]? = some a
  tup : ∀ (a : Addr) (vs : List V), H a = some (.tup vs) → H' a = some (.tup vs)
  frz : ∀ (a : Addr) (o : Obj) (u : HO), H a = some (.frz o u) → H' a = some (.frz o u)
theorem Gr.refl {μ H} : Gr μ H μ H := ⟨fun _ _ h => h, fun _ _ h => h, fun _ _ _ h => h⟩
theorem Gr.trans {μ H μ1 H1 μ2 H2} (a : Gr μ H μ1 H1) (b : Gr μ1 H1 μ2 H2) : Gr μ H μ2 H2 :=
  ⟨fun n x h => b.pre n x (a.pre n x h), fun x vs h => b.tup x vs (a.tup x vs h), fun x o u h => b.frz x o u (a.frz x o u h)⟩
theorem Gr.sqt {K : PySem.W.Frag} {μ H μ' H' a vs} (g : Gr μ H μ' H') (h : SqT K H a vs) : SqT K H' a vs := by
  rcases h with (h | ⟨o, h⟩) | h
  · exact .inl (.inl (g.tup _ _ h))
  · exact .inl (.inr ⟨o, g.frz _ _ _ h⟩)
  · exact .inr h
theorem SqC.up {K : PySem.W.Frag} {μ H μ' H' a vs} (h : SqC K H a vs) (g : Gr μ H μ' H') : SqC K H' a vs := by
  rcases h with ⟨o, h⟩ | h
  · exact .inl ⟨o, g.frz _ _ _ h⟩
  · exact .inr h
mutual
theorem Rv.up {G μ H μ' H'} (g : Gr μ H μ' H') : ∀ {x : Vl} {v : V}, Rv G μ H x v → Rv G μ' H' x v
  | _, _, .non => .non
  | _, _, .bl b => .bl b
  | _, _, .int i => .int i
  | _, _, .str s => .str s
  | _, _, .tup h r => .tup (g.sqt h) (Rvs.up g r)
  | _, _, .loc h => .loc (g.pre _ _ h)
  | _, _, .frz h r => .frz (h.up g) (Rvs.up g r)
  | _, _, .fn h => .fn h
  | _, _, .ty n => .ty n
  | _, _, .cls h => .cls h
theorem Rvs.up {G μ H μ' H'} (g : Gr μ H μ' H') : ∀ {xs : List Vl} {vs : List V}, Rvs G μ H xs vs → Rvs G μ' H' xs vs
  | _, _, .nil => .nil
  | _, _, .cons h t => .cons (Rv.up g h) (Rvs.up g t)
end
theorem Rvs.length {G μ H} : ∀ {xs : List Vl} {vs : List V}, Rvs G μ H xs vs → xs.length = vs.length
  | _, _, .nil => rfl
  | _, _, .cons _ t => by simp [Rvs.length t]
theorem Rvs.get {G μ H} : ∀ {xs : List Vl} {vs : List V} {i : Nat} {x : Vl}, Rvs G μ H xs vs → xs[i]? = some x → ∃ v, vs[i]? = some v ∧ Rv G μ H x v
  | _, _, _, _, .nil, e => by simp at e
  | _, _, 0, _, .cons h _, e => by simp at e; subst e; exact ⟨_, rfl, h⟩
  | _, _, i + 1, x, .cons _ t, e => by
    obtain ⟨v, h1, h2⟩ := Rvs.get (i := i) (x := x) t (by simpa using e)
    exact ⟨v, by simpa using h1, h2⟩
theorem Rvs.get' {G μ H} {xs : List Vl} {vs : List V} {i : Nat} {v : V} (r : Rvs G μ H xs vs) (e : vs[i]? = some v) : ∃ x, xs[i]? = some x ∧ Rv G μ H x v := by
  have hl := r.length
  have hi : i < xs.length := by rw [hl]; exact (List.getElem?_eq_some_iff.mp e).1
  obtain ⟨v', h1, h2⟩ := r.get (List.getElem?_eq_getElem hi)
  rw [e] at h1; cases h1
  exact ⟨_, List.getElem?_eq_getElem hi, h2⟩
theorem Rvs.app {G μ H} : ∀ {xs ys : List Vl} {vs ws : List V}, Rvs G μ H xs vs → Rvs G μ H ys ws → Rvs G μ H (xs ++ ys) (vs ++ ws)
  | _, _, _, _, .nil, s => s
  | _, _, _, _, .cons h t, s => .cons h (Rvs.app t s)
theorem Rvs.take {G μ H} : ∀ {xs : List Vl} {vs : List V} (n : Nat), Rvs G μ H xs vs → Rvs G μ H (xs.take n) (vs.take n)
  | _, _, 0, _ => .nil
  | _, _, _ + 1, .nil => .nil
  | _, _, n + 1, .cons h t => .cons h (Rvs.take n t)
theorem Rvs.drop {G μ H} : ∀ {xs : List Vl} {vs : List V} (n : Nat), Rvs G μ H xs vs → Rvs G μ H (xs.drop n) (vs.drop n)
  | _, _, 0, r => r
  | _, _, _ + 1, .nil => .nil
  | _, _, n + 1, .cons _ t => Rvs.drop n t
theorem Rvs.set {G μ H} {x : Vl} {v : V} (h : Rv G μ H x v) : ∀ {xs : List Vl} {vs : List V} (i : Nat), Rvs G μ H xs vs → Rvs G μ H (xs.set i x) (vs.set i v)
  | _, _, _, .nil => .nil
  | _, _, 0, .cons _ t => .cons h t
  | _, _, i + 1, .cons q t => .cons q (Rvs.set h i t)
theorem Rvs.rep {G μ H} {xs : List Vl} {vs : List V} (r : Rvs G μ H xs vs) : ∀ n : Nat, Rvs G μ H (List.replicate n xs).flatten (List.replicate n vs).flatten
  | 0 => .nil
  | n + 1 => by
    rw [List.replicate_succ, List.replicate_succ, List.flatten_cons, List.flatten_cons]
    exact r.app (Rvs.rep r n)
def ObR (G : GG) (μ : List Addr) (H : Hp) (a : Addr) : Ob → Prop
  | .lst xs => ∃ vs, H a = some (.lst vs) ∧ Rvs G μ H xs vs
  | .dct => H a = some (.dK [])
/-- the store is held -/
structure RS (G : GG) (μ : List Addr) (H : Hp) (S : Store) : Prop where
  len : μ.length = S.length
  nd : μ.Nodup
  ob : ∀ (n : Nat) (o : Ob), S[n]? = some o → ∃ a, μ[n]? = some a ∧ ObR G μ H a o
  tab : ∀ P ∈ G.tabs, GxR.TabG H P
/-- the slots are held -/
structure RR (G : GG) (μ : List Addr) (H : Hp) (ρ : Rho) (σ : St) : Prop where
  len : ρ.length = σ.length
  at_ : ∀ (i : Nat) (x : Vl), ρ[i]? = some (some x) → ∃ v, σ[i]? = some (some v) ∧ Rv G μ H x v
theorem RR.up {G μ H μ' H' ρ σ} (g : Gr μ H μ' H') (r : RR G μ H ρ σ) : RR G μ' H' ρ σ :=
  ⟨r.len, fun i x e => let ⟨v, h1, h2⟩ := r.at_ i x e; ⟨v, h1, h2.up g⟩⟩
theorem RR.set {G μ H ρ σ x v} (r : RR G μ H ρ σ) (h : Rv G μ H x v) (i : Nat) : RR G μ H (ρ.set i (some x)) (σ.set i (some v)) := by
  refine ⟨by simp [r.len], fun j y e => ?_⟩
  by_cases hj : i = j
  · subst hj
    have hi : i < ρ.length := by
      have := (List.getElem?_eq_some_iff.mp e).1
      simpa using this
    rw [List.getElem?_set_self hi] at e
    cases e
    exact ⟨v, List.getElem?_set_self (by rw [← r.len]; exact hi), h⟩
  · rw [List.getElem?_set_ne hj] at e
    obtain ⟨w, h1, h2⟩ := r.at_ j y e
    exact ⟨w, by rw [List.getElem?_set_ne hj]; exact h1, h2⟩
/-- what holds of the heap when new things are laid at p -/
theorem gr_laid {μ : List Addr} {H : Hp} {p : Addr} {o : HO} (hp : H p = none) : Gr μ H μ (upd H p o) :=
  ⟨fun _ _ h => h, fun a vs h => by rw [upd_ne (ne_of_none h hp)]; exact h, fun a ob u h => by rw [upd_ne (ne_of_none h hp)]; exact h⟩
theorem ObR.up {G μ H μ' H' a o} (g : Gr μ H μ' H') (e : H' a = H a) (h : ObR G μ H a o) : ObR G μ' H' a o := by
  cases o with
  | lst xs => obtain ⟨vs, h1, h2⟩ := h; exact ⟨vs, e.trans h1, h2.up g⟩
  | dct => exact e.trans h
theorem ObR.some {G μ H a o} (h : ObR G μ H a o) : ∃ u, H a = some u ∧ (∀ vs, u ≠ .tup vs) ∧ (∀ b v, u ≠ .frz b v) ∧ ∀ ps, u ≠ .tbl ps := by
  cases o with
  | lst xs => obtain ⟨vs, h1, _⟩ := h; exact ⟨_, h1, fun _ z => (nomatch z), fun _ _ z => (nomatch z), fun _ z => (nomatch z)⟩
  | dct => exact ⟨_, h, fun _ z => (nomatch z), fun _ _ z => (nomatch z), fun _ z => (nomatch z)⟩
/-- a new thing that is no part of the store (a tuple) -/
theorem RS.side {G μ H S p o} (r : RS G μ H S) (hp : H p = none) : RS G μ (upd H p o) S := by
  refine ⟨r.len, r.nd, fun n ob e => ?_, fun P hP => ?_⟩
  · obtain ⟨a, h1, h2⟩ := r.ob n ob e
    obtain ⟨u, hu, _⟩ := h2.some
    exact ⟨a, h1, h2.up (gr_laid hp) (upd_ne (ne_of_none hu hp))⟩
  · obtain ⟨ps, e, t⟩ := r.tab P hP
    exact ⟨ps, by rw [upd_ne (ne_of_none e hp)]; exact e, t⟩
/-- a new thing of the store -/
theorem RS.new {G μ H S p o ob} (r : RS G μ H S) (hp : H p = none) (h : ObR G (μ ++ [p]) (upd H p o) p ob) :
    RS G (μ ++ [p]) (upd H p o) (S ++ [ob]) ∧ Gr μ H (μ ++ [p]) (upd H p o) ∧ (μ ++ [p])[S.length]? = some p := by
  have g : Gr μ H (μ ++ [p]) (upd H p o) := ⟨fun n a e => by
    rw [List.getElem?_append_left (List.getElem?_eq_some_iff.mp e).1]; exact e, (gr_laid (μ := μ) hp).tup, (gr_laid (μ := μ) hp).frz⟩
  have hlast : (μ ++ [p])[S.length]? = some p := by rw [← r.len]; simp
  refine ⟨⟨by simp [r.len], ?_, fun n u e => ?_, fun P hP => ?_⟩, g, hlast⟩
  · rw [List.nodup_append]
    refine ⟨r.nd, by simp, fun a ha b hb z => ?_⟩
    simp at hb; subst hb; subst z
    obtain ⟨n, hn, e⟩ := List.getElem_of_mem ha
    have hn' : n < S.length := by rw [← r.len]; exact hn
    obtain ⟨a', h1, h2⟩ := r.ob n S[n] (List.getElem?_eq_getElem hn')
    obtain ⟨u, hu, _⟩ := h2.some
    rw [List.getElem?_eq_getElem hn, e] at h1
    cases h1
    rw [hp] at hu; cases hu
  · by_cases hn : n < S.length
    · rw [List.getElem?_append_left hn] at e
      obtain ⟨a, h1, h2⟩ := r.ob n u e
      obtain ⟨w, hw, _⟩ := h2.some
      exact ⟨a, g.pre _ _ h1, h2.up g (upd_ne (ne_of_none hw hp))⟩
    · have hl : n = S.length := by
        have := (List.getElem?_eq_some_iff.mp e).1
        simp at this; omega
      subst hl
      simp at e; subst e
      exact ⟨p, hlast, h⟩
  · obtain ⟨ps, e, t⟩ := r.tab P hP
    exact ⟨ps, by rw [upd_ne (ne_of_none e hp)]; exact e, t⟩
/-- a list of the store is changed -/
theorem RS.put {G μ H S n a xs ys vs ws} (r : RS G μ H S) (e : S[n]? = some (.lst xs)) (ha : μ[n]? = some a) (h : H a = some (.lst vs)) (hy : Rvs G μ H ys ws) :
    RS G μ (upd H a (.lst ws)) (S.set n (.lst ys)) ∧ Gr μ H μ (upd H a (.lst ws)) := by
  have hne : ∀ b u, H b = some u → (∀ l, u ≠ .lst l) → b ≠ a := fun b u q z1 z2 => by subst z2; rw [h] at q; cases q; exact z1 _ rfl
  have g : Gr μ H μ (upd H a (.lst ws)) := ⟨fun _ _ q => q, fun b l q => by rw [upd_ne (hne b _ q fun _ z => nomatch z)]; exact q, fun b o u q => by rw [upd_ne (hne b _ q fun _ z => nomatch z)]; exact q⟩
  refine ⟨⟨by simp [r.len], r.nd, fun m o q => ?_, fun P hP => ?_⟩, g⟩
  · by_cases hm : n = m
    · subst hm
      have hn : n < S.length := (List.getElem?_eq_some_iff.mp e).1
      rw [List.getElem?_set_self hn] at q
      cases q
      exact ⟨a, ha, ws, upd_same, hy.up g⟩
    · rw [List.getElem?_set_ne hm] at q
      obtain ⟨b, h1, h2⟩ := r.ob m o q
      refine ⟨b, h1, h2.up g (upd_ne fun z => hm ?_)⟩
      subst z
      obtain ⟨i1, j1⟩ := List.getElem?_eq_some_iff.mp ha
      obtain ⟨i2, j2⟩ := List.getElem?_eq_some_iff.mp h1
      exact (List.getElem_inj r.nd).mp (j1.trans j2.symm)
  · obtain ⟨ps, q, t⟩ := r.tab P hP
    exact ⟨ps, by rw [upd_ne (hne P _ q fun _ z => nomatch z)]; exact q, t⟩
/-! ## 3. A run held against a reading -/
/-- EQ: what is wanted of an error of the class c -/
def Run {α β : Type} (G : GG) (Rel : List Addr → Hp → α → β → Prop) (m : M α) (μ : List Addr) (H : Hp) (S : Store) (Q : β → Hp → Prop) (EQ : Str → List Addr → Hp → Store → Prop) : Prop :=
  ∃ r, m S = some r ∧ match r with
    | .ok a S' => ∀ μ' H' v, Gr μ H μ' H' → Rel μ' H' a v → RS G μ' H' S' → Q v H'
    | .er c S' => ∀ μ' H', Gr μ H μ' H' → RS G μ' H' S' → EQ c μ' H' S'
/-- errors wished of by W: the class stands in the module -/
def EW (G : GG) (W : WX) (σ : St) : Str → List Addr → Hp → Store → Prop := fun c _ H _ => ∃ C, G.mg c = some (.ref C) ∧ W (.ref C) none σ H
/-- an expression's reading: it is the run f -/
def T (G : GG) (W : WX) (f : Rho → M Vl) : TE := fun σ H Q => ∃ μ ρ S, RS G μ H S ∧ RR G μ H ρ σ ∧ Run G (Rv G) (f ρ) μ H S Q (EW G W σ)
def TTs (G : GG) (W : WX) (f : Rho → M Bool) : TT := fun σ H Q => ∃ μ ρ S, RS G μ H S ∧ RR G μ H ρ σ ∧ Run G (fun _ _ a b => a = b) (f ρ) μ H S Q (EW G W σ)
def TAs (G : GG) (W : WX) (f : Rho → M (List Vl)) : TA := fun σ H Q => ∃ μ ρ S, RS G μ H S ∧ RR G μ H ρ σ ∧ Run G (Rvs G) (f ρ) μ H S Q (EW G W σ)
/-- a run, then another one -/
theorem Run.bnd {α β γ δ : Type} {G : GG} {Rel : List Addr → Hp → α → β → Prop} {Rel2 : List Addr → Hp → γ → δ → Prop} {m : M α} {k : α → M γ} {μ : List Addr} {H : Hp} {S : Store} {Q : δ → Hp → Prop}
    {EQ : Str → List Addr → Hp → Store → Prop} (h : Run G Rel2 (bnd m k) μ H S Q EQ) (hE : ∀ c μ1 H1 S1, EQ c μ1 H1 S1 → EQ c μ1 H1 S1 := by intro _ _ _ _ h; exact h) :
    Run G Rel m μ H S (fun v H1 => ∃ μ1 a S1, Gr μ H μ1 H1 ∧ Rel μ1 H1 a v ∧ RS G μ1 H1 S1 ∧ Run G Rel2 (k a) μ1 H1 S1 Q EQ) EQ := by
  obtain ⟨r, e, h⟩ := h
  unfold Tw.bnd at e
  cases q : m S with
  | none => rw [q] at e; cases e
  | some r1 =>
    rw [q] at e
    cases r1 with
    | ok a S1 =>
      refine ⟨_, q, fun μ1 H1 v g rel rs => ⟨μ1, a, S1, g, rel, rs, r, e, ?_⟩⟩
      cases r with
      | ok b S2 => exact fun μ2 H2 w g2 rel2 rs2 => h μ2 H2 w (g.trans g2) rel2 rs2
      | er c S2 => exact fun μ2 H2 g2 rs2 => h μ2 H2 (g.trans g2) rs2
    | er c S1 =>
      cases e
      exact ⟨_, q, h⟩
theorem Run.imp {α β : Type} {G : GG} {Rel : List Addr → Hp → α → β → Prop} {m : M α} {μ : List Addr} {H : Hp} {S : Store} {Q Q' : β → Hp → Prop} {EQ EQ' : Str → List Addr → Hp → Store → Prop}
    (h : Run G Rel m μ H S Q EQ) (hq : ∀ v H1, Q v H1 → Q' v H1) (he : ∀ c μ1 H1 S1, EQ c μ1 H1 S1 → EQ' c μ1 H1 S1) : Run G Rel m μ H S Q' EQ' := by
  obtain ⟨r, e, h⟩ := h
  refine ⟨r, e, ?_⟩
  cases r with
  | ok a S1 => exact fun μ1 H1 v g rel rs => hq _ _ (h μ1 H1 v g rel rs)
  | er c S1 => exact fun μ1 H1 g rs => he _ _ _ _ (h μ1 H1 g rs)
/-- what has come is told -/
theorem Run.ret {α β : Type} {G : GG} {Rel : List Addr → Hp → α → β → Prop} {a : α} {μ : List Addr} {H : Hp} {S : Store} {Q : β → Hp → Prop} {EQ : Str → List Addr → Hp → Store → Prop} {v : β}
    (h : Run G Rel (Tw.ret a) μ H S Q EQ) (rel : Rel μ H a v) (rs : RS G μ H S) : Q v H := by
  obtain ⟨r, e, h⟩ := h
  cases e
  exact h μ H v .refl rel rs
/-- a reading may ask more -/
theorem PE.imp {X : Cx} {e : Expr} {t t' : TE} (h : PE X e t) (i : ∀ σ H Q, t' σ H Q → t σ H Q) : PE X e t' := ⟨fun pins s σ H Q I q => h.run pins s σ H Q I (i _ _ _ q)⟩
theorem PT.imp {X : Cx} {e : Expr} {t t' : TT} (h : PT X e t) (i : ∀ σ H Q, t' σ H Q → t σ H Q) : PT X e t' := ⟨fun pins s σ H Q I q => h.run pins s σ H Q I (i _ _ _ q)⟩
theorem PW.imp {X : Cx} {e : Expr} {t t' : TT} (h : PW X e t) (i : ∀ σ H Q, t' σ H Q → t σ H Q) : PW X e t' := ⟨fun w pins s σ H Q I q => h.run w pins s σ H Q I (i _ _ _ q)⟩
theorem PA.imp {X : Cx} {e : List Expr} {t t' : TA} (h : PA X e t) (i : ∀ σ H Q, t' σ H Q → t σ H Q) : PA X e t' := ⟨fun p pins s σ H Q I q => h.run p pins s σ H Q I (i _ _ _ q)⟩
theorem PS.imp {X : Cx} {e : Stmt} {t t' : TS} (h : PS X e t) (i : ∀ D σ H, t' D σ H → t D σ H) : PS X e t' := ⟨fun pins s σ H D I q => h.run pins s σ H D I (i _ _ _ q)⟩
theorem PSs.imp {X : Cx} {e : List Stmt} {t t' : TS} (h : PSs X e t) (i : ∀ D σ H, t' D σ H → t D σ H) : PSs X e t' := ⟨fun pins s σ H D I q => h.run pins s σ H D I (i _ _ _ q)⟩
end Tw
end
section
set_option Elab.async false
set_option maxRecDepth 100000
set_option maxHeartbeats 3000000
set_option autoImplicit true
set_option linter.all false
set_option relaxedAutoImplicit true
namespace Tw
open PySem L2
/-! ## 4. Expressions: the runs -/
abbrev Ev := Rho → M Vl
def line : Nat := 16777216
theorem line_eq : line = sizeLine := by rw [sizeLine_eq]; rfl
def eVar (i : Nat) : Ev := fun ρ => match ρ[i]? with
  | some (some x) => ret x
  | _ => stuck
def eC (v : Vl) : Ev := fun _ => ret v
def eOp (g : Vl → Vl → M Vl) (a b : Ev) : Ev := fun ρ => bnd (a ρ) fun x => bnd (b ρ) fun y => g x y
def eUn (g : Vl → M Vl) (a : Ev) : Ev := fun ρ => bnd (a ρ) g
def asB (x : Vl) : M Bool := match x with
  | .bl b => ret b
  | _ => stuck
abbrev Tv := Rho → M Bool
def tVal (a : Ev) : Tv := fun ρ => bnd (a ρ) asB
def tAnd (a b : Tv) : Tv := fun ρ => bnd (a ρ) fun c => if c = true then b ρ else ret false
def tOr (a b : Tv) : Tv := fun ρ => bnd (a ρ) fun c => if c = true then ret true else b ρ
def tNot (a : Tv) : Tv := fun ρ => bnd (a ρ) fun c => ret (!c)
def eAnd (a b : Ev) : Ev := fun ρ => bnd (a ρ) fun x => bnd (asB x) fun c => if c = true then b ρ else ret (.bl false)
def eOr (a b : Ev) : Ev := fun ρ => bnd (a ρ) fun x => bnd (asB x) fun c => if c = true then ret (.bl true) else b ρ
def eNot (a : Ev) : Ev := fun ρ => bnd (a ρ) fun x => bnd (asB x) fun c => ret (.bl (!c))
def eIf (t : Tv) (a b : Ev) : Ev := fun ρ => bnd (t ρ) fun c => if c = true then a ρ else b ρ
def eChain (f g : Vl → Vl → M Vl) (a b c : Ev) : Ev := fun ρ => bnd (a ρ) fun x => bnd (b ρ) fun y => bnd (f x y) fun z => bnd (asB z) fun k => if k = true then bnd (c ρ) fun w => g y w else ret (.bl false)
abbrev Evs := Rho → M (List Vl)
def aNil : Evs := fun _ => ret []
def aCons (a : Ev) (r : Evs) : Evs := fun ρ => bnd (a ρ) fun x => bnd (r ρ) fun xs => ret (x :: xs)
def eTup (r : Evs) : Ev := fun ρ => bnd (r ρ) fun xs => if xs.length ≤ line then ret (.tup xs) else stuck
def newL (xs : List Vl) : M Vl := fun S => if xs.length ≤ line then some (.ok (.loc S.length) (S ++ [.lst xs])) else none
def eLst (r : Evs) : Ev := fun ρ => bnd (r ρ) newL
def eDct : Ev := fun _ S => some (.ok (.loc S.length) (S ++ [.dct]))
def eCall (f : List Vl → M Vl) (r : Evs) : Ev := fun ρ => bnd (r ρ) f
/-! ### operators -/
/-- the items of a list or a tuple -/
def getL (x : Vl) : M (List Vl) := fun S => match x with
  | .frz xs => some (.ok xs S)
  | .loc n => match S[n]? with
    | some (.lst xs) => some (.ok xs S)
    | _ => none
  | _ => none
def oAdd : Vl → Vl → M Vl
  | .int i, .int j => ret (.int (i + j))
  | .tup a, .tup b => if a.length + b.length ≤ line then ret (.tup (a ++ b)) else stuck
  | .loc m, .loc n => fun S => match S[m]?, S[n]? with
    | some (.lst a), some (.lst b) => if a.length + b.length ≤ line then newL (a ++ b) S else none
    | _, _ => none
  | _, _ => stuck
def oSub : Vl → Vl → M Vl
  | .int i, .int j => ret (.int (i - j))
  | _, _ => stuck
def oMul : Vl → Vl → M Vl
  | .int i, .int j => if i.natAbs.log2 + j.natAbs.log2 < 1000000 then ret (.int (i * j)) else stuck
  | .tup a, .int k => if a ≠ [] ∧ 2 ≤ k ∧ k ≤ 1000 ∧ a.length ≤ 1000 then ret (.tup (List.replicate k.toNat a).flatten) else stuck
  | .loc m, .int k => fun S => match S[m]? with
    | some (.lst a) => if -(2 ^ 63) ≤ k ∧ k < 2 ^ 63 ∧ a.length * k.toNat ≤ line then newL (List.replicate k.toNat a).flatten S else none
    | _ => none
  | _, _ => stuck
def oDiv : Vl → Vl → M Vl
  | .int i, .int j => if j ≠ 0 ∧ j.natAbs.log2 < 9000 then ret (.int (i.fdiv j)) else stuck
  | _, _ => stuck
def oMod : Vl → Vl → M Vl
  | .int i, .int j => if j ≠ 0 then ret (.int (i.fmod j)) else stuck
  | _, _ => stuck
def oPow : Vl → Vl → M Vl
  | .int i, .int j => if 0 ≤ j ∧ j ≤ 1000000 ∧ i.natAbs < 2 ^ 64 then ret (.int (i ^ j.toNat)) else stuck
  | _, _ => stuck
def oNeg : Vl → M Vl
  | .int i => ret (.int (-i))
  | _ => stuck
def oCmp (p : Int → Int → Bool) : Vl → Vl → M Vl
  | .int i, .int j => ret (.bl (p i j))
  | _, _ => stuck
abbrev oLt := oCmp fun i j => decide (i < j)
abbrev oLe := oCmp fun i j => decide (i ≤ j)
abbrev oGt := oCmp fun i j => decide (j < i)
abbrev oGe := oCmp fun i j => decide (j ≤ i)
/-! data without changeable things -/
mutual
def pd0 : Vl → Option PyData
  | .non => some .none
  | .bl b => some (.bool b)
  | .int i => some (.int i)
  | .str s => some (.str s)
  | .tup xs => match pds0 xs with
    | some ds => some (.tuple ds)
    | none => none
  | .frz xs => match pds0 xs with
    | some ds => some (.list ds)
    | none => none
  | _ => none
def pds0 : List Vl → Option (List PyData)
  | [] => some []
  | x :: xs => match pd0 x, pds0 xs with
    | some d, some ds => some (d :: ds)
    | _, _ => none
end
def pd (S : Store) : Vl → Option PyData
  | .loc n => match S[n]? with
    | some (.lst xs) => match pds0 xs with
      | some ds => some (.list ds)
      | none => none
    | _ => none
  | x => pd0 x
def eqD (x y : Vl) : M Bool := fun S => match pd S x, pd S y with
  | some d, some e => if SeqAt.shaped d = true ∧ SeqAt.shaped e = true then some (.ok (PyData.eqv d e) S) else none
  | _, _ => none
def oEq : Vl → Vl → M Vl
  | .int i, .int j => ret (.bl (decide (i = j)))
  | .str a, .str b => ret (.bl (decide (a = b)))
  | x, y => bnd (eqD x y) fun b => ret (.bl b)
def oNe : Vl → Vl → M Vl
  | .int i, .int j => ret (.bl (!decide (i = j)))
  | .str a, .str b => ret (.bl (!decide (a = b)))
  | x, y => bnd (eqD x y) fun b => ret (.bl (!b))
/-- is, is not: of None and of truth values -/
def oIsN (x : Vl) : M Vl := ret (.bl (match x with | .non => true | _ => false))
def oNotN (x : Vl) : M Vl := ret (.bl (match x with | .non => false | _ => true))
def oIsB : Vl → Vl → M Vl
  | .bl a, .bl b => ret (.bl (decide (a = b)))
  | _, _ => stuck
def oNotB : Vl → Vl → M Vl
  | .bl a, .bl b => ret (.bl (!decide (a = b)))
  | _, _ => stuck
/-- x[i] -/
def oIx (x y : Vl) : M Vl := match x, y with
  | .tup xs, .int i => match atI xs i with
    | some v => ret v
    | none => stuck
  | x, .int i => bnd (getL x) fun xs => match atI xs i with
    | some v => ret v
    | none => stuck
  | _, _ => stuck
def cut (xs : List Vl) (lo hi : Option Int) : List Vl := (xs.drop (HT.sIx xs.length 0 lo)).take (HT.sIx xs.length xs.length hi - HT.sIx xs.length 0 lo)
def oSl (x : Vl) (lo hi : Option Int) : M Vl := match x with
  | .tup xs => ret (.tup (cut xs lo hi))
  | x => bnd (getL x) fun xs => newL (cut xs lo hi)
abbrev Evo := Rho → M (Option Int)
def pNone : Evo := fun _ => ret none
def asI (x : Vl) : M (Option Int) := match x with
  | .int i => ret (some i)
  | _ => stuck
def pSome (a : Ev) : Evo := fun ρ => bnd (a ρ) asI
def eSl (a : Ev) (lo hi : Evo) : Ev := fun ρ => bnd (a ρ) fun x => bnd (lo ρ) fun l => bnd (hi ρ) fun h => oSl x l h
/-! ## 5. Their rules -/
/-- an operation on values is the run g -/
def OpM (G : GG) (r : R2) (g : Vl → Vl → M Vl) : Prop := ∀ (μ : List Addr) (H : Hp) (S : Store) (x y : Vl) (v w : V) (Q : VK) (EQ : Str → List Addr → Hp → Store → Prop),
  RS G μ H S → Rv G μ H x v → Rv G μ H y w → Run G (Rv G) (g x y) μ H S Q EQ → r v w H Q
def AsM (G : GG) (r : List V → Hp → VK → Prop) (g : List Vl → M Vl) : Prop := ∀ (μ : List Addr) (H : Hp) (S : Store) (x : List Vl) (v : List V) (Q : VK) (EQ : Str → List Addr → Hp → Store → Prop),
  RS G μ H S → Rvs G μ H x v → Run G (Rv G) (g x) μ H S Q EQ → r v H Q
theorem Run.no {α β : Type} {G : GG} {Rel : List Addr → Hp → α → β → Prop} {m : M α} {μ : List Addr} {H : Hp} {S : Store} {Q : β → Hp → Prop} {EQ : Str → List Addr → Hp → Store → Prop} {P : Prop}
    (h : Run G Rel m μ H S Q EQ) (e : m S = none) : P := by
  obtain ⟨r, q, _⟩ := h
  rw [e] at q; cases q
/-- the run ends in S1 -/
theorem Run.end_ {α β : Type} {G : GG} {Rel : List Addr → Hp → α → β → Prop} {m : M α} {μ : List Addr} {H : Hp} {S : Store} {Q : β → Hp → Prop} {EQ : Str → List Addr → Hp → Store → Prop} {a : α} {S1 : Store}
    (h : Run G Rel m μ H S Q EQ) (e : m S = some (.ok a S1)) : ∀ μ' H' v, Gr μ H μ' H' → Rel μ' H' a v → RS G μ' H' S1 → Q v H' := by
  obtain ⟨r, q, h⟩ := h
  rw [e] at q; cases q
  exact h
section
variable {G : GG} {W : WX} {X : Cx} {a b c : Expr} {fa fb fc : Ev} {pos : Pos} {σ : St} {H : Hp} {Q : VK}
/-- a reading, and what comes behind it -/
theorem T_bnd {γ δ : Type} {Rel : List Addr → Hp → γ → δ → Prop} {k : Vl → M γ} {Q : δ → Hp → Prop} {μ : List Addr} {ρ : Rho} {S : Store} {P : V → Hp → Prop} (rs : RS G μ H S) (rr : RR G μ H ρ σ) (run : Run G Rel (bnd (fa ρ) k) μ H S Q (EW G W σ))
    (h : ∀ v H1 μ1 x S1, Gr μ H μ1 H1 → Rv G μ1 H1 x v → RS G μ1 H1 S1 → RR G μ1 H1 ρ σ → Run G Rel (k x) μ1 H1 S1 Q (EW G W σ) → P v H1) : T G W fa σ H P :=
  ⟨μ, ρ, S, rs, rr, run.bnd.imp (fun v H1 ⟨μ1, x, S1, g, rx, rs1, r1⟩ => h v H1 μ1 x S1 g rx rs1 (rr.up g) r1) fun _ _ _ _ z => z⟩
theorem xe_op0 {e : Expr} {r : R2} {g : Vl → Vl → M Vl} (h : PE X e (tOp r (T G W fa) (T G W fb))) (hg : OpM G r g) : PE X e (T G W (eOp g fa fb)) := by
  refine PE.imp h ?_
  rintro σ H Q ⟨μ, ρ, S, rs, rr, run⟩
  refine T_bnd rs rr run fun v H1 μ1 x S1 g1 rx rs1 rr1 run1 => ?_
  exact T_bnd rs1 rr1 run1 fun w H2 μ2 y S2 g2 ry rs2 rr2 run2 => hg μ2 H2 S2 x y v w Q _ rs2 (rx.up g2) ry run2
theorem xe_op {op : Operator} {r : R2} {g : Vl → Vl → M Vl} (hg : OpM G r g) (ho : OpR X (binaryOp op) r) (ha : PE X a (T G W fa)) (hb : PE X b (T G W fb)) : PE X (.BinOp a op b pos) (T G W (eOp g fa fb)) := xe_op0 (pe_op ho ha hb) hg
theorem xe_cmp {op : CmpOp} {r : R2} {g : Vl → Vl → M Vl} (hg : OpM G r g) (ho : OpR X (compareOp op) r) (ha : PE X a (T G W fa)) (hb : PE X b (T G W fb)) (hm : behindInMarks op b = false) :
    PE X (.Compare a [op] [b] pos) (T G W (eOp g fa fb)) := xe_op0 (pe_cmpR ho ha hb hm) hg
/-- names, constants -/
theorem xe_var (i : Nat) {x : Str} (hN : X.N[i]? = some x := by rfl) (hv : Vis X.env.scope x := by first | exact Or.inl rfl | exact Or.inr (Or.inl rfl) | exact Or.inr (Or.inr rfl)) (hd : (x == ("__debug__" : Str)) = false := by decide)
    (hcd : (x == ("__classdict__" : Str)) = false := by decide) : PE X (.Name x pos) (T G W (eVar i)) := by
  refine PE.imp (pv i hN hv hd hcd) ?_
  rintro σ H Q ⟨μ, ρ, S, rs, rr, run⟩
  unfold eVar at run
  split at run
  · rename_i x e
    obtain ⟨v, h1, h2⟩ := rr.at_ i x e
    exact ⟨v, h1, run.ret h2 rs⟩
  · exact run.no rfl
theorem xe_c {e : Expr} {v : V} {x : Vl} (h : PE X e (tC v)) (r : ∀ μ H, Rv G μ H x v) : PE X e (T G W (eC x)) := by
  refine PE.imp h ?_
  rintro σ H Q ⟨μ, ρ, S, rs, rr, run⟩
  exact run.ret (r μ H) rs
theorem xe_int {i : Int} {j : Nat} : PE X (.Constant (.int i) j pos) (T G W (eC (.int i))) := xe_c pe_int fun _ _ => .int i
theorem xe_bl {i : Bool} {j : Nat} : PE X (.Constant (.bool i) j pos) (T G W (eC (.bl i))) := xe_c pe_bl fun _ _ => .bl i
theorem xe_non {j : Nat} : PE X (.Constant .none j pos) (T G W (eC .non)) := xe_c pe_non fun _ _ => .non
/-- a def, a class of the text as a value; a constant of a module -/
theorem xe_fn {x : Str} {f : Addr} (hK : G.mg = X.mg) (hm : X.mg x = some (.ref f)) (hg : Gl X x := by rfl) (hd : (x == ("__debug__" : Str)) = false := by decide) : PE X (.Name x pos) (T G W (eC (.fn x))) :=
  xe_c (v := .ref f) (pe_glob hg hm rfl hd) fun _ _ => .fn (by rw [hK]; exact hm)
theorem xe_gint {x : Str} {i : Int} {t : Tok} (hm : X.mg x = some (.int i t)) (hg : Gl X x := by rfl) (hd : (x == ("__debug__" : Str)) = false := by decide) : PE X (.Name x pos) (T G W (eC (.int i))) :=
  xe_c (v := .int i) (pe_glob hg hm ⟨t, rfl⟩ hd) fun _ _ => .int i
theorem xe_ty {x : Str} {n : String} (hm : X.mg x = none) (hv : bootBuiltins x = some (.type n)) (hg : Gl X x := by rfl) (hn : x ≠ "__name__" := by decide) (hd : (x == ("__debug__" : Str)) = false := by decide) : PE X (.Name x pos) (T G W (eC (.ty n))) :=
  xe_c (v := .ty n) (pe_bltn hg hm hv rfl hn hd) fun _ _ => .ty n
/-- tests -/
theorem xt_val (ha : PE X a (T G W fa)) (he : ∀ whole, isTrue a X.env whole = (do let v ← whole; standAt a.pos; holding [v] (truthy v)) := by intro _; rfl) : PT X a (TTs G W (tVal fa)) := by
  refine PT.imp (pt_val ha he) ?_
  rintro σ H Q ⟨μ, ρ, S, rs, rr, run⟩
  refine T_bnd rs rr run fun v H1 μ1 x S1 g1 rx rs1 rr1 run1 => ?_
  cases rx with
  | bl c => exact ⟨c, rfl, run1.ret rfl rs1⟩
  | _ => exact run1.no rfl
theorem xt_cmp {op : CmpOp} {r : R2} {g : Vl → Vl → M Vl} (hg : OpM G r g) (ho : OpR X (compareOp op) r) (ha : PE X a (T G W fa)) (hb : PE X b (T G W fb)) (hm : behindInMarks op b = false) :
    PT X (.Compare a [op] [b] pos) (TTs G W (tVal (eOp g fa fb))) := by
  refine PT.imp (pt_cmpR ho ha hb hm) ?_
  rintro σ H Q ⟨μ, ρ, S, rs, rr, run⟩
  have run' : Run G (fun _ _ a b => a = b) (bnd (fa ρ) fun x => bnd (bnd (fb ρ) fun y => g x y) asB) μ H S Q (EW G W σ) := by
    obtain ⟨r, e, h⟩ := run
    refine ⟨r, ?_, h⟩
    rw [← e]
    unfold tVal eOp bnd
    dsimp only
    cases fa ρ S with
    | none => rfl
    | some q => cases q <;> rfl
  refine T_bnd rs rr run' fun v H1 μ1 x S1 g1 rx rs1 rr1 run1 => ?_
  have run2' : Run G (fun _ _ a b => a = b) (bnd (fb ρ) fun y => bnd (g x y) asB) μ1 H1 S1 Q (EW G W σ) := by
    obtain ⟨r, e, h⟩ := run1
    refine ⟨r, ?_, h⟩
    rw [← e]
    unfold bnd
    dsimp only
    cases fb ρ S1 with
    | none => rfl
    | some q => cases q <;> rfl
  refine T_bnd rs1 rr1 run2' fun w H2 μ2 y S2 g2 ry rs2 rr2 run2 => ?_
  refine hg μ2 H2 S2 x y v w _ (EW G W σ) rs2 (rx.up g2) ry (run2.bnd.imp (fun u H3 ⟨μ3, z, S3, g3, rz, rs3, run3⟩ => ?_) fun _ _ _ _ z => z)
  cases rz with
  | bl c => exact ⟨c, rfl, run3.ret rfl rs3⟩
  | _ => exact run3.no rfl
variable {ta tb : Tv} {rest : List Expr}
theorem TT_bnd {γ δ : Type} {Rel : List Addr → Hp → γ → δ → Prop} {k : Bool → M γ} {Q : δ → Hp → Prop} {μ : List Addr} {ρ : Rho} {S : Store} {P : Bool → Hp → Prop} (rs : RS G μ H S) (rr : RR G μ H ρ σ) (run : Run G Rel (bnd (ta ρ) k) μ H S Q (EW G W σ))
    (h : ∀ c H1 μ1 S1, Gr μ H μ1 H1 → RS G μ1 H1 S1 → RR G μ1 H1 ρ σ → Run G Rel (k c) μ1 H1 S1 Q (EW G W σ) → P c H1) : TTs G W ta σ H P :=
  ⟨μ, ρ, S, rs, rr, run.bnd.imp (fun v H1 ⟨μ1, x, S1, g, rx, rs1, r1⟩ => h v H1 μ1 S1 g rs1 (rr.up g) (rx ▸ r1)) fun _ _ _ _ z => z⟩
theorem xw_and1 (ha : PT X a (TTs G W ta)) : PW X (.BoolOp .And [a] pos) (TTs G W ta) := pw_and1 ha
theorem xw_or1 (ha : PT X a (TTs G W ta)) : PW X (.BoolOp .Or [a] pos) (TTs G W ta) := pw_or1 ha
theorem xw_and (ha : PT X a (TTs G W ta)) (hb : PW X (.BoolOp .And (b :: rest) pos) (TTs G W tb)) : PW X (.BoolOp .And (a :: b :: rest) pos) (TTs G W (tAnd ta tb)) := by
  refine PW.imp (pw_and ha hb) ?_
  rintro σ H Q ⟨μ, ρ, S, rs, rr, run⟩
  refine TT_bnd rs rr run fun c H1 μ1 S1 g1 rs1 rr1 run1 => ?_
  cases c with
  | true => exact iteT ⟨μ1, ρ, S1, rs1, rr1, run1⟩
  | false => exact iteF (run1.ret rfl rs1)
theorem xw_or (ha : PT X a (TTs G W ta)) (hb : PW X (.BoolOp .Or (b :: rest) pos) (TTs G W tb)) : PW X (.BoolOp .Or (a :: b :: rest) pos) (TTs G W (tOr ta tb)) := by
  refine PW.imp (pw_or ha hb) ?_
  rintro σ H Q ⟨μ, ρ, S, rs, rr, run⟩
  refine TT_bnd rs rr run fun c H1 μ1 S1 g1 rs1 rr1 run1 => ?_
  cases c with
  | true => exact iteT (run1.ret rfl rs1)
  | false => exact iteF ⟨μ1, ρ, S1, rs1, rr1, run1⟩
theorem xt_not (ha : PT X a (TTs G W ta)) : PT X (.UnaryOp .Not a pos) (TTs G W (tNot ta)) := by
  refine PT.imp (pt_not ha) ?_
  rintro σ H Q ⟨μ, ρ, S, rs, rr, run⟩
  exact TT_bnd rs rr run fun c H1 μ1 S1 g1 rs1 rr1 run1 => run1.ret rfl rs1
theorem xe_one {op : BoolOp} (h : PE X a (T G W fa)) : PE X (.BoolOp op [a] pos) (T G W fa) := pe_one h
theorem xe_and (ha : PE X a (T G W fa)) (hb : PE X (.BoolOp .And (b :: rest) pos) (T G W fb)) : PE X (.BoolOp .And (a :: b :: rest) pos) (T G W (eAnd fa fb)) := by
  refine PE.imp (pe_and ha hb) ?_
  rintro σ H Q ⟨μ, ρ, S, rs, rr, run⟩
  refine T_bnd rs rr run fun v H1 μ1 x S1 g1 rx rs1 rr1 run1 => ?_
  cases rx with
  | bl c =>
    refine ⟨c, rfl, ?_⟩
    cases c with
    | true => exact iteT ⟨μ1, ρ, S1, rs1, rr1, run1⟩
    | false => exact iteF (run1.ret (.bl false) rs1)
  | _ => exact run1.no rfl
theorem xe_or (ha : PE X a (T G W fa)) (hb : PE X (.BoolOp .Or (b :: rest) pos) (T G W fb)) : PE X (.BoolOp .Or (a :: b :: rest) pos) (T G W (eOr fa fb)) := by
  refine PE.imp (pe_or ha hb) ?_
  rintro σ H Q ⟨μ, ρ, S, rs, rr, run⟩
  refine T_bnd rs rr run fun v H1 μ1 x S1 g1 rx rs1 rr1 run1 => ?_
  cases rx with
  | bl c =>
    refine ⟨c, rfl, ?_⟩
    cases c with
    | true => exact iteT (run1.ret (.bl true) rs1)
    | false => exact iteF ⟨μ1, ρ, S1, rs1, rr1, run1⟩
  | _ => exact run1.no rfl
theorem xe_not (ha : PE X a (T G W fa)) : PE X (.UnaryOp .Not a pos) (T G W (eNot fa)) := by
  refine PE.imp (pe_not ha) ?_
  rintro σ H Q ⟨μ, ρ, S, rs, rr, run⟩
  refine T_bnd rs rr run fun v H1 μ1 x S1 g1 rx rs1 rr1 run1 => ?_
  cases rx with
  | bl c => exact ⟨c, rfl, run1.ret (.bl _) rs1⟩
  | _ => exact run1.no rfl
theorem xe_if (hc : PT X c (TTs G W ta)) (ha : PE X a (T G W fa)) (hb : PE X b (T G W fb)) : PE X (.IfExp c a b pos) (T G W (eIf ta fa fb)) := by
  refine PE.imp (pe_ifExp hc ha hb) ?_
  rintro σ H Q ⟨μ, ρ, S, rs, rr, run⟩
  refine TT_bnd rs rr run fun c H1 μ1 S1 g1 rs1 rr1 run1 => ?_
  cases c with
  | true => exact iteT ⟨μ1, ρ, S1, rs1, rr1, run1⟩
  | false => exact iteF ⟨μ1, ρ, S1, rs1, rr1, run1⟩
theorem xe_chain {op op' : CmpOp} {r r' : R2} {f g : Vl → Vl → M Vl} (hf : OpM G r f) (hg : OpM G r' g) (ho : OpR X (compareOp op) r) (ho' : OpR X (compareOp op') r') (ha : PE X a (T G W fa)) (hb : PE X b (T G W fb)) (hc : PE X c (T G W fc))
    (hm : lastMarks [op, op'] [b, c] = false := by with_unfolding_all rfl) : PE X (.Compare a [op, op'] [b, c] pos) (T G W (eChain f g fa fb fc)) := by
  refine PE.imp (pe_chain ho ho' ha hb hc hm) ?_
  rintro σ H Q ⟨μ, ρ, S, rs, rr, run⟩
  refine T_bnd rs rr run fun v H1 μ1 x S1 g1 rx rs1 rr1 run1 => ?_
  refine T_bnd rs1 rr1 run1 fun w H2 μ2 y S2 g2 ry rs2 rr2 run2 => ?_
  refine hf μ2 H2 S2 x y v w _ (EW G W σ) rs2 (rx.up g2) ry (run2.bnd.imp (fun u H3 ⟨μ3, z, S3, g3, rz, rs3, run3⟩ => ?_) fun _ _ _ _ z => z)
  cases rz with
  | bl k =>
    refine ⟨k, rfl, ?_⟩
    cases k with
    | true => exact iteT (T_bnd rs3 (rr2.up g3) run3 fun u4 H4 μ4 z4 S4 g4 rz4 rs4 rr4 run4 => hg μ4 H4 S4 y z4 w u4 Q _ rs4 (ry.up (g3.trans g4)) rz4 run4)
    | false => exact iteF (run3.ret (.bl false) rs3)
  | _ => exact run3.no rfl
variable {e : Expr} {es : List Expr} {fs : Evs}
theorem TA_bnd {γ δ : Type} {Rel : List Addr → Hp → γ → δ → Prop} {k : List Vl → M γ} {Q : δ → Hp → Prop} {μ : List Addr} {ρ : Rho} {S : Store} {P : List V → Hp → Prop} (rs : RS G μ H S) (rr : RR G μ H ρ σ) (run : Run G Rel (bnd (fs ρ) k) μ H S Q (EW G W σ))
    (h : ∀ v H1 μ1 x S1, Gr μ H μ1 H1 → Rvs G μ1 H1 x v → RS G μ1 H1 S1 → RR G μ1 H1 ρ σ → Run G Rel (k x) μ1 H1 S1 Q (EW G W σ) → P v H1) : TAs G W fs σ H P :=
  ⟨μ, ρ, S, rs, rr, run.bnd.imp (fun v H1 ⟨μ1, x, S1, g, rx, rs1, r1⟩ => h v H1 μ1 x S1 g rx rs1 (rr.up g) r1) fun _ _ _ _ z => z⟩
theorem xa_nil : PA X [] (TAs G W aNil) := by
  refine PA.imp pa_nil ?_
  rintro σ H Q ⟨μ, ρ, S, rs, rr, run⟩
  exact run.ret .nil rs
theorem xa_cons (ha : PE X e (T G W fa)) (hr : PA X es (TAs G W fs)) (hs : starEach (e :: es) X.env = (false, eval e X.env) :: starEach es X.env := by rfl) : PA X (e :: es) (TAs G W (aCons fa fs)) := by
  refine PA.imp (pa_cons ha hr hs) ?_
  rintro σ H Q ⟨μ, ρ, S, rs, rr, run⟩
  refine T_bnd rs rr run fun v H1 μ1 x S1 g1 rx rs1 rr1 run1 => ?_
  exact TA_bnd rs1 rr1 run1 fun vs H2 μ2 xs S2 g2 rxs rs2 rr2 run2 => run2.ret (.cons (rx.up g2) rxs) rs2
theorem xe_tup {k : Nat} (h : PA X es (TAs G W fs)) : PE X (.Tuple es k pos) (T G W (eTup fs)) := by
  refine PE.imp (pe_tup h) ?_
  rintro σ H Q ⟨μ, ρ, S, rs, rr, run⟩
  refine TA_bnd rs rr run fun vs H1 μ1 xs S1 g1 rx rs1 rr1 run1 => ?_
  have hl := rx.length
  by_cases hz : xs.length ≤ line
  · rw [if_pos hz] at run1
    refine ⟨by rw [← hl, ← line_eq]; exact hz, fun p hp => ?_⟩
    exact run1.end_ rfl μ1 _ _ (gr_laid hp) (.tup (.of upd_same) (rx.up (gr_laid hp))) (rs1.side hp)
  · rw [if_neg hz] at run1
    exact run1.no rfl
theorem Run.newL {xs : List Vl} {vs : List V} {μ : List Addr} {S : Store} {EQ : Str → List Addr → Hp → Store → Prop} (rs : RS G μ H S) (rx : Rvs G μ H xs vs) (run : Run G (Rv G) (newL xs) μ H S Q EQ) :
    vs.length ≤ sizeLine ∧ ∀ p, H p = none → Q (.ref p) (upd H p (.lst vs)) := by
  unfold Tw.newL at run
  by_cases hz : xs.length ≤ line
  · refine ⟨by rw [← rx.length, ← line_eq]; exact hz, fun p hp => ?_⟩
    have g : Gr μ H (μ ++ [p]) (upd H p (.lst vs)) := ⟨fun n a e => by
      rw [List.getElem?_append_left (List.getElem?_eq_some_iff.mp e).1]; exact e, (gr_laid (μ := μ) hp).tup, (gr_laid (μ := μ) hp).frz⟩
    obtain ⟨r1, _, r3⟩ := rs.new (o := .lst vs) (ob := .lst xs) hp ⟨vs, upd_same, rx.up g⟩
    exact run.end_ (a := .loc S.length) (S1 := S ++ [.lst xs]) (if_pos hz) _ _ _ g (.loc r3) r1
  · exact run.no (if_neg hz)
theorem xe_lst (h : PA X es (TAs G W fs)) : PE X (.List es pos) (T G W (eLst fs)) := by
  refine PE.imp (pe_lst h) ?_
  rintro σ H Q ⟨μ, ρ, S, rs, rr, run⟩
  exact TA_bnd rs rr run fun vs H1 μ1 xs S1 g1 rx rs1 rr1 run1 => Run.newL rs1 rx run1
/-- a call of a builtin by its name -/
theorem xe_callB {x : Str} {id : String} {p : Pos} {r : List V → Hp → VK → Prop} {g : List Vl → M Vl} (hg : AsM G r g) (hc : CallR X (.builtin id) r) (hm : X.mg x = none) (hv : bootBuiltins x = some (.builtin id)) (ha : PA X (e :: es) (TAs G W fs))
    (hgl : Gl X x := by rfl) (hn : x ≠ "__name__" := by decide) (hdb : (x == ("__debug__" : Str)) = false := by decide) (he : starEach (e :: es) X.env = (false, eval e X.env) :: starEach es X.env := by rfl)
    (hpl : (backTo pos (starEach es X.env)).any (·.1) = false := by rfl) : PE X (.Call (.Name x p) (e :: es) [] pos) (T G W (eCall g fs)) := by
  refine PE.imp (pe_callB hc hgl hm hv ha hn hdb he hpl) ?_
  rintro σ H Q ⟨μ, ρ, S, rs, rr, run⟩
  exact TA_bnd rs rr run fun vs H1 μ1 xs S1 g1 rx rs1 rr1 run1 => hg μ1 H1 S1 xs vs Q _ rs1 rx run1
theorem xe_callTy {x : Str} {Ty : String} {p : Pos} {r : List V → Hp → VK → Prop} {g : List Vl → M Vl} (hg : AsM G r g) (hc : CallR X (.type Ty) r) (hm : X.mg x = none) (hv : bootBuiltins x = some (.type Ty)) (ha : PA X (e :: es) (TAs G W fs))
    (hgl : Gl X x := by rfl) (hn : x ≠ "__name__" := by decide) (hdb : (x == ("__debug__" : Str)) = false := by decide) (he : starEach (e :: es) X.env = (false, eval e X.env) :: starEach es X.env := by rfl)
    (hpl : (backTo pos (starEach es X.env)).any (·.1) = false := by rfl) : PE X (.Call (.Name x p) (e :: es) [] pos) (T G W (eCall g fs)) := by
  refine PE.imp (pe_callTy hc hgl hm hv ha hn hdb he hpl) ?_
  rintro σ H Q ⟨μ, ρ, S, rs, rr, run⟩
  exact TA_bnd rs rr run fun vs H1 μ1 xs S1 g1 rx rs1 rr1 run1 => hg μ1 H1 S1 xs vs Q _ rs1 rx run1
end
end Tw
end
section
set_option Elab.async false
set_option maxRecDepth 100000
set_option maxHeartbeats 3000000
set_option autoImplicit true
set_option linter.all false
set_option relaxedAutoImplicit true
namespace Tw
open PySem L2
section
variable {G : GG} {X : Cx}
/-! ## 6. Operators -/
theorem om_add : OpM G (fun x y H Q => rI0 (fun i j => V.int (i + j)) x y H Q ∨ rCatA G.K x y H Q ∨ rCat x y H Q) oAdd := by
  intro μ H S x y v w Q EQ rs rx ry run
  cases rx <;> cases ry <;> first | exact run.no rfl | skip
  · rename_i i j
    exact .inl ⟨i, j, rfl, rfl, run.ret (.int _) rs⟩
  · rename_i xs vs a h r ys ws b h' r'
    refine .inr (.inl ⟨a, b, vs, ws, rfl, rfl, h, h', ?_⟩)
    have l1 := r.length
    have l2 := r'.length
    by_cases hz : xs.length + ys.length ≤ line
    · replace run : Run G (Rv G) (ret (.tup (xs ++ ys))) μ H S Q EQ := by simpa only [oAdd, if_pos hz] using run
      refine ⟨by rw [← l1, ← l2, ← line_eq]; exact hz, fun e => ?_, fun _ e => ?_, fun _ _ p hp => ?_⟩
      · subst e
        cases r
        exact run.ret (.tup h' r') rs
      · subst e
        cases r'
        rw [List.append_nil] at run
        exact run.ret (.tup h r) rs
      · exact run.end_ rfl μ _ _ (gr_laid hp) (.tup (.of upd_same) ((r.app r').up (gr_laid hp))) (rs.side hp)
    · replace run : Run G (Rv G) stuck μ H S Q EQ := by simpa only [oAdd, if_neg hz] using run
      exact run.no rfl
  · rename_i m a ha n b hb
    refine .inr (.inr ?_)
    have hr : oAdd (.loc m) (.loc n) S = match S[m]?, S[n]? with
      | some (.lst a), some (.lst b) => if a.length + b.length ≤ line then newL (a ++ b) S else none
      | _, _ => none := rfl
    cases em : S[m]? with
    | none => exact run.no (by rw [hr, em])
    | some o1 =>
      cases o1 with
      | dct => exact run.no (by rw [hr, em])
      | lst l1 =>
        cases en : S[n]? with
        | none => exact run.no (by rw [hr, em, en])
        | some o2 =>
          cases o2 with
          | dct => exact run.no (by rw [hr, em, en])
          | lst l2 =>
            by_cases hz : l1.length + l2.length ≤ line
            · obtain ⟨a1, e1, vs, h1, r1⟩ := rs.ob m _ em
              obtain ⟨b1, e2, ws, h2, r2⟩ := rs.ob n _ en
              rw [ha] at e1; cases e1
              rw [hb] at e2; cases e2
              have run' : Run G (Rv G) (newL (l1 ++ l2)) μ H S Q EQ := by
                obtain ⟨r, e, h⟩ := run
                refine ⟨r, ?_, h⟩
                rw [← e, hr, em, en]
                simp only [if_pos hz]
              refine ⟨a, b, vs, ws, rfl, rfl, h1, h2, ?_, (Run.newL rs (r1.app r2) run').2⟩
              rw [← r1.length, ← r2.length, ← line_eq]; exact hz
            · exact run.no (by rw [hr, em, en]; simp only [if_neg hz])
theorem om_sub : OpM G (rI0 fun i j => V.int (i - j)) oSub := by
  intro μ H S x y v w Q EQ rs rx ry run
  cases rx <;> cases ry <;> first | exact run.no rfl | skip
  exact ⟨_, _, rfl, rfl, run.ret (.int _) rs⟩
theorem om_mul : OpM G (fun x y H Q => rI CMulW (fun i j => V.int (i * j)) x y H Q ∨ rRepT G.K x y H Q ∨ rRep x y H Q) oMul := by
  intro μ H S x y v w Q EQ rs rx ry run
  cases rx <;> cases ry <;> first | exact run.no rfl | skip
  · rename_i i j
    by_cases hz : i.natAbs.log2 + j.natAbs.log2 < 1000000
    · replace run : Run G (Rv G) (ret (.int (i * j))) μ H S Q EQ := by simpa only [oMul, if_pos hz] using run
      exact .inl ⟨i, j, rfl, rfl, hz, run.ret (.int _) rs⟩
    · exact run.no (by simp only [oMul, if_neg hz]; rfl)
  · rename_i xs vs a h r k
    by_cases hz : xs ≠ [] ∧ 2 ≤ k ∧ k ≤ 1000 ∧ xs.length ≤ 1000
    · replace run : Run G (Rv G) (ret (.tup (List.replicate k.toNat xs).flatten)) μ H S Q EQ := by simpa only [oMul, if_pos hz] using run
      refine .inr (.inl ⟨a, k, vs, rfl, rfl, h, ?_, hz.2.1, hz.2.2.1, by rw [← r.length]; exact hz.2.2.2, fun p hp => ?_⟩)
      · rintro rfl
        cases r
        exact hz.1 rfl
      · exact run.end_ rfl μ _ _ (gr_laid hp) (.tup (.of upd_same) ((r.rep k.toNat).up (gr_laid hp))) (rs.side hp)
    · exact run.no (by simp only [oMul, if_neg hz]; rfl)
  · rename_i m a ha k
    refine .inr (.inr ?_)
    have hr : oMul (.loc m) (.int k) S = match S[m]? with
      | some (.lst a) => if -(2 ^ 63) ≤ k ∧ k < 2 ^ 63 ∧ a.length * k.toNat ≤ line then newL (List.replicate k.toNat a).flatten S else none
      | _ => none := rfl
    cases em : S[m]? with
    | none => exact run.no (by rw [hr, em])
    | some o1 =>
      cases o1 with
      | dct => exact run.no (by rw [hr, em])
      | lst l1 =>
        by_cases hz : -(2 ^ 63) ≤ k ∧ k < 2 ^ 63 ∧ l1.length * k.toNat ≤ line
        · obtain ⟨a1, e1, vs, h1, r1⟩ := rs.ob m _ em
          rw [ha] at e1; cases e1
          have run' : Run G (Rv G) (newL (List.replicate k.toNat l1).flatten) μ H S Q EQ := by
            obtain ⟨r, e, h⟩ := run
            refine ⟨r, ?_, h⟩
            rw [← e, hr, em]
            simp only [if_pos hz]
          exact ⟨a, k, vs, rfl, rfl, h1, hz.1, hz.2.1, by rw [← r1.length, ← line_eq]; exact hz.2.2, (Run.newL rs (r1.rep k.toNat) run').2⟩
        · exact run.no (by rw [hr, em]; simp only [if_neg hz])
def CDivA (_ j : Int) : Prop := j ≠ 0 ∧ j.natAbs.log2 < 9000
theorem op_fdivA : OpR X (binaryOp .FloorDiv) (rI CDivA fun i j => .int (i.fdiv j)) := opI fun i j _ _ _ _ _ hc q => PyProof.Rows.floordiv_int hc.1 q (.inl (PyProof.noPylong_of_log2 hc.2))
theorem om_div : OpM G (rI CDivA fun i j => V.int (i.fdiv j)) oDiv := by
  intro μ H S x y v w Q EQ rs rx ry run
  cases rx <;> cases ry <;> first | exact run.no rfl | skip
  rename_i i j
  by_cases hz : j ≠ 0 ∧ j.natAbs.log2 < 9000
  · replace run : Run G (Rv G) (ret (.int (i.fdiv j))) μ H S Q EQ := by simpa only [oDiv, if_pos hz] using run
    exact ⟨i, j, rfl, rfl, hz, run.ret (.int _) rs⟩
  · exact run.no (by simp only [oDiv, if_neg hz]; rfl)
theorem om_mod : OpM G (rI (fun _ j => j ≠ 0) fun i j => V.int (i.fmod j)) oMod := by
  intro μ H S x y v w Q EQ rs rx ry run
  cases rx <;> cases ry <;> first | exact run.no rfl | skip
  rename_i i j
  by_cases hz : j ≠ 0
  · replace run : Run G (Rv G) (ret (.int (i.fmod j))) μ H S Q EQ := by simpa only [oMod, if_pos hz] using run
    exact ⟨i, j, rfl, rfl, hz, run.ret (.int _) rs⟩
  · exact run.no (by simp only [oMod, if_neg hz]; rfl)
theorem om_pow : OpM G (rI CPow fun i j => V.int (i ^ j.toNat)) oPow := by
  intro μ H S x y v w Q EQ rs rx ry run
  cases rx <;> cases ry <;> first | exact run.no rfl | skip
  rename_i i j
  by_cases hz : 0 ≤ j ∧ j ≤ 1000000 ∧ i.natAbs < 2 ^ 64
  · replace run : Run G (Rv G) (ret (.int (i ^ j.toNat))) μ H S Q EQ := by simpa only [oPow, if_pos hz] using run
    exact ⟨i, j, rfl, rfl, hz, run.ret (.int _) rs⟩
  · exact run.no (by simp only [oPow, if_neg hz]; rfl)
theorem om_cmp {p : Int → Int → Bool} : OpM G (rI0 fun i j => V.bl (p i j)) (oCmp p) := by
  intro μ H S x y v w Q EQ rs rx ry run
  cases rx <;> cases ry <;> first | exact run.no rfl | skip
  exact ⟨_, _, rfl, rfl, run.ret (.bl _) rs⟩
mutual
theorem pd0_ok {μ H} : ∀ {x : Vl} {v : V} {d : PyData}, Rv G μ H x v → pd0 x = some d → Dp G.K H v d
  | _, _, _, .non, e => by cases e; exact .non
  | _, _, _, .bl b, e => by cases e; exact .bl b
  | _, _, _, .int i, e => by cases e; exact .int i
  | _, _, _, .str s, e => by cases e; exact .str s
  | .tup xs, _, d, .tup h r, e => by
    unfold pd0 at e
    split at e
    · rename_i ds es
      cases e
      exact .tup h (pds0_ok r es)
    · cases e
  | _, _, _, .loc h, e => by unfold pd0 at e; cases e
  | .frz xs, _, d, .frz h r, e => by
    unfold pd0 at e
    split at e
    · rename_i ds es
      cases e
      exact .lst h.sql (pds0_ok r es)
    · cases e
  | _, _, _, .fn h, e => by unfold pd0 at e; cases e
  | _, _, _, .ty n, e => by unfold pd0 at e; cases e
  | _, _, _, .cls h, e => by unfold pd0 at e; cases e
theorem pds0_ok {μ H} : ∀ {xs : List Vl} {vs : List V} {ds : List PyData}, Rvs G μ H xs vs → pds0 xs = some ds → DpAll G.K H vs ds
  | _, _, _, .nil, e => by unfold pds0 at e; cases e; exact .nil
  | x :: xs, _, ds, .cons h t, e => by
    unfold pds0 at e
    split at e
    · rename_i d ds' e1 e2
      cases e
      exact .cons (pd0_ok h e1) (pds0_ok t e2)
    · cases e
end
theorem pd_ok {μ H S} (rs : RS G μ H S) {x : Vl} {v : V} {d : PyData} (rx : Rv G μ H x v) (e : pd S x = some d) : Dp G.K H v d := by
  unfold pd at e
  split at e
  · rename_i n
    cases rx with
    | loc h =>
      split at e
      · rename_i xs en
        split at e
        · rename_i ds es
          cases e
          obtain ⟨a, e1, vs, h1, r1⟩ := rs.ob n _ en
          rw [h] at e1; cases e1
          exact .lst (.of h1) (pds0_ok r1 es)
        · cases e
      · cases e
  · exact pd0_ok rx e
theorem om_eqD {c : Bool → Bool} : OpM G (fun x y H Q => ∃ d e, Dp G.K H x d ∧ Dp G.K H y e ∧ SeqAt.shaped d = true ∧ SeqAt.shaped e = true ∧ Q (.bl (c (PyData.eqv d e))) H) (fun x y => bnd (eqD x y) fun b => ret (.bl (c b))) := by
  intro μ H S x y v w Q EQ rs rx ry run
  cases ex : pd S x with
  | none => exact run.no (by simp only [bnd, eqD, ex])
  | some d =>
    cases ey : pd S y with
    | none => exact run.no (by simp only [bnd, eqD, ex, ey])
    | some e =>
      by_cases hz : SeqAt.shaped d = true ∧ SeqAt.shaped e = true
      · refine ⟨d, e, pd_ok rs rx ex, pd_ok rs ry ey, hz.1, hz.2, ?_⟩
        exact run.end_ (a := .bl (c (PyData.eqv d e))) (S1 := S) (by simp only [bnd, eqD, ex, ey, if_pos hz]; rfl) μ H _ .refl (.bl _) rs
      · exact run.no (by simp only [bnd, eqD, ex, ey, if_neg hz])
theorem om_eq : OpM G (fun x y H Q => rEq x y H Q ∨ rEqD G.K x y H Q) oEq := by
  intro μ H S x y v w Q EQ rs rx ry run
  have gen : ∀ (run : Run G (Rv G) (bnd (eqD x y) fun b => ret (.bl b)) μ H S Q EQ), rEqD G.K v w H Q := fun run => om_eqD (c := fun b => b) μ H S x y v w Q EQ rs rx ry run
  cases rx <;> cases ry <;> first | exact .inr (gen run) | exact .inl ⟨rfl, by have := run.ret (.bl _) rs; simpa using this⟩
theorem om_ne : OpM G (fun x y H Q => rNe x y H Q ∨ rNeD G.K x y H Q) oNe := by
  intro μ H S x y v w Q EQ rs rx ry run
  have gen : ∀ (run : Run G (Rv G) (bnd (eqD x y) fun b => ret (.bl (!b))) μ H S Q EQ), rNeD G.K v w H Q := fun run => om_eqD (c := fun b => !b) μ H S x y v w Q EQ rs rx ry run
  cases rx <;> cases ry <;> first | exact .inr (gen run) | exact .inl ⟨rfl, by have := run.ret (.bl _) rs; simpa using this⟩
/-- x is None: the right side is written None -/
theorem om_isN : OpM G (fun x y H Q => y = V.non ∧ Q (.bl (decide (x = .non))) H) (fun x y => match y with | .non => oIsN x | _ => stuck) := by
  intro μ H S x y v w Q EQ rs rx ry run
  cases ry <;> first | exact run.no rfl | skip
  refine ⟨rfl, ?_⟩
  have := run.ret (.bl _) rs
  cases rx <;> simpa using this
theorem om_notN : OpM G (fun x y H Q => y = V.non ∧ Q (.bl (!decide (x = .non))) H) (fun x y => match y with | .non => oNotN x | _ => stuck) := by
  intro μ H S x y v w Q EQ rs rx ry run
  cases ry <;> first | exact run.no rfl | skip
  refine ⟨rfl, ?_⟩
  have := run.ret (.bl _) rs
  cases rx <;> simpa using this
/-! ## 7. Items, slices -/
theorem getL_ok {μ H S} (rs : RS G μ H S) {x : Vl} {v : V} {xs : List Vl} {S1 : Store} (rx : Rv G μ H x v) (e : getL x S = some (.ok xs S1)) : S1 = S ∧ ∃ a vs, v = .ref a ∧ SqL G.K H a vs ∧ Rvs G μ H xs vs := by
  unfold getL at e
  cases rx with
  | frz h r => cases e; exact ⟨rfl, _, _, rfl, h.sql, r⟩
  | loc h =>
    rename_i n a
    dsimp only at e
    split at e
    · rename_i l en
      cases e
      obtain ⟨b, e1, vs, h1, r1⟩ := rs.ob n _ en
      rw [h] at e1; cases e1
      exact ⟨rfl, a, vs, rfl, .of h1, r1⟩
    · cases e
  | _ => cases e
theorem getL_cases (x : Vl) (S : Store) : getL x S = none ∨ ∃ xs, getL x S = some (.ok xs S) := by
  unfold getL
  cases x with
  | frz xs => exact .inr ⟨xs, rfl⟩
  | loc n =>
    dsimp only
    split
    · exact .inr ⟨_, rfl⟩
    · exact .inl rfl
  | _ => exact .inl rfl
theorem atI_get {xs : List Vl} {vs : List V} {μ H i x} (r : Rvs G μ H xs vs) (e : atI xs i = some x) : ∃ v, atI vs i = some v ∧ Rv G μ H x v := by
  unfold atI at *
  rw [← r.length]
  cases q : ixN xs.length i with
  | none => rw [q] at e; cases e
  | some j =>
    rw [q] at e
    exact r.get e
theorem om_ix : OpM G (fun x y H Q => rIxL G.K x y H Q ∨ rIxT G.K x y H Q) oIx := by
  intro μ H S x y v w Q EQ rs rx ry run
  have gen : ∀ {i : Int}, w = .int i → Run G (Rv G) (bnd (getL x) fun xs => match atI xs i with | some v => ret v | none => stuck) μ H S Q EQ → rIxL G.K v w H Q := by
    intro i hi run
    rcases getL_cases x S with h | ⟨xs, h⟩
    · exact run.no (by simp only [bnd, h])
    · obtain ⟨_, a, vs, e1, h1, r1⟩ := getL_ok rs rx h
      cases e2 : atI xs i with
      | none => exact run.no (by simp only [bnd, h, e2]; rfl)
      | some z =>
        obtain ⟨u, h2, rz⟩ := atI_get r1 e2
        exact ⟨a, vs, i, u, e1, hi, h1, h2, run.end_ (a := z) (S1 := S) (by simp only [bnd, h, e2]; rfl) μ H _ .refl rz rs⟩
  cases ry with
  | int i =>
    cases rx with
    | tup h r =>
      rename_i xs vs a
      cases e2 : atI xs i with
      | none => exact run.no (by simp only [oIx, e2]; rfl)
      | some z =>
        obtain ⟨u, h2, rz⟩ := atI_get r e2
        exact .inr ⟨a, vs, i, u, rfl, rfl, h, h2, run.end_ (a := z) (S1 := S) (by simp only [oIx, e2]; rfl) μ H _ .refl rz rs⟩
    | _ => exact .inl (gen rfl run)
  | _ => exact run.no (by cases rx <;> rfl)
variable {W : WX} {a b : Expr} {fa fb : Ev} {pos : Pos}
theorem xe_ix (ha : PE X a (T G W fa)) (hb : PE X b (T G W fb)) (hK : G.K = X.K := by rfl) (hs : PlainIx b := by intro _ _; rfl) : PE X (.Subscript a b pos) (T G W (eOp oIx fa fb)) :=
  xe_op0 (pe_ix (ix_list.or ix_tup) ha hb hs) (by rw [← hK]; exact om_ix)
theorem PO.imp {e : Option Expr} {t t' : TO} (h : PO X e t) (i : ∀ σ H Q, t' σ H Q → t σ H Q) : PO X e t' := ⟨fun pins s σ H Q I q => h.run pins s σ H Q I (i _ _ _ q)⟩
theorem SlR.or {r r' : V → Option Int → Option Int → Hp → VK → Prop} (h : L2.SlR X r) (h' : L2.SlR X r') : L2.SlR X (fun x l u H Q => r x l u H Q ∨ r' x l u H Q) := by
  intro pins s σ H x v vl vu lo hi sl Q I rx hs pl pu q
  rcases q with q | q
  · exact h pins s σ H x v vl vu lo hi sl Q I rx hs pl pu q
  · exact h' pins s σ H x v vl vu lo hi sl Q I rx hs pl pu q
/-! ## 8. Builtins -/
def bLen : List Vl → M Vl
  | [.tup xs] => if xs.length ≤ line then ret (.int xs.length) else stuck
  | [x] => bnd (getL x) fun xs => ret (.int xs.length)
  | _ => stuck
theorem am_len : AsM G (fun xs H Q => ∃ x n, xs = [x] ∧ LenV G.K x H n ∧ Q (.int n) H) bLen := by
  intro μ H S x v Q EQ rs rx run
  cases rx with
  | nil => exact run.no rfl
  | cons r t =>
    cases t with
    | cons _ _ => exact run.no (by cases r <;> rfl)
    | nil =>
      have gen : ∀ {x : Vl} {v : V}, Rv G μ H x v → Run G (Rv G) (bnd (getL x) fun xs => ret (.int xs.length)) μ H S Q EQ → ∃ n, LenV G.K v H n ∧ Q (.int n) H := fun {x v} rx run => by
        rcases getL_cases x S with h | ⟨xs, h⟩
        · exact run.no (by simp only [bnd, h])
        · obtain ⟨_, a, vs, e1, h1, r1⟩ := getL_ok rs rx h
          subst e1
          refine ⟨vs.length, .inl ⟨vs, h1, rfl⟩, ?_⟩
          rw [← r1.length]
          exact run.end_ (a := .int xs.length) (S1 := S) (by simp only [bnd, h]; rfl) μ H _ .refl (.int _) rs
      cases r with
      | tup h r =>
        rename_i xs vs a
        refine ⟨_, vs.length, rfl, .inr ⟨vs, h, rfl⟩, ?_⟩
        rw [← r.length]
        by_cases hz : xs.length ≤ line
        · replace run : Run G (Rv G) (ret (.int xs.length)) μ H S Q EQ := by simpa only [bLen, if_pos hz] using run
          exact run.ret (.int _) rs
        · exact run.no (by simp only [bLen, if_neg hz]; rfl)
      | non => obtain ⟨n, h1, h2⟩ := gen .non run; exact ⟨_, n, rfl, h1, h2⟩
      | bl b => obtain ⟨n, h1, h2⟩ := gen (.bl b) run; exact ⟨_, n, rfl, h1, h2⟩
      | int i => obtain ⟨n, h1, h2⟩ := gen (.int i) run; exact ⟨_, n, rfl, h1, h2⟩
      | str s => obtain ⟨n, h1, h2⟩ := gen (.str s) run; exact ⟨_, n, rfl, h1, h2⟩
      | loc h => obtain ⟨n, h1, h2⟩ := gen (.loc h) run; exact ⟨_, n, rfl, h1, h2⟩
      | frz h r => obtain ⟨n, h1, h2⟩ := gen (.frz h r) run; exact ⟨_, n, rfl, h1, h2⟩
      | fn h => obtain ⟨n, h1, h2⟩ := gen (.fn h) run; exact ⟨_, n, rfl, h1, h2⟩
      | ty k => obtain ⟨n, h1, h2⟩ := gen (.ty k) run; exact ⟨_, n, rfl, h1, h2⟩
      | cls h => obtain ⟨n, h1, h2⟩ := gen (.cls h) run; exact ⟨_, n, rfl, h1, h2⟩
/-- the type's name -/
def tyN (S : Store) : Vl → Option String
  | .non => some "NoneType"
  | .bl _ => some "bool"
  | .int _ => some "int"
  | .str _ => some "str"
  | .tup _ => some "tuple"
  | .frz _ => some "list"
  | .loc n => match S[n]? with
    | some (.lst _) => some "list"
    | some .dct => some "dict"
    | none => none
  | _ => none
/-- isinstance(x, T), T a builtin type by its name -/
def bIsi : List Vl → M Vl
  | [x, .ty n] => fun S => match tyN S x with
    | some t => match kitB t n with
      | some b => some (.ok (.bl b) S)
      | none => none
    | none => none
  | _ => stuck
theorem tyN_ok {μ H S} (rs : RS G μ H S) {x : Vl} {v : V} {t : String} (r : Rv G μ H x v) (e : tyN S x = some t) : TyX G.K H v (.type t) := by
  cases r with
  | non => cases e; exact .base .non
  | bl b => cases e; exact .base (.bl b)
  | int i => cases e; exact .base (.int i)
  | str s => cases e; exact .base (.str s)
  | tup h r =>
    cases e
    rcases h with (h | ⟨o, h⟩) | ⟨o, its, n, h1, h2, _⟩
    · exact .base (.tup h)
    · exact .fTuple h
    · exact .kTuple h1 h2
  | frz h r =>
    cases e
    rcases h.sql with (h | ⟨o, h⟩) | ⟨o, its, n, h1, h2, _⟩
    · exact .base (.lst h)
    · exact .base (.frz h)
    · exact .kList h1 h2
  | loc h =>
    rename_i n a
    unfold tyN at e
    dsimp only at e
    split at e
    · rename_i l en
      cases e
      obtain ⟨b, e1, vs, h1, r1⟩ := rs.ob n _ en
      rw [h] at e1; cases e1
      exact .base (.lst h1)
    · rename_i en
      cases e
      obtain ⟨b, e1, h1⟩ := rs.ob n _ en
      rw [h] at e1; cases e1
      exact .base (.dK h1)
    · cases e
  | fn h => cases e
  | ty n => cases e
  | cls h => cases e
theorem am_isi : AsM G (rIsi G.K) bIsi := by
  intro μ H S x v Q EQ rs rx run
  cases rx with
  | nil => exact run.no rfl
  | cons r t =>
    rename_i x v xs vs
    cases t with
    | nil => exact run.no rfl
    | cons r2 t2 =>
      cases t2 with
      | cons _ _ => exact run.no (by cases r2 <;> rfl)
      | nil =>
        cases r2 <;> first | exact run.no rfl | skip
        rename_i n
        cases e1 : tyN S x with
        | none => exact run.no (by simp only [bIsi, e1])
        | some t =>
          cases e2 : kitB t n with
          | none => exact run.no (by simp only [bIsi, e1, e2])
          | some b =>
            refine ⟨_, _, .type t, .type n, b, rfl, .ty n, tyN_ok rs r e1, kit_ty e2, ?_⟩
            exact run.end_ (a := .bl b) (S1 := S) (by simp only [bIsi, e1, e2]) μ H _ .refl (.bl _) rs
/-- tuple(x), list(x) -/
def bTuple : List Vl → M Vl
  | [.tup xs] => ret (.tup xs)
  | [x] => bnd (getL x) fun xs => ret (.tup xs)
  | _ => stuck
theorem am_tuple : AsM G (fun xs H Q => ∃ p ys, xs = [V.ref p] ∧ ((SqL G.K H p ys ∧ ∀ l, H l = none → Q (.ref l) (upd H l (.tup ys))) ∨ (SqT G.K H p ys ∧ Q (.ref p) H))) bTuple := by
  intro μ H S x v Q EQ rs rx run
  cases rx with
  | nil => exact run.no rfl
  | cons r t =>
    cases t with
    | cons _ _ => exact run.no (by cases r <;> rfl)
    | nil =>
      have gen : ∀ {x : Vl} {v : V}, Rv G μ H x v → Run G (Rv G) (bnd (getL x) fun xs => ret (.tup xs)) μ H S Q EQ → ∃ p ys, [v] = [V.ref p] ∧ (SqL G.K H p ys ∧ ∀ l, H l = none → Q (.ref l) (upd H l (.tup ys))) := fun {x v} rx run => by
        rcases getL_cases x S with h | ⟨xs, h⟩
        · exact run.no (by simp only [bnd, h])
        · obtain ⟨_, a, vs, e1, h1, r1⟩ := getL_ok rs rx h
          subst e1
          refine ⟨a, vs, rfl, h1, fun p hp => ?_⟩
          exact run.end_ (a := .tup xs) (S1 := S) (by simp only [bnd, h]; rfl) μ _ _ (gr_laid hp) (.tup (.of upd_same) (r1.up (gr_laid hp))) (rs.side hp)
      cases r with
      | tup h r => exact ⟨_, _, rfl, .inr ⟨h, run.ret (.tup h r) rs⟩⟩
      | non => obtain ⟨p, ys, h1, h2⟩ := gen .non run; exact ⟨p, ys, h1, .inl h2⟩
      | bl b => obtain ⟨p, ys, h1, h2⟩ := gen (.bl b) run; exact ⟨p, ys, h1, .inl h2⟩
      | int i => obtain ⟨p, ys, h1, h2⟩ := gen (.int i) run; exact ⟨p, ys, h1, .inl h2⟩
      | str s => obtain ⟨p, ys, h1, h2⟩ := gen (.str s) run; exact ⟨p, ys, h1, .inl h2⟩
      | loc h => obtain ⟨p, ys, h1, h2⟩ := gen (.loc h) run; exact ⟨p, ys, h1, .inl h2⟩
      | frz h r => obtain ⟨p, ys, h1, h2⟩ := gen (.frz h r) run; exact ⟨p, ys, h1, .inl h2⟩
      | fn h => obtain ⟨p, ys, h1, h2⟩ := gen (.fn h) run; exact ⟨p, ys, h1, .inl h2⟩
      | ty k => obtain ⟨p, ys, h1, h2⟩ := gen (.ty k) run; exact ⟨p, ys, h1, .inl h2⟩
      | cls h => obtain ⟨p, ys, h1, h2⟩ := gen (.cls h) run; exact ⟨p, ys, h1, .inl h2⟩
def bList : List Vl → M Vl
  | [.tup xs] => if xs.length ≤ line then newL xs else stuck
  | [x] => bnd (getL x) fun xs => newL xs
  | _ => stuck
theorem am_list : AsM G (fun xs H Q => ∃ p ys, xs = [V.ref p] ∧ (SqL G.K H p ys ∨ SqT G.K H p ys) ∧ ∀ l, H l = none → Q (.ref l) (upd H l (.lst ys))) bList := by
  intro μ H S x v Q EQ rs rx run
  cases rx with
  | nil => exact run.no rfl
  | cons r t =>
    cases t with
    | cons _ _ => exact run.no (by cases r <;> rfl)
    | nil =>
      have gen : ∀ {x : Vl} {v : V}, Rv G μ H x v → Run G (Rv G) (bnd (getL x) fun xs => newL xs) μ H S Q EQ → ∃ p ys, [v] = [V.ref p] ∧ SqL G.K H p ys ∧ ∀ l, H l = none → Q (.ref l) (upd H l (.lst ys)) := fun {x v} rx run => by
        rcases getL_cases x S with h | ⟨xs, h⟩
        · exact run.no (by simp only [bnd, h])
        · obtain ⟨_, a, vs, e1, h1, r1⟩ := getL_ok rs rx h
          subst e1
          have run' : Run G (Rv G) (newL xs) μ H S Q EQ := by
            obtain ⟨r, e, q⟩ := run
            exact ⟨r, by rw [← e]; simp only [bnd, h], q⟩
          exact ⟨a, vs, rfl, h1, (Run.newL rs r1 run').2⟩
      cases r with
      | tup h r =>
        rename_i xs vs a
        by_cases hz : xs.length ≤ line
        · replace run : Run G (Rv G) (newL xs) μ H S Q EQ := by simpa only [bList, if_pos hz] using run
          exact ⟨_, _, rfl, .inr h, (Run.newL rs r run).2⟩
        · exact run.no (by simp only [bList, if_neg hz]; rfl)
      | non => obtain ⟨p, ys, h1, h2, h3⟩ := gen .non run; exact ⟨p, ys, h1, .inl h2, h3⟩
      | bl b => obtain ⟨p, ys, h1, h2, h3⟩ := gen (.bl b) run; exact ⟨p, ys, h1, .inl h2, h3⟩
      | int i => obtain ⟨p, ys, h1, h2, h3⟩ := gen (.int i) run; exact ⟨p, ys, h1, .inl h2, h3⟩
      | str s => obtain ⟨p, ys, h1, h2, h3⟩ := gen (.str s) run; exact ⟨p, ys, h1, .inl h2, h3⟩
      | loc h => obtain ⟨p, ys, h1, h2, h3⟩ := gen (.loc h) run; exact ⟨p, ys, h1, .inl h2, h3⟩
      | frz h r => obtain ⟨p, ys, h1, h2, h3⟩ := gen (.frz h r) run; exact ⟨p, ys, h1, .inl h2, h3⟩
      | fn h => obtain ⟨p, ys, h1, h2, h3⟩ := gen (.fn h) run; exact ⟨p, ys, h1, .inl h2, h3⟩
      | ty k => obtain ⟨p, ys, h1, h2, h3⟩ := gen (.ty k) run; exact ⟨p, ys, h1, .inl h2, h3⟩
      | cls h => obtain ⟨p, ys, h1, h2, h3⟩ := gen (.cls h) run; exact ⟨p, ys, h1, .inl h2, h3⟩
/-- abs, max, min of two ints -/
def bMax : List Vl → M Vl
  | [.int i, .int j] => ret (.int (if j > i then j else i))
  | _ => stuck
def bMin : List Vl → M Vl
  | [.int i, .int j] => ret (.int (if j < i then j else i))
  | _ => stuck
def bAbs : List Vl → M Vl
  | [.int i] => ret (.int (if i < 0 then -i else i))
  | _ => stuck
theorem am_abs : AsM G (fun xs H Q => ∃ i, xs = [V.int i] ∧ Q (.int (if i < 0 then -i else i)) H) bAbs := by
  intro μ H S x v Q EQ rs rx run
  cases rx with
  | nil => exact run.no rfl
  | cons r t =>
    cases t with
    | cons _ _ => exact run.no (by cases r <;> rfl)
    | nil =>
      cases r <;> first | exact run.no rfl | skip
      exact ⟨_, rfl, run.ret (.int _) rs⟩
/-- xs.append(e): the list is asked ahead of e -/
def isL (x : Vl) : M Unit := fun S => match x with
  | .loc n => match S[n]? with
    | some (.lst _) => some (.ok () S)
    | _ => none
  | _ => none
def mAppend : Vl → Vl → M Vl
  | .loc n, y => fun S => match S[n]? with
    | some (.lst xs) => if xs.length < line then some (.ok .non (S.set n (.lst (xs ++ [y])))) else none
    | _ => none
  | _, _ => stuck
def eApp (a b : Ev) : Ev := fun ρ => bnd (a ρ) fun x => bnd (isL x) fun _ => bnd (b ρ) fun y => mAppend x y
theorem Run.cong {α β : Type} {Rel : List Addr → Hp → α → β → Prop} {m m' : M α} {μ : List Addr} {H : Hp} {S : Store} {Q : β → Hp → Prop} {EQ : Str → List Addr → Hp → Store → Prop} (run : Run G Rel m μ H S Q EQ) (e : m' S = m S) : Run G Rel m' μ H S Q EQ := by
  obtain ⟨r, h, q⟩ := run
  exact ⟨r, e.trans h, q⟩
theorem isL_ok {μ H S} (rs : RS G μ H S) {x : Vl} {v : V} (rx : Rv G μ H x v) : isL x S = none ∨ isL x S = some (.ok () S) ∧ ∃ n a xs vs, x = .loc n ∧ v = .ref a ∧ μ[n]? = some a ∧ S[n]? = some (.lst xs) ∧ H a = some (.lst vs) ∧ Rvs G μ H xs vs := by
  cases rx with
  | loc h =>
    rename_i n a
    unfold isL
    dsimp only
    cases e : S[n]? with
    | none => exact .inl rfl
    | some o =>
      cases o with
      | dct => exact .inl rfl
      | lst xs =>
        obtain ⟨b, e1, vs, h1, r1⟩ := rs.ob n _ e
        rw [h] at e1; cases e1
        exact .inr ⟨rfl, n, a, xs, vs, rfl, rfl, h, e, h1, r1⟩
  | _ => exact .inl rfl
theorem xe_append {o e : Expr} {fo fe : Ev} {apos cpos : Pos} (ho : PE X o (T G W fo)) (he : PE X e (T G W fe)) (hK : G.K = X.K := by rfl)
    (hbase : attributeBase o "append" X.env (eval o X.env) = eval o X.env := by rfl)
    (hfew : ((backTo cpos (starEach [e] X.env)).all (fun x => !x.1) && (backToKw cpos (keywordEach [] X.env)).all (fun x => x.1.isSome)
      && decide ([e].length + ([] : List Keyword).length + (if ([] : List Keyword).isEmpty then 0 else 1) < 30)) = true := by rfl)
    (hline : (apos.endLine == cpos.line) = true := by rfl) (hs : starEach [e] X.env = (false, eval e X.env) :: starEach [] X.env := by rfl) (hplain : (backTo cpos (starEach [] X.env)).any (·.1) = false := by rfl) :
    PE X (.Call (.Attribute o "append" apos) [e] [] cpos) (T G W (eApp fo fe)) := by
  refine PE.imp (pe_bm PySem.F.plainAttrs_list PySem.F.slot_list_append PySem.F.type_list_append mt_append ho (pa_cons he pa_nil hs) hbase hfew hline hs hplain) ?_
  rintro σ H Q ⟨μ, ρ, S, rs, rr, run⟩
  refine T_bnd rs rr run fun v H1 μ1 x S1 g1 rx rs1 rr1 run1 => ?_
  rcases isL_ok rs1 rx with h | ⟨h, n, a, xs, vs, rfl, rfl, hn, hS, ha, rv⟩
  · exact run1.no (by simp only [bnd, h])
  · refine ⟨.inl ⟨rfl, vs, by rw [← hK]; exact .of ha⟩, ?_⟩
    have run1' : Run G (Rv G) (bnd (fe ρ) fun y => mAppend (.loc n) y) μ1 H1 S1 Q (EW G W σ) := run1.cong (by simp only [bnd, h])
    refine T_bnd rs1 rr1 run1' fun w H2 μ2 y S2 g2 ry rs2 rr2 run2 => ?_
    have hn2 := g2.pre _ _ hn
    cases e2 : S2[n]? with
    | none => exact run2.no (by simp only [mAppend, e2])
    | some ob =>
      cases ob with
      | dct => exact run2.no (by simp only [mAppend, e2])
      | lst ys =>
        obtain ⟨b, e3, ws, h3, r3⟩ := rs2.ob n _ e2
        rw [hn2] at e3; cases e3
        by_cases hz : ys.length < line
        · obtain ⟨rs3, g3⟩ := rs2.put e2 hn2 h3 (r3.app (.cons ry .nil))
          refine ⟨a, ws, w, rfl, rfl, h3, by rw [← r3.length, ← line_eq]; exact hz, ?_⟩
          exact run2.end_ (a := .non) (S1 := S2.set n (.lst (ys ++ [y]))) (by simp only [mAppend, e2, if_pos hz]) μ2 _ _ g3 .non rs3
        · exact run2.no (by simp only [mAppend, e2, if_neg hz])
end
end Tw
end
section
set_option Elab.async false
set_option maxRecDepth 100000
set_option maxHeartbeats 3000000
set_option autoImplicit true
set_option linter.all false
set_option relaxedAutoImplicit true
namespace Tw
open PySem L2
/-! ## 9. Statements: the runs -/
inductive Fl where
  | nx (ρ : Rho) | rt (v : Vl) | bk (ρ : Rho) | ct (ρ : Rho)
inductive SR where
  | ok (f : Fl) (S : Store)
  | er (c : Str) (ρ : Rho) (S : Store)
abbrev Sv := Rho → Store → Option SR
def sBnd {α : Type} (m : M α) (ρ : Rho) (k : α → Store → Option SR) : Store → Option SR := fun S => match m S with
  | some (.ok a S1) => k a S1
  | some (.er c S1) => some (.er c ρ S1)
  | none => none
def sNext : Sv := fun ρ S => some (.ok (.nx ρ) S)
def sBrk : Sv := fun ρ S => some (.ok (.bk ρ) S)
def sCont : Sv := fun ρ S => some (.ok (.ct ρ) S)
def sSeq (a b : Sv) : Sv := fun ρ S => match a ρ S with
  | some (.ok (.nx ρ1) S1) => b ρ1 S1
  | r => r
def sExpr (f : Ev) : Sv := fun ρ => sBnd (f ρ) ρ fun _ S => some (.ok (.nx ρ) S)
def sRet (f : Ev) : Sv := fun ρ => sBnd (f ρ) ρ fun v S => some (.ok (.rt v) S)
def sRetN : Sv := fun ρ S => some (.ok (.rt .non) S)
def sIf (t : Tv) (a b : Sv) : Sv := fun ρ => sBnd (t ρ) ρ fun c => if c = true then a ρ else b ρ
/-- a target: a slot; a tuple of targets -/
abbrev Tg := Vl → Rho → Option Rho
def gSlot (i : Nat) : Tg := fun x ρ => some (ρ.set i (some x))
def gsNil : List Vl → Rho → Option Rho := fun xs ρ => match xs with
  | [] => some ρ
  | _ => none
def gsCons (g : Tg) (r : List Vl → Rho → Option Rho) : List Vl → Rho → Option Rho := fun xs ρ => match xs with
  | x :: xs => match g x ρ with
    | some ρ1 => r xs ρ1
    | none => none
  | [] => none
def gPair (n : Nat) (r : List Vl → Rho → Option Rho) : Tg := fun x ρ => match x with
  | .tup xs => if xs.length = n then r xs ρ else none
  | _ => none
def sAsg (f : Ev) (g : Tg) : Sv := fun ρ => sBnd (f ρ) ρ fun v S => match g v ρ with
  | some ρ1 => some (.ok (.nx ρ1) S)
  | none => none
def sSet (i : Nat) (f : Ev) : Sv := sAsg f (gSlot i)
/-- o[i] = e -/
def mPut : Vl → Vl → Vl → M Unit
  | .loc n, .int k, v => fun S => match S[n]? with
    | some (.lst xs) => match ixN xs.length k with
      | some j => some (.ok () (S.set n (.lst (xs.set j v))))
      | none => none
    | _ => none
  | _, _, _ => stuck
def sPut (fo fi fe : Ev) : Sv := fun ρ => sBnd (fe ρ) ρ fun v => sBnd (fo ρ) ρ fun o => sBnd (fi ρ) ρ fun i => sBnd (mPut o i v) ρ fun _ S => some (.ok (.nx ρ) S)
def sAug (i : Nat) (g : Vl → Vl → M Vl) (f : Ev) : Sv := fun ρ => match ρ[i]? with
  | some (some x) => sBnd (f ρ) ρ fun y => sBnd (g x y) ρ fun z S => some (.ok (.nx (ρ.set i (some z))) S)
  | _ => fun _ => none
def sRaise (c : Str) : Sv := fun ρ S => some (.er c ρ S)
/-- no error comes out of it -/
def noEr : Option SR → Option SR
  | some (.ok f S) => some (.ok f S)
  | _ => none
/-- the clauses of a try: which errors each takes, and its suite -/
def hand : List ((Str → Option Bool) × Sv) → Str → Sv
  | [], c, ρ, S => some (.er c ρ S)
  | (t, h) :: r, c, ρ, S => match t c with
    | some true => noEr (h ρ S)
    | some false => hand r c ρ S
    | none => none
def sTry (b : Sv) (cs : List ((Str → Option Bool) × Sv)) : Sv := fun ρ S => match b ρ S with
  | some (.er c ρ1 S1) => hand cs c ρ1 S1
  | r => r
/-- the items one by one -/
def loop (g : Tg) (b : Sv) : List Vl → Sv
  | [], ρ, S => some (.ok (.nx ρ) S)
  | x :: xs, ρ, S => match g x ρ with
    | none => none
    | some ρ0 => match b ρ0 S with
      | some (.ok (.nx ρ1) S1) => loop g b xs ρ1 S1
      | some (.ok (.ct ρ1) S1) => loop g b xs ρ1 S1
      | some (.ok (.bk ρ1) S1) => some (.ok (.nx ρ1) S1)
      | some (.ok (.rt v) S1) => some (.ok (.rt v) S1)
      | some (.er c ρ1 S1) => some (.er c ρ1 S1)
      | none => none
open Classical in
/-- .. of a list that stays as it is -/
noncomputable def loopL (n : Nat) (o : Ob) (g : Tg) (b : Sv) : List Vl → Sv
  | [], ρ, S => if S[n]? = some o then some (.ok (.nx ρ) S) else none
  | x :: xs, ρ, S => if S[n]? = some o then match g x ρ with
    | none => none
    | some ρ0 => match b ρ0 S with
      | some (.ok (.nx ρ1) S1) => loopL n o g b xs ρ1 S1
      | some (.ok (.ct ρ1) S1) => loopL n o g b xs ρ1 S1
      | some (.ok (.bk ρ1) S1) => some (.ok (.nx ρ1) S1)
      | some (.ok (.rt v) S1) => some (.ok (.rt v) S1)
      | some (.er c ρ1 S1) => some (.er c ρ1 S1)
      | none => none
    else none
noncomputable def sFor (f : Ev) (g : Tg) (b : Sv) : Sv := fun ρ => sBnd (f ρ) ρ fun x => match x with
  | .tup xs => loop g b xs ρ
  | .frz xs => loop g b xs ρ
  | .loc n => fun S => match S[n]? with
    | some (.lst xs) => loopL n (.lst xs) g b xs ρ S
    | _ => none
  | _ => fun _ => none
def irange (lo : Int) (n : Nat) : List Vl := (List.range n).map fun k => .int (lo + (k : Nat))
def sForR1 (f : Ev) (g : Tg) (b : Sv) : Sv := fun ρ => sBnd (f ρ) ρ fun x => match x with
  | .int j => if -(2 ^ 62) ≤ j ∧ j < 2 ^ 62 then loop g b (irange 0 j.toNat) ρ else fun _ => none
  | _ => fun _ => none
/-- a def of ar parameters and n names -/
def fnM (ar n : Nat) (b : Sv) : List Vl → M Vl := fun xs S => if xs.length = ar then
    match b (xs.map some ++ List.replicate (n - xs.length) none) S with
    | some (.ok (.nx _) S1) => some (.ok .non S1)
    | some (.ok (.rt v) S1) => some (.ok v S1)
    | some (.er c _ S1) => some (.er c S1)
    | _ => none
  else none
/-! ## 10. Held against a reading -/
def RunS (G : GG) (W : WX) (m : Store → Option SR) (μ : List Addr) (H : Hp) (S : Store) (D : Ends) : Prop :=
  ∃ r, m S = some r ∧ match r with
    | .ok (.nx ρ') S' => ∀ μ' H' σ', Gr μ H μ' H' → RS G μ' H' S' → RR G μ' H' ρ' σ' → D.nx σ' H'
    | .ok (.rt x) S' => ∀ μ' H' v, Gr μ H μ' H' → RS G μ' H' S' → Rv G μ' H' x v → D.rt v H'
    | .ok (.bk ρ') S' => ∀ μ' H' σ', Gr μ H μ' H' → RS G μ' H' S' → RR G μ' H' ρ' σ' → D.bk σ' H'
    | .ok (.ct ρ') S' => ∀ μ' H' σ', Gr μ H μ' H' → RS G μ' H' S' → RR G μ' H' ρ' σ' → D.ct σ' H'
    | .er c ρ' S' => ∀ μ' H' σ', Gr μ H μ' H' → RS G μ' H' S' → RR G μ' H' ρ' σ' → ∃ C, G.mg c = some (.ref C) ∧ W (.ref C) none σ' H'
def TSt (G : GG) (W : WX) (f : Sv) : TS := fun D σ H => ∃ μ ρ S, RS G μ H S ∧ RR G μ H ρ σ ∧ RunS G W (f ρ) μ H S D
theorem RunS.no {G W m μ H S D} {P : Prop} (h : RunS G W m μ H S D) (e : m S = none) : P := by
  obtain ⟨r, q, _⟩ := h
  rw [e] at q; cases q
theorem RunS.cong {G W m m' μ H S D} (h : RunS G W m μ H S D) (e : m' S = m S) : RunS G W m' μ H S D := by
  obtain ⟨r, q, z⟩ := h
  exact ⟨r, e.trans q, z⟩
/-- from a later place -/
theorem RunS.later {G W m μ H S D μ0 H0} (h : RunS G W m μ0 H0 S D) (g : Gr μ0 H0 μ H) : RunS G W m μ H S D := by
  obtain ⟨r, q, z⟩ := h
  refine ⟨r, q, ?_⟩
  cases r with
  | ok f S1 =>
    cases f with
    | nx ρ => exact fun μ' H' σ' g' => z μ' H' σ' (g.trans g')
    | rt v => exact fun μ' H' σ' g' => z μ' H' σ' (g.trans g')
    | bk ρ => exact fun μ' H' σ' g' => z μ' H' σ' (g.trans g')
    | ct ρ => exact fun μ' H' σ' g' => z μ' H' σ' (g.trans g')
  | er c ρ S1 => exact fun μ' H' σ' g' => z μ' H' σ' (g.trans g')
theorem Run.sbnd {α β : Type} {G W} {Rel : List Addr → Hp → α → β → Prop} {m : M α} {ρ : Rho} {k : α → Store → Option SR} {μ H S D σ} (rr : RR G μ H ρ σ) (h : RunS G W (sBnd m ρ k) μ H S D) :
    Run G Rel m μ H S (fun v H1 => ∃ μ1 a S1, Gr μ H μ1 H1 ∧ Rel μ1 H1 a v ∧ RS G μ1 H1 S1 ∧ RR G μ1 H1 ρ σ ∧ RunS G W (k a) μ1 H1 S1 D) (EW G W σ) := by
  obtain ⟨r, e, h⟩ := h
  unfold sBnd at e
  cases q : m S with
  | none => rw [q] at e; cases e
  | some r1 =>
    rw [q] at e
    cases r1 with
    | ok a S1 => exact ⟨_, q, fun μ1 H1 v g rel rs => ⟨μ1, a, S1, g, rel, rs, rr.up g, RunS.later ⟨r, e, h⟩ g⟩⟩
    | er c S1 =>
      cases e
      exact ⟨_, q, fun μ1 H1 g rs => h μ1 H1 σ g rs (rr.up g)⟩
section
variable {G : GG} {W : WX} {X : Cx} {σ : St} {H : Hp}
theorem Ts_bnd {fa : Ev} {μ ρ S D} {k : Vl → Store → Option SR} {P : V → Hp → Prop} (rs : RS G μ H S) (rr : RR G μ H ρ σ) (run : RunS G W (sBnd (fa ρ) ρ k) μ H S D)
    (h : ∀ v H1 μ1 x S1, Gr μ H μ1 H1 → Rv G μ1 H1 x v → RS G μ1 H1 S1 → RR G μ1 H1 ρ σ → RunS G W (k x) μ1 H1 S1 D → P v H1) : T G W fa σ H P :=
  ⟨μ, ρ, S, rs, rr, (Run.sbnd rr run).imp (fun v H1 ⟨μ1, x, S1, g, rx, rs1, rr1, r1⟩ => h v H1 μ1 x S1 g rx rs1 rr1 r1) fun _ _ _ _ z => z⟩
end
end Tw
end
section
set_option Elab.async false
set_option maxRecDepth 100000
set_option maxHeartbeats 3000000
set_option autoImplicit true
set_option linter.all false
set_option relaxedAutoImplicit true
namespace Tw
open PySem L2
/-! ## 11. Statements: their rules -/
/-- where a piece of the program stands -/
structure At (X : Cx) (G : GG) (W : WX) (k : Nat) : Prop where
  K : G.K = X.K
  mg : G.mg = X.mg
  room : Room k X.A
  calm : X.calm = true
  tk : Takes X W
  own : PassesOwn (model X.prog X.w) X.A X.env X.xe
  nd : X.N.Nodup
  gd : X.A.guards = some []
section
variable {G : GG} {W : WX} {X : Cx} {k : Nat} {e : Expr} {f : Ev} {fs : Evs} {pos : Pos} {st : Stmt} {rest : List Stmt} {a b : Sv}
theorem xs_nil : PSs X [] (TSt G W sNext) := by
  refine PSs.imp pss_nil ?_
  rintro D σ H ⟨μ, ρ, S, rs, rr, r, e, h⟩
  cases e
  exact h μ H σ .refl rs rr
theorem RunS.seq {μ H S D} {m : Store → Option SR} {b : Sv} (h : RunS G W (fun S => match m S with | some (.ok (.nx ρ1) S1) => b ρ1 S1 | r => r) μ H S D) :
    RunS G W m μ H S { D with nx := TSt G W b D } := by
  obtain ⟨r, e, h⟩ := h
  cases q : m S with
  | none => simp only [q] at e; cases e
  | some r1 =>
    refine ⟨r1, q, ?_⟩
    simp only [q] at e
    cases r1 with
    | er c ρ S1 => cases e; exact h
    | ok fl S1 =>
      cases fl with
      | nx ρ => exact fun μ' H' σ' g rs rr => ⟨μ', ρ, S1, rs, rr, RunS.later ⟨r, e, h⟩ g⟩
      | rt v => cases e; exact h
      | bk ρ => cases e; exact h
      | ct ρ => cases e; exact h
theorem xs_cons (h1 : PS X st (TSt G W a)) (h2 : PSs X rest (TSt G W b)) : PSs X (st :: rest) (TSt G W (sSeq a b)) := by
  refine PSs.imp (pss_cons h1 h2) ?_
  rintro D σ H ⟨μ, ρ, S, rs, rr, run⟩
  exact ⟨μ, ρ, S, rs, rr, RunS.seq run⟩
theorem xs_one (h1 : PS X st (TSt G W a)) : PSs X [st] (TSt G W a) := pss_one h1
theorem xs_expr (he : PE X e (T G W f)) (hs : swapsWith e none pos.line X.env = pure false := by rfl) : PS X (.Expr e pos) (TSt G W (sExpr f)) := by
  refine PS.imp (ps_expr he hs) ?_
  rintro D σ H ⟨μ, ρ, S, rs, rr, run⟩
  refine Ts_bnd rs rr run fun v H1 μ1 x S1 g1 rx rs1 rr1 run1 => ?_
  obtain ⟨r, e, h⟩ := run1
  cases e
  exact h μ1 H1 σ .refl rs1 rr1
theorem xs_ret (he : PE X e (T G W f)) : PS X (.Return (some e) pos) (TSt G W (sRet f)) := by
  refine PS.imp (ps_ret he) ?_
  rintro D σ H ⟨μ, ρ, S, rs, rr, run⟩
  refine Ts_bnd rs rr run fun v H1 μ1 x S1 g1 rx rs1 rr1 run1 => ?_
  obtain ⟨r, e, h⟩ := run1
  cases e
  exact h μ1 H1 v .refl rs1 rx
theorem xs_if {c : Expr} {t : Tv} {as bs : List Stmt} (hc : PT X c (TTs G W t)) (ha : PSs X as (TSt G W a)) (hb : PSs X bs (TSt G W b)) : PS X (.If c as bs pos) (TSt G W (sIf t a b)) := by
  refine PS.imp (ps_if hc ha hb) ?_
  rintro D σ H ⟨μ, ρ, S, rs, rr, run⟩
  refine ⟨μ, ρ, S, rs, rr, (Run.sbnd (Rel := fun _ _ a b => a = b) rr run).imp (fun c H1 ⟨μ1, c', S1, g, rc, rs1, rr1, run1⟩ => ?_) fun _ _ _ _ z => z⟩
  subst rc
  cases c' with
  | true => exact iteT ⟨μ1, ρ, S1, rs1, rr1, run1⟩
  | false => exact iteF ⟨μ1, ρ, S1, rs1, rr1, run1⟩
/-- targets -/
def TGm (G : GG) (g : Tg) : TG := fun v σ H Q => ∃ μ ρ S x ρ', RS G μ H S ∧ RR G μ H ρ σ ∧ Rv G μ H x v ∧ g x ρ = some ρ' ∧ ∀ σ', RR G μ H ρ' σ' → Q σ' H
def TGsm (G : GG) (g : List Vl → Rho → Option Rho) : TGs := fun v σ H Q => ∃ μ ρ S x ρ', RS G μ H S ∧ RR G μ H ρ σ ∧ Rvs G μ H x v ∧ g x ρ = some ρ' ∧ ∀ σ', RR G μ H ρ' σ' → Q σ' H
theorem PG.imp {t t' : TG} (h : PG X e t) (i : ∀ v σ H Q, t' v σ H Q → t v σ H Q) : PG X e t' := ⟨fun pins s σ H v u Q I r q => h.run pins s σ H v u Q I r (i _ _ _ _ q)⟩
theorem PGs.imp {es : List Expr} {t t' : TGs} (h : PGs X es t) (i : ∀ v σ H Q, t' v σ H Q → t v σ H Q) : PGs X es t' := ⟨fun pins s σ H v u Q I r q => h.run pins s σ H v u Q I r (i _ _ _ _ q)⟩
theorem xg_slot (i : Nat) {x : Str} (hN : X.N.Nodup) (hi : X.N[i]? = some x := by rfl) (hx : Loc X.env.scope x := by first | exact Or.inl rfl | exact Or.inr rfl)
    (hf : X.fn x = true ∨ X.env.scope.names.lookup x = some .local := by first | exact .inl rfl | exact .inr rfl) : PG X (.Name x pos) (TGm G (gSlot i)) := by
  refine PG.imp (pg_name hN hi hx hf) ?_
  rintro v σ H Q ⟨μ, ρ, S, x, ρ', rs, rr, rx, e, h⟩
  cases e
  exact h _ (rr.set rx i)
theorem xgs_nil : PGs X [] (TGsm G gsNil) := by
  refine PGs.imp pgs_nil ?_
  rintro v σ H Q ⟨μ, ρ, S, x, ρ', rs, rr, rx, e, h⟩
  cases rx with
  | nil => cases e; exact ⟨rfl, h _ rr⟩
  | cons _ _ => cases e
theorem xgs_cons {es : List Expr} {g : Tg} {r : List Vl → Rho → Option Rho} (h1 : PG X e (TGm G g)) (h2 : PGs X es (TGsm G r))
    (hs : (assignEach (e :: es) X.env).map (·.2) = assign e X.env :: (assignEach es X.env).map (·.2) := by rfl) : PGs X (e :: es) (TGsm G (gsCons g r)) := by
  refine PGs.imp (pgs_cons h1 h2 hs) ?_
  rintro v σ H Q ⟨μ, ρ, S, x, ρ', rs, rr, rx, e, h⟩
  cases rx with
  | nil => cases e
  | cons rx rt =>
    rename_i x v xs vs
    unfold gsCons at e
    dsimp only at e
    cases q : g x ρ with
    | none => rw [q] at e; cases e
    | some ρ1 =>
      rw [q] at e
      exact ⟨v, vs, rfl, μ, ρ, S, x, ρ1, rs, rr, rx, q, fun σ1 rr1 => ⟨μ, ρ1, S, xs, ρ', rs, rr1, rt, e, h⟩⟩
theorem xg_pair {es : List Expr} {j n : Nat} {r : List Vl → Rho → Option Rho} (hK : G.K = X.K) (hc : X.calm = true) (h : PGs X es (TGsm G r)) (hn : (assignEach es X.env).length = n := by rfl)
    (hst : (assignEach es X.env).findIdx? (·.1) = none := by rfl) : PG X (.Tuple es j pos) (TGm G (gPair n r)) := by
  refine PG.imp (pg_tup hc h hn hst) ?_
  rintro v σ H Q ⟨μ, ρ, S, x, ρ', rs, rr, rx, e, h⟩
  unfold gPair at e
  cases rx with
  | tup ht rt =>
    rename_i xs vs a
    dsimp only at e
    by_cases hl : xs.length = n
    · rw [if_pos hl] at e
      exact ⟨a, vs, rfl, by rw [← hK]; exact ht, by rw [← rt.length]; exact hl, μ, ρ, S, xs, ρ', rs, rr, rt, e, h⟩
    · rw [if_neg hl] at e; cases e
  | _ => cases e
theorem TGm.nx {g : Tg} {μ ρ S D x v} (rs : RS G μ H S) (rr : RR G μ H ρ σ) (rx : Rv G μ H x v) (run : RunS G W (fun S => match g x ρ with | some ρ1 => some (.ok (.nx ρ1) S) | none => none) μ H S D) : TGm G g v σ H D.nx := by
  obtain ⟨r, e, h⟩ := run
  cases q : g x ρ with
  | none => simp only [q] at e; cases e
  | some ρ1 =>
    simp only [q] at e
    cases e
    exact ⟨μ, ρ, S, x, ρ1, rs, rr, rx, q, fun σ' rr' => h μ H σ' .refl rs rr'⟩
theorem xs_asg {tg : Expr} {g : Tg} (he : PE X e (T G W f)) (hg : PG X tg (TGm G g)) (hs : swapsWithSole [tg] e pos.line X.env = pure false := by rfl) (hw : swappedStores [tg] e X.env = pure none := by rfl)
    (h1 : (assignEach [tg] X.env).map (·.2) = [assign tg X.env] := by rfl) : PS X (.Assign [tg] e pos) (TSt G W (sAsg f g)) := by
  refine PS.imp (ps_asg he hg hs hw h1) ?_
  rintro D σ H ⟨μ, ρ, S, rs, rr, run⟩
  refine Ts_bnd rs rr run fun v H1 μ1 x S1 g1 rx rs1 rr1 run1 => ?_
  exact TGm.nx rs1 rr1 rx run1
theorem xs_set (i : Nat) {x : Str} {pos' : Pos} (hN : X.N.Nodup) (he : PE X e (T G W f)) (hi : X.N[i]? = some x := by rfl) (hx : Loc X.env.scope x := by first | exact Or.inl rfl | exact Or.inr rfl)
    (hs : swapsWith e (some (.Name x pos')) pos.line X.env = pure false := by rfl) (hf : X.fn x = true ∨ X.env.scope.names.lookup x = some .local := by first | exact .inl rfl | exact .inr rfl) :
    PS X (.Assign [.Name x pos'] e pos) (TSt G W (sSet i f)) := by
  refine PS.imp (ps_set hN hi hx he hs hf) ?_
  rintro D σ H ⟨μ, ρ, S, rs, rr, run⟩
  refine Ts_bnd rs rr run fun v H1 μ1 x S1 g1 rx rs1 rr1 run1 => ?_
  obtain ⟨r, e, h⟩ := run1
  cases e
  exact h μ1 H1 _ .refl rs1 (rr1.set rx i)
theorem xs_put {o i : Expr} {fo fi : Ev} {pos2 : Pos} (ho : PE X o (T G W fo)) (hi : PE X i (T G W fi)) (he : PE X e (T G W f))
    (ha : ∀ v, assign (.Subscript o i pos2) X.env v = (do
      let ov ← holding [v] (eval o X.env)
      let iv ← holding [v, ov] (eval i X.env)
      standAt pos2; holding [v, ov, iv] (setItem ov iv v)
      release [v, ov, iv] []) := by intro _; rfl)
    (hs : swapsWithSole [.Subscript o i pos2] e pos.line X.env = pure false := by rfl) (hw : swappedStores [.Subscript o i pos2] e X.env = pure none := by rfl)
    (h1 : (assignEach [.Subscript o i pos2] X.env).map (·.2) = [assign (.Subscript o i pos2) X.env] := by rfl) : PS X (.Assign [.Subscript o i pos2] e pos) (TSt G W (sPut fo fi f)) := by
  refine PS.imp (ps_asg he (pg_sub ho hi set_list ha) hs hw h1) ?_
  rintro D σ H ⟨μ, ρ, S, rs, rr, run⟩
  refine Ts_bnd rs rr run fun v H1 μ1 x S1 g1 rx rs1 rr1 run1 => ?_
  refine Ts_bnd rs1 rr1 run1 fun ov H2 μ2 y S2 g2 ry rs2 rr2 run2 => ?_
  refine Ts_bnd rs2 rr2 run2 fun iv H3 μ3 z S3 g3 rz rs3 rr3 run3 => ?_
  have ry3 := ry.up g3
  have rx3 := rx.up (g2.trans g3)
  cases ry3 <;> first | exact run3.no rfl | skip
  rename_i n a hn
  cases rz <;> first | exact run3.no rfl | skip
  rename_i j
  have hm : mPut (.loc n) (.int j) x S3 = match S3[n]? with
      | some (.lst xs) => match ixN xs.length j with
        | some i => some (.ok () (S3.set n (.lst (xs.set i x))))
        | none => none
      | _ => none := rfl
  cases e3 : S3[n]? with
  | none => exact run3.no (by simp only [sBnd, hm, e3])
  | some ob =>
    cases ob with
    | dct => exact run3.no (by simp only [sBnd, hm, e3])
    | lst xs =>
      obtain ⟨b, q, vs, h3, r3⟩ := rs3.ob n _ e3
      rw [hn] at q; cases q
      cases e4 : ixN xs.length j with
      | none => exact run3.no (by simp only [sBnd, hm, e3, e4])
      | some i =>
        refine ⟨a, vs, j, i, rfl, rfl, h3, by rw [← r3.length]; exact e4, ?_⟩
        obtain ⟨rs4, g4⟩ := rs3.put e3 hn h3 (r3.set rx3 i)
        obtain ⟨r, e, h⟩ := run3
        simp only [sBnd, hm, e3, e4] at e
        cases e
        exact h μ3 _ σ g4 rs4 (rr3.up g4)
def iAdd : Vl → Vl → M Vl
  | .int i, .int j => ret (.int (i + j))
  | _, _ => stuck
/-! ## 12. Calls of the text's own defs, errors -/
/-- a def's promise: it is the run f -/
def spM (G : GG) (f : List Vl → M Vl) : Sp := fun vs H Q E => ∃ μ xs S, RS G μ H S ∧ Rvs G μ H xs vs ∧ Run G (Rv G) (f xs) μ H S Q (fun c _ H' _ => ∃ C, G.mg c = some (.ref C) ∧ E (.ref C) none H')
theorem start_rr {ps : List Str} {N : List Str} {μ xs vs} (r : Rvs G μ H xs vs) : RR G μ H (xs.map some ++ List.replicate (N.length - xs.length) none) (L2.start N vs) := by
  have hl := r.length
  refine ⟨by unfold L2.start; simp [hl], fun i x e => ?_⟩
  unfold L2.start
  by_cases hi : i < xs.length
  · rw [List.getElem?_append_left (by simpa using hi), List.getElem?_map] at e
    cases q : xs[i]? with
    | none => rw [q] at e; cases e
    | some y =>
      rw [q] at e
      cases e
      obtain ⟨v, h1, h2⟩ := r.get q
      refine ⟨v, ?_, h2⟩
      rw [List.getElem?_append_left (by simpa [← hl] using hi), List.getElem?_map, h1]
      rfl
  · rw [List.getElem?_append_right (by simpa using hi)] at e
    rw [List.getElem?_replicate] at e
    split at e <;> cases e
/-- a def keeps its promise, where no repr runs around it -/
structure FnG (P : Program) (w : PySem.World) (K : PySem.W.Frag) (mg : Str → Option Value) (base : Heap) (k : Nat) (f : Addr) (fd : FuncData) (ps : List Str) (sp : Sp) : Prop where
  len : ∀ vs H Q E, sp vs H Q E → vs.length = ps.length
  run : ∀ (A : Around) (outer : List Env) (s : Shared) (H : Hp) (args : Args) (us : List Value) (vs : List V) (Q : VK) (E : XK), Room k A → A.guards = some [] → Env0 P w K mg base A outer s H →
    BindsTo s fd args (ps.zip us) → Vals vs us → sp vs H Q E → codeAny (model P w) A (.call (.ref f) args) (CR (L2.CX P w) outer P w H s Q E) s
theorem FnG.mono {P : Program} {w : PySem.World} {K : PySem.W.Frag} {mg : Str → Option Value} {base : Heap} {i j : Nat} {f : Addr} {fd : FuncData} {ps : List Str} {sp : Sp} (F : FnG P w K mg base i f fd ps sp) (h : i ≤ j) : FnG P w K mg base j f fd ps sp :=
  ⟨F.len, fun A outer s H args us vs Q E hr => F.run A outer s H args us vs Q E (hr.mono h)⟩
/-- how the call's end is told by the body's -/
theorem end_cr {P : Program} {w : PySem.World} {outer : List Env} {H : Hp} {s s' : Shared} {Q : VK} {E : XK} {X : Cx} (hp : X.prog = P) (hw : X.w = w) (ho : X.outer = outer) (he : X.ex = []) (h0 : X.H_0 = H) (s0 : X.s_0 = s) {fl : Flow}
    (h : SP X [] { nx := fun _ H' => Q .non H', rt := Q } fl s') : CR (L2.CX P w) outer P w H s Q E (.ok (match fl with | .ret u => .ret u | .next => .ret .none | .brk => .brk | .cont => .cont)) s' := by
  have fin : ∀ (σ : St) (H' : Hp) (v : V) (u : Value), Inv X [] σ H' s' → RelV v u → Q v H' → CE outer P w H s Q u s' := fun σ H' v u J rv q => by
    have hb := J.base
    have hk := J.hok
    have h1 := J.os
    rw [he, h0, s0] at hb
    rw [hp, hw] at hk
    rw [s0] at h1
    have hf : X.fs = frs outer := by show frs X.outer = _; rw [ho]
    rw [hf] at hb
    exact ⟨v, H', h1, J.bare, hb, hk, rv, q⟩
  cases fl with
  | ret u => obtain ⟨v, σ, H', J, rv, q⟩ := h; exact fin σ H' v u J rv q
  | next => obtain ⟨σ, H', J, q⟩ := h; exact fin σ H' .non .none J rfl q
  | brk => obtain ⟨_, _, _, q⟩ := h; exact q.elim
  | cont => obtain ⟨_, _, _, q⟩ := h; exact q.elim
theorem fn_ok {P : Program} {w : PySem.World} {K : PySem.W.Frag} {mg : Str → Option Value} {base : Heap} {tabs : List Addr} {qual : Str} {N ps : List Str} {ad : Addr} {b : Sv} {name : Str} {params : Arguments} {body : List Stmt} {scope : Scope} {dV kV doc pm cdv ct oc : Value} {an od : Option Addr}
    {osl : Array (Option Value)} (lk : K.lookup ad = some ⟨oc, od, .func (PySem.W.fnOf name qual params body scope dV kV doc pm an cdv ct), osl⟩) (hcd : PySem.W.codeIn K cdv qual = true) (sc : FnScope N ps scope)
    (hbody : ∀ (X : Cx) (W : WX) (A : Around) (outer : List Env) (s : Shared) (H : Hp) (E : XK), X = cxOf (L2.CX P w) P w K mg base N qual scope ad cdv A outer s H E → At X ⟨K, mg, tabs⟩ W k →
      PSs X body (TSt ⟨K, mg, tabs⟩ W b)) : FnG P w K mg base (k + 1) ad (PySem.W.fnOf name qual params body scope dV kV doc pm an cdv ct) ps (spM ⟨K, mg, tabs⟩ (fnM ps.length N.length b)) := by
  have hlen : ∀ vs H Q E, spM ⟨K, mg, tabs⟩ (fnM ps.length N.length b) vs H Q E → vs.length = ps.length := fun vs H Q E h => by
    obtain ⟨μ, xs, S, rs, rx, r, e, _⟩ := h
    rw [← rx.length]
    unfold fnM at e
    by_cases hl : xs.length = ps.length
    · exact hl
    · rw [if_neg hl] at e; cases e
  refine ⟨hlen, fun A outer s H args us vs Q E hr hgd e0 hb r hsp => ?_⟩
  have hl0 := hlen vs H Q E hsp
  have keepB : ∀ b o, base.get? b = some o → s.heap.get? b = some o := fun b o e => (e0.bs b o e).1
  refine codeAny_call_function hr.depth ((e0.mod.kin.keeps keepB) _ _ lk) rfl sc.co sc.gen rfl (PySem.W.codeRec_of (e0.mod.kin.keeps keepB) hcd) (hb _ _ _ _ (wpAny_newFunctionEnv_cells sc.kind (fun y hy => ?_) fun env he s1 x => ?_))
  · rcases sc.par y.1 (List.of_mem_zip (show (y.1, y.2) ∈ ps.zip us from hy)).1 with q | q
    · exact .inl q
    · exact .inr ⟨q, PySem.W.cellsFrom_some _ _ _ (.inl q)⟩
  subst he
  refine ⟨(e0.mod.nolimit.keeps keepB).keeps x.toInCall.keep, codeAny_func ?_⟩
  have hbd := hbody _ (fun cls d _ H' => E cls d H') A outer s H E rfl ⟨rfl, rfl, hr.deeper _, rfl, takes_of rfl rfl rfl rfl, passes_of (X := cxOf (L2.CX P w) P w K mg base N qual scope ad cdv A outer s H E) (K := fun e s'' => L2.CX P w outer H s E e s'') rfl, sc.nd, hgd⟩
  have hst : TSt ⟨K, mg, tabs⟩ (fun cls d _ H' => E cls d H') b { nx := fun _ H' => Q .non H', rt := Q } (L2.start N vs) H := by
    obtain ⟨μ, xs, S, rs, rx, r, e, h⟩ := hsp
    refine ⟨μ, _, S, rs, start_rr (ps := ps) (N := N) rx, ?_⟩
    unfold fnM at e
    by_cases hl : xs.length = ps.length
    · rw [if_pos hl] at e
      cases q : b (xs.map some ++ List.replicate (N.length - xs.length) none) S with
      | none => rw [q] at e; cases e
      | some r1 =>
        refine ⟨r1, q, ?_⟩
        rw [q] at e
        cases r1 with
        | er c ρ S1 => cases e; exact fun μ' H' σ' g rs' _ => h μ' H' g rs'
        | ok fl S1 =>
          cases fl with
          | nx ρ => cases e; exact fun μ' H' σ' g rs' _ => h μ' H' .non g .non rs'
          | rt v => cases e; exact fun μ' H' v' g rs' rv => h μ' H' v' g rv rs'
          | bk ρ => cases e
          | ct ρ => cases e
    · rw [if_neg hl] at e; cases e
  have I0 := inv_start (CX := L2.CX P w) (E := E) sc hr.hd e0 hl0 r x
  refine wpAny_mono (hbd.run [] s1 (L2.start N vs) H _ I0 hst) (fun fl s' hs => ?_) fun e s' hs => hs
  have hx := end_cr (P := P) (w := w) (outer := outer) (H := H) (s := s) (E := E) rfl rfl rfl rfl rfl rfl hs
  cases fl with
  | ret u => exact hx
  | next => exact hx
  | brk => obtain ⟨_, _, _, q⟩ := hs; exact q.elim
  | cont => obtain ⟨_, _, _, q⟩ := hs; exact q.elim
/-- a def that may be called: name, parameters, what it runs -/
def Def (P : Program) (w : PySem.World) (K : PySem.W.Frag) (mg : Str → Option Value) (base : Heap) (tabs : List Addr) (k : Nat) (x : Str) (ps : List Str) (g : List Vl → M Vl) : Prop :=
  ∃ f fd, mg x = some (.ref f) ∧ PySem.W.keepIn K (.ref f) = true ∧ Binds K fd ps [] ∧ FnG P w K mg base k f fd ps (spM ⟨K, mg, tabs⟩ g)
theorem passes_at {W : WX} (tk : Takes X W) (σ : St) : PassesAt (L2.CX X.prog X.w) X σ (WE W σ) := passAt tk σ
theorem run_def {pins : List (Addr × Obj)} {s : Shared} {Q : VK} {us : List Value} {vs : List V} {f0 : Addr} {fd : FuncData} {ps : List Str} {sp : Sp} {j : Nat} {σ : St} {H : Hp} (at_ : At X G W k) (F : FnG X.prog X.w X.K X.mg X.base j f0 fd ps sp) (hj : j ≤ k) (hb : Binds X.K fd ps [])
    (I : Inv X pins σ H s) (r : Vals vs us) (h : sp vs H Q (WE W σ)) : wpAny (model X.prog X.w) X.A (call (.ref f0) us) (EP X pins σ Q) X.xe s := by
  have hl : us.length = ps.length := r.length.symm.trans (F.len _ _ _ _ h)
  have hbt := hb s us I.kIn (by rw [List.append_nil]; exact hl)
  rw [List.append_nil] at hbt
  refine wpAny_call (codeAny_mono (F.run X.A X.stack s H ⟨us, []⟩ us vs Q (WE W σ) (at_.room.mono hj) at_.gd I.env0 hbt r h) fun res s' hq => ?_)
  match res, hq with
  | .error e, hq => exact passes_at at_.tk σ pins H s e s' I hq
  | .ok (.ret u), hq => exact I.after hq
theorem xe_call {x : Str} {ps : List Str} {g : List Vl → M Vl} {p : Pos} {es : List Expr} {j : Nat} (at_ : At X G W k) (D : Def X.prog X.w X.K X.mg X.base G.tabs j x ps g) (hj : j ≤ k)
    (ha : PA X (e :: es) (TAs G W fs)) (hg : Gl X x := by rfl) (hdb : (x == ("__debug__" : Str)) = false := by decide)
    (he : starEach (e :: es) X.env = (false, eval e X.env) :: starEach es X.env := by rfl) (hpl : (backTo pos (starEach es X.env)).any (·.1) = false := by rfl) : PE X (.Call (.Name x p) (e :: es) [] pos) (T G W (eCall g fs)) := by
  obtain ⟨f0, fd, hm, hk, hb, F⟩ := D
  have hG : (⟨X.K, X.mg, G.tabs⟩ : GG) = G := by
    obtain ⟨K, mg, tabs⟩ := G
    have e1 : K = X.K := at_.K
    have e2 : mg = X.mg := at_.mg
    rw [e1, e2]
  rw [hG] at F
  refine ⟨fun pins s σ H Q I h => wpAny_Call_Name_kw (ld_glob I hg hm ?_ hdb)⟩
  obtain ⟨μ, ρ, S, rs, rr, run⟩ := h
  have hargs : TAs G W fs σ H (fun vs H1 => spM G g vs H1 Q (WE W σ)) := TA_bnd rs rr run fun vs H1 μ1 xs S1 g1 rx rs1 rr1 run1 => ⟨μ1, xs, S1, rs1, rx, run1⟩
  refine PySem.W.callWith_K (h₀ := X.base) I.ok.mod.kin hk (thn (ha.run pos pins s σ H _ I hargs) fun us s1 hv => ?_) he hpl
  obtain ⟨vs, H1, I1, r, q⟩ := hv
  exact ⟨I1.kIn, run_def at_ F hj hb I1 r q⟩
theorem xs_raise {x m : Str} {C : Addr} {B newId initId : String} {bmB : List Value} {j : Nat} {p p2 pos2 : Pos} (at_ : At X G W k) (F : ExcBaseFacts B newId initId bmB) (q : PySem.W.excIn X.K C bmB newId = true) (gC : X.mg x = some (.ref C)) (kC : PySem.W.keepIn X.K (.ref C) = true)
    (r : Raises X (.ref C)) (hg : Gl X x := by rfl) (hdb : (x == ("__debug__" : Str)) = false := by decide) : PS X (.Raise (some (.Call (.Name x p) [.Constant (.str m) j p2] [] pos)) none pos2) (TSt G W (sRaise x)) := by
  refine PS.imp (ps_raise at_.calm at_.tk (pmk_own F q gC kC r hg hdb)) ?_
  rintro D σ H ⟨μ, ρ, S, rs, rr, r, e, h⟩
  cases e
  obtain ⟨C', h1, h2⟩ := h μ H σ .refl rs rr
  rw [at_.mg, gC] at h1
  cases h1
  exact h2
theorem RunS.noEr {μ H S D} {m : Store → Option SR} {W' : WX} (h : RunS G W (fun S => noEr (m S)) μ H S D) : RunS G W' m μ H S D := by
  obtain ⟨r, e, h⟩ := h
  cases q : m S with
  | none => simp only [q] at e; cases e
  | some r1 =>
    simp only [q] at e
    cases r1 with
    | ok fl S1 =>
      cases e
      exact ⟨_, q, by cases fl <;> exact h⟩
    | er c ρ S1 => cases e
/-- what a clause takes -/
def Clause (G : GG) (c : Value) (t : Str → Option Bool) : Prop := ∀ x b, t x = some b → ∃ C, G.mg x = some (.ref C) ∧ PySem.W.exmOne G.K (.ref C) c = some b
inductive XHs (X : Cx) (G : GG) : List ExceptHandler → List ((Str → Option Bool) × Sv) → Prop
  | nil : XHs X G [] []
  | cons {x : Str} {c : Value} {t : Str → Option Bool} {fh : Sv} {b0 : Stmt} {suite : List Stmt} {np pos' : Pos} {hds : List ExceptHandler} {cs : List ((Str → Option Bool) × Sv)} (hc : Names X x c) (ht : Clause G c t)
      (hsu : ∀ (a : Addr) (pn : List (Addr × Obj)), PSs (X.suite a pn) (b0 :: suite) (TSt G (fun _ _ _ _ => False) fh)) (r : XHs X G hds cs) : XHs X G (.ExceptHandler (some (.Name x np)) none (b0 :: suite) pos' :: hds) ((t, fh) :: cs)
theorem XHs.ok {hds : List ExceptHandler} {cs : List ((Str → Option Bool) × Sv)} (hK : G.K = X.K) (h : XHs X G hds cs) : ∃ l, HdsOk X hds l ∧
    ∀ (W : WX) (D : Ends) (c : Str) (μ : List Addr) (ρ : Rho) (S : Store) (σ : St) (H : Hp), RS G μ H S → RR G μ H ρ σ → RunS G W (hand cs c ρ) μ H S D → ∃ C, G.mg c = some (.ref C) ∧ wMany X.K W D l (.ref C) none σ H := by
  induction h with
  | nil =>
    refine ⟨[], .nil, fun W D c μ ρ S σ H rs rr run => ?_⟩
    obtain ⟨r, e, h⟩ := run
    cases e
    exact h μ H σ .refl rs rr
  | cons hc ht hsu r ih =>
    rename_i x c0 t fh b0 suite np pos' hds cs
    obtain ⟨l, h1, h2⟩ := ih
    refine ⟨(c0, fun _ _ _ => TSt G (fun _ _ _ _ => False) fh) :: l, .cons hc (fun a oe _ _ pn _ _ => hsu a ((a, oe) :: pn)) h1, fun W D c μ ρ S σ H rs rr run => ?_⟩
    cases tc : t c with
    | none => exact run.no (by simp only [hand, tc])
    | some bb =>
      obtain ⟨C, h3, h4⟩ := ht c bb tc
      rw [hK] at h4
      cases bb with
      | true => exact ⟨C, h3, true, h4, fun _ _ _ => ⟨μ, ρ, S, rs, rr, RunS.noEr (run.cong (by simp only [hand, tc]))⟩, fun z => Bool.noConfusion z⟩
      | false =>
        obtain ⟨C', h5, h6⟩ := h2 W D c μ ρ S σ H rs rr (run.cong (by simp only [hand, tc]))
        rw [h3] at h5
        cases h5
        exact ⟨C, h3, false, h4, fun z => Bool.noConfusion z, fun _ => h6⟩
theorem xs_try {body : List Stmt} {h0 : ExceptHandler} {hds : List ExceptHandler} {fb : Sv} {cs : List ((Str → Option Bool) × Sv)} (at_ : At X G W k) (hs : X.stack = X.env :: X.outer) (hf : X.env.frame = some X.env.locals)
    (hb : ∀ (W' : WX) (pn : List (Addr × Obj)) (xe : Value → Shared → Prop), At (X.tr pn xe) G W' k → PSs (X.tr pn xe) body (TSt G W' fb)) (hh : XHs X G (h0 :: hds) cs) :
    PS X (.Try body (h0 :: hds) [] [] pos) (TSt G W (sTry fb cs)) := by
  obtain ⟨l, h1, h2⟩ := hh.ok at_.K
  refine PS.imp (ps_try_many (Wout := W) (tb := fun W' => TSt G W' fb) hs hf at_.tk (fun W' pn xe tk ow => hb W' pn xe ⟨at_.K, at_.mg, at_.room, at_.calm, tk, ow, at_.nd, at_.gd⟩) h1) ?_
  rintro D σ H ⟨μ, ρ, S, rs, rr, r, e, h⟩
  refine ⟨μ, ρ, S, rs, rr, ?_⟩
  unfold sTry at e
  cases q : fb ρ S with
  | none => rw [q] at e; cases e
  | some r1 =>
    refine ⟨r1, q, ?_⟩
    rw [q] at e
    cases r1 with
    | ok fl S1 => cases e; cases fl <;> exact h
    | er c' ρ1 S1 => exact fun μ1 H1 σ1 g1 rs1 rr1 => h2 W D c' μ1 ρ1 S1 σ1 H1 rs1 rr1 (RunS.later ⟨r, e, h⟩ g1)
end
/-! ## 13. Loops -/
section
variable {G : GG} {W : WX} {X : Cx} {k : Nat} {e : Expr} {f f2 : Ev} {pos : Pos} {b : Sv} {tg : Expr} {g : Tg}
def iSeq (K : PySem.W.Frag) (tl : TE) : TI := fun σ H R => tl σ H fun x H1 => (∃ a, x = .ref a ∧ (∃ xs, SqL K H1 a xs) ∧ R (Itl K a) H1) ∨ ∃ a, x = .ref a ∧ (∃ xs, SqT K H1 a xs) ∧ R (Itt K a) H1
theorem pi_seq {l : Expr} {tl : TE} (hl : PE X l tl) : PI X tg l (iSeq X.K tl) := by
  refine ⟨fun pins s σ H R I h => thn (hl.run pins s σ H _ I h) fun v s1 hh => ?_⟩
  obtain ⟨x, H1, I1, r1, q1 | q1⟩ := hh
  · obtain ⟨a, rfl, ⟨xs, hq⟩, q⟩ := q1
    cases r1
    obtain ⟨its, rv, p, hz⟩ := I1.list hq
    refine PySem.wpAny_pyIter_list p.isList ⟨s1.heap.objs.size, [s1.heap.objs.size], _, _, H1, rfl, I1.kept (t' := s1.toks) (fun b o e => Heap.get?_push_of_some _ e), turn_list a _, ⟨_, Heap.get?_push_size _ rfl, rfl, rfl⟩, ?_, q⟩
    intro b hb
    obtain rfl : b = s1.heap.objs.size := by simpa using hb
    exact I1.fpOk (Nat.le_refl _) (I1.hok.fresh (Nat.le_refl _))
  · obtain ⟨a, rfl, ⟨xs, hq⟩, q⟩ := q1
    cases r1
    obtain ⟨its, rv, p, hz⟩ := I1.tuple hq
    refine PySem.wpAny_pyIter_tuple (show s1.heap.IsTuple a its.toArray from p) ⟨s1.heap.objs.size, [s1.heap.objs.size], _, _, H1, rfl, I1.kept (t' := s1.toks) (fun b o e => Heap.get?_push_of_some _ e), turn_tuple a _, ⟨_, Heap.get?_push_size _ rfl, rfl, rfl⟩, ?_, q⟩
    intro b hb
    obtain rfl : b = s1.heap.objs.size := by simpa using hb
    exact I1.fpOk (Nat.le_refl _) (I1.hok.fresh (Nat.le_refl _))
/-- one turn of a loop -/
theorem turn_ok {D : Ends} {μ ρ S H σ} {x : Vl} {v : V} {rest : Rho → Store → Option SR} {N : St → Hp → Prop} (rs : RS G μ H S) (rr : RR G μ H ρ σ) (rx : Rv G μ H x v)
    (run : RunS G W (fun S => match g x ρ with
      | none => none
      | some ρ0 => match b ρ0 S with
        | some (.ok (.nx ρ1) S1) => rest ρ1 S1
        | some (.ok (.ct ρ1) S1) => rest ρ1 S1
        | some (.ok (.bk ρ1) S1) => some (.ok (.nx ρ1) S1)
        | some (.ok (.rt v) S1) => some (.ok (.rt v) S1)
        | some (.er c ρ1 S1) => some (.er c ρ1 S1)
        | none => none) μ H S D)
    (hN : ∀ μ1 ρ1 S1 σ1 H1, Gr μ H μ1 H1 → RS G μ1 H1 S1 → RR G μ1 H1 ρ1 σ1 → RunS G W (rest ρ1) μ1 H1 S1 D → N σ1 H1) :
    TGm G g v σ H fun σ2 H2 => TSt G W b { D with nx := N, ct := N, bk := D.nx } σ2 H2 := by
  obtain ⟨r, e, h⟩ := run
  cases q : g x ρ with
  | none => simp only [q] at e; cases e
  | some ρ0 =>
    simp only [q] at e
    refine ⟨μ, ρ, S, x, ρ0, rs, rr, rx, q, fun σ2 rr2 => ⟨μ, ρ0, S, rs, rr2, ?_⟩⟩
    cases q2 : b ρ0 S with
    | none => simp only [q2] at e; cases e
    | some r1 =>
      refine ⟨r1, q2, ?_⟩
      simp only [q2] at e
      cases r1 with
      | er c ρ1 S1 => cases e; exact h
      | ok fl S1 =>
        cases fl with
        | nx ρ1 => exact fun μ1 H1 σ1 g1 rs1 rr1 => hN μ1 ρ1 S1 σ1 H1 g1 rs1 rr1 (RunS.later ⟨r, e, h⟩ g1)
        | ct ρ1 => exact fun μ1 H1 σ1 g1 rs1 rr1 => hN μ1 ρ1 S1 σ1 H1 g1 rs1 rr1 (RunS.later ⟨r, e, h⟩ g1)
        | bk ρ1 => cases e; exact h
        | rt v1 => cases e; exact h
/-- what is left of the loop from the i-th item on -/
def Left (G : GG) (W : WX) (g : Tg) (b : Sv) (xs : List Vl) (D : Ends) (μ0 : List Addr) (H0 : Hp) (i : Nat) (σ : St) (H : Hp) : Prop :=
  ∃ μ ρ S, Gr μ0 H0 μ H ∧ RS G μ H S ∧ RR G μ H ρ σ ∧ RunS G W (loop g b (xs.drop i) ρ) μ H S D
theorem Left.turn {D : Ends} {xs : List Vl} {vs : List V} {μ0 H0 i v σ H} (rv : Rvs G μ0 H0 xs vs) (hv : vs[i]? = some v) (h : Left G W g b xs D μ0 H0 i σ H) :
    TGm G g v σ H fun σ2 H2 => TSt G W b { D with nx := Left G W g b xs D μ0 H0 (i + 1), ct := Left G W g b xs D μ0 H0 (i + 1), bk := D.nx } σ2 H2 := by
  obtain ⟨μ, ρ, S, g0, rs, rr, run⟩ := h
  obtain ⟨x, hx, rx⟩ := (rv.up g0).get' hv
  have hlt : i < xs.length := (List.getElem?_eq_some_iff.mp hx).1
  have ed : xs.drop i = x :: xs.drop (i + 1) := by
    rw [List.drop_eq_getElem_cons hlt]
    rw [List.getElem?_eq_getElem hlt] at hx
    cases hx
    rfl
  rw [ed] at run
  exact turn_ok (rest := fun ρ1 S1 => loop g b (xs.drop (i + 1)) ρ1 S1) rs rr rx run fun μ1 ρ1 S1 σ1 H1 g1 rs1 rr1 run1 => ⟨μ1, ρ1, S1, g0.trans g1, rs1, rr1, run1⟩
theorem Left.end_ {D : Ends} {xs : List Vl} {μ0 H0 i σ H} (hi : xs.length ≤ i) (h : Left G W g b xs D μ0 H0 i σ H) : D.nx σ H := by
  obtain ⟨μ, ρ, S, g0, rs, rr, run⟩ := h
  rw [List.drop_of_length_le hi] at run
  obtain ⟨r, e, h⟩ := run
  cases e
  exact h μ H σ .refl rs rr
/-- .. of a list of the store -/
def LeftL (G : GG) (W : WX) (n : Nat) (g : Tg) (b : Sv) (xs : List Vl) (D : Ends) (μ0 : List Addr) (H0 : Hp) (i : Nat) (σ : St) (H : Hp) : Prop :=
  ∃ μ ρ S, Gr μ0 H0 μ H ∧ RS G μ H S ∧ RR G μ H ρ σ ∧ RunS G W (loopL n (.lst xs) g b (xs.drop i) ρ) μ H S D
theorem loopL_here {n o xs ρ S} (h : S[n]? ≠ some o) : loopL n o g b xs ρ S = none := by
  cases xs <;> (unfold loopL; rw [if_neg h])
theorem LeftL.here {D : Ends} {n : Nat} {xs : List Vl} {μ0 H0 i σ H} (h : LeftL G W n g b xs D μ0 H0 i σ H) : ∃ μ ρ S, Gr μ0 H0 μ H ∧ RS G μ H S ∧ RR G μ H ρ σ ∧ S[n]? = some (.lst xs) ∧ RunS G W (loopL n (.lst xs) g b (xs.drop i) ρ) μ H S D := by
  obtain ⟨μ, ρ, S, g0, rs, rr, run⟩ := h
  by_cases hS : S[n]? = some (.lst xs)
  · exact ⟨μ, ρ, S, g0, rs, rr, hS, run⟩
  · exact run.no (loopL_here hS)
theorem LeftL.turn {D : Ends} {n : Nat} {xs : List Vl} {μ0 H0 i v σ H a ws} (hn : μ0[n]? = some a) (h : LeftL G W n g b xs D μ0 H0 i σ H) (hl : H a = some (.lst ws)) (hv : ws[i]? = some v) :
    TGm G g v σ H fun σ2 H2 => TSt G W b { D with nx := LeftL G W n g b xs D μ0 H0 (i + 1), ct := LeftL G W n g b xs D μ0 H0 (i + 1), bk := D.nx } σ2 H2 := by
  obtain ⟨μ, ρ, S, g0, rs, rr, hS, run⟩ := h.here
  obtain ⟨a', e1, ws', h1, r1⟩ := rs.ob n _ hS
  rw [g0.pre _ _ hn] at e1
  cases e1
  rw [hl] at h1
  cases h1
  obtain ⟨x, hx, rx⟩ := r1.get' hv
  have hlt : i < xs.length := (List.getElem?_eq_some_iff.mp hx).1
  have ed : xs.drop i = x :: xs.drop (i + 1) := by
    rw [List.drop_eq_getElem_cons hlt]
    rw [List.getElem?_eq_getElem hlt] at hx
    cases hx
    rfl
  rw [ed] at run
  refine turn_ok (rest := fun ρ1 S1 => loopL n (.lst xs) g b (xs.drop (i + 1)) ρ1 S1) rs rr rx (run.cong ?_) fun μ1 ρ1 S1 σ1 H1 g1 rs1 rr1 run1 => ⟨μ1, ρ1, S1, g0.trans g1, rs1, rr1, run1⟩
  symm
  rw [loopL]
  refine (if_pos hS).trans ?_
  cases g x ρ with
  | none => rfl
  | some ρ0 =>
    dsimp only
    all_goals
      cases b ρ0 S with
      | none => rfl
      | some r =>
        cases r with
        | er c ρ1 S1 => rfl
        | ok fl S1 => cases fl <;> rfl
theorem LeftL.end_ {D : Ends} {n : Nat} {xs : List Vl} {μ0 H0 i σ H} (hi : xs.length ≤ i) (h : LeftL G W n g b xs D μ0 H0 i σ H) : D.nx σ H := by
  obtain ⟨μ, ρ, S, g0, rs, rr, hS, run⟩ := h.here
  rw [List.drop_of_length_le hi] at run
  obtain ⟨r, e, h⟩ := run
  unfold loopL at e
  rw [if_pos hS] at e
  cases e
  exact h μ H σ .refl rs rr
theorem LeftL.lst {D : Ends} {n : Nat} {xs : List Vl} {μ0 H0 i σ H a} (hn : μ0[n]? = some a) (h : LeftL G W n g b xs D μ0 H0 i σ H) : ∃ ws, H a = some (.lst ws) ∧ ws.length = xs.length := by
  obtain ⟨μ, ρ, S, g0, rs, rr, hS, run⟩ := h.here
  obtain ⟨a', e1, ws', h1, r1⟩ := rs.ob n _ hS
  rw [g0.pre _ _ hn] at e1
  cases e1
  exact ⟨ws', h1, r1.length.symm⟩
theorem xs_for {bs : List Stmt} {l : Expr} (at_ : At X G W k) (ha : PE X l (T G W f)) (hg : PG X tg (TGm G g)) (hb : PSs X bs (TSt G W b)) (hs : ∀ x, foldedSetIterable l X.env x = pure x := by intro _; rfl) :
    PS X (.For tg l bs [] pos) (TSt G W (sFor f g b)) := by
  refine PS.imp (ps_for at_.own at_.calm (pi_seq ha) hg hb hs) ?_
  rintro D σ H ⟨μ, ρ, S, rs, rr, run⟩
  refine Ts_bnd rs rr run fun v H1 μ1 x S1 g1 rx rs1 rr1 run1 => ?_
  rw [← at_.K]
  cases rx <;> first | exact run1.no rfl | skip
  · rename_i xs vs a ht rt
    refine .inr ⟨a, rfl, ⟨vs, ht⟩, for_tup (K := G.K) (a := a) (xs := vs) (fun i σ H => SqT G.K H a vs ∧ Left G W g b xs D μ1 H1 i σ H) ⟨ht, μ1, ρ, S1, .refl, rs1, rr1, run1⟩ (fun _ _ _ _ h => h.1) (fun i v σ2 H2 hv h => ?_) fun σ2 H2 h => h.2.end_ (by rw [rt.length]; exact Nat.le_refl _)⟩
    have up : ∀ {i σ H}, Left G W g b xs D μ1 H1 i σ H → SqT G.K H a vs ∧ Left G W g b xs D μ1 H1 i σ H := fun {i σ H} h => by
      obtain ⟨μ, ρ, S, g0, q⟩ := id h
      exact ⟨g0.sqt ht, h⟩
    obtain ⟨μ3, ρ3, S3, x3, ρ4, z1, z2, z3, z4, z5⟩ := Left.turn rt hv h.2
    refine ⟨μ3, ρ3, S3, x3, ρ4, z1, z2, z3, z4, fun σ' q => ?_⟩
    obtain ⟨μ5, ρ5, S5, y1, y2, r, y3, y4⟩ := z5 σ' q
    refine ⟨μ5, ρ5, S5, y1, y2, r, y3, ?_⟩
    cases r with
    | er c ρ S => exact y4
    | ok fl S =>
      cases fl with
      | nx ρ => exact fun μ' H' σ' u1 u2 u3 => up (y4 μ' H' σ' u1 u2 u3)
      | ct ρ => exact fun μ' H' σ' u1 u2 u3 => up (y4 μ' H' σ' u1 u2 u3)
      | bk ρ => exact y4
      | rt v => exact y4
  · rename_i n a hn
    cases e1 : S1[n]? with
    | none => exact run1.no (by simp only [e1])
    | some ob =>
      cases ob with
      | dct => exact run1.no (by simp only [e1])
      | lst xs =>
        have run2 : RunS G W (loopL n (.lst xs) g b xs ρ) μ1 H1 S1 D := run1.cong (by simp only [e1])
        have h0 : LeftL G W n g b xs D μ1 H1 0 σ H1 := ⟨μ1, ρ, S1, .refl, rs1, rr1, run2⟩
        obtain ⟨ws0, hw, _⟩ := h0.lst hn
        refine .inl ⟨a, rfl, ⟨ws0, .of hw⟩, fun i m σ H => m = xs.length - i ∧ i ≤ xs.length ∧ LeftL G W n g b xs D μ1 H1 i σ H, ⟨_, rfl, Nat.zero_le _, h0⟩, fun i m σ2 H2 hh => ?_⟩
        obtain ⟨rfl, hi, h⟩ := hh
        obtain ⟨ws, hw2, hlen⟩ := h.lst hn
        by_cases hlt : i < xs.length
        · refine .inr ⟨⟨ws, ws[i]'(by rw [hlen]; exact hlt), .of hw2, List.getElem?_eq_getElem _⟩, LeftL G W n g b xs D μ1 H1 (i + 1), fun σ' H' q => ⟨xs.length - (i + 1), by omega, rfl, hlt, q⟩, fun v H' hy => ?_⟩
          obtain ⟨rfl, hy⟩ := hy
          exact LeftL.turn hn h hw2 (hy ws (.of hw2))
        · exact .inl ⟨⟨ws, .of hw2, by omega⟩, h.end_ (by omega)⟩
  · rename_i xs vs a hf rt
    refine .inl ⟨a, rfl, ⟨vs, hf.sql⟩, for_list (K := G.K) (a := a) (xs := vs) (fun i σ H => SqL G.K H a vs ∧ Left G W g b xs D μ1 H1 i σ H) ⟨hf.sql, μ1, ρ, S1, .refl, rs1, rr1, run1⟩ (fun _ _ _ _ h => h.1) (fun i v σ2 H2 hv h => ?_) fun σ2 H2 h => h.2.end_ (by rw [rt.length]; exact Nat.le_refl _)⟩
    have up : ∀ {i σ H}, Left G W g b xs D μ1 H1 i σ H → SqL G.K H a vs ∧ Left G W g b xs D μ1 H1 i σ H := fun {i σ H} h => by
      obtain ⟨μ, ρ, S, g0, q⟩ := id h
      exact ⟨(hf.up g0).sql, h⟩
    obtain ⟨μ3, ρ3, S3, x3, ρ4, z1, z2, z3, z4, z5⟩ := Left.turn rt hv h.2
    refine ⟨μ3, ρ3, S3, x3, ρ4, z1, z2, z3, z4, fun σ' q => ?_⟩
    obtain ⟨μ5, ρ5, S5, y1, y2, r, y3, y4⟩ := z5 σ' q
    refine ⟨μ5, ρ5, S5, y1, y2, r, y3, ?_⟩
    cases r with
    | er c ρ S => exact y4
    | ok fl S =>
      cases fl with
      | nx ρ => exact fun μ' H' σ' u1 u2 u3 => up (y4 μ' H' σ' u1 u2 u3)
      | ct ρ => exact fun μ' H' σ' u1 u2 u3 => up (y4 μ' H' σ' u1 u2 u3)
      | bk ρ => exact y4
      | rt v => exact y4
theorem xs_for_range1 {bs : List Stmt} {a : Expr} {p pos1 : Pos} (at_ : At X G W k) (hm : X.mg "range" = none) (ha : PE X a (T G W f)) (hg : PG X tg (TGm G g)) (hb : PSs X bs (TSt G W b)) (hgl : Gl X "range" := by rfl)
    (he : starEach [a] X.env = (false, eval a X.env) :: starEach [] X.env := by rfl) (hs1 : starEach [a] X.env = [(false, eval a X.env)] := by rfl)
    (hs : ∀ x, foldedSetIterable (.Call (.Name "range" p) [a] [] pos1) X.env x = pure x := by intro _; rfl) : PS X (.For tg (.Call (.Name "range" p) [a] [] pos1) bs [] pos) (TSt G W (sForR1 f g b)) := by
  refine PS.imp (ps_for at_.own at_.calm (pi_range1 hgl hm (pa_cons ha pa_nil he) hs1) hg hb hs) ?_
  rintro D σ H ⟨μ, ρ, S, rs, rr, run⟩
  refine Ts_bnd rs rr run fun v H1 μ1 x S1 g1 rx rs1 rr1 run1 => ?_
  cases rx <;> first | exact run1.no rfl | skip
  rename_i j
  by_cases hz : -(2 ^ 62) ≤ j ∧ j < 2 ^ 62
  · replace run1 : RunS G W (loop g b (irange 0 j.toNat) ρ) μ1 H1 S1 D := by simpa only [if_pos hz] using run1
    have hlen : (irange 0 j.toNat).length = j.toNat := by simp [irange]
    refine ⟨j, rfl, hz.1, hz.2, for_range (lo := 0) (n := j.toNat) (Left G W g b (irange 0 j.toNat) D μ1 H1) ⟨μ1, ρ, S1, .refl, rs1, rr1, run1⟩ (fun i σ2 H2 hi h => ?_) fun σ2 H2 h => h.end_ (by rw [hlen]; exact Nat.le_refl _)⟩
    have rv : Rvs G μ1 H1 (irange 0 j.toNat) ((List.range j.toNat).map fun k => V.int (0 + (k : Nat))) := by
      unfold irange
      generalize List.range j.toNat = l
      induction l with
      | nil => exact .nil
      | cons y ys ih => exact .cons (.int _) ih
    exact Left.turn rv (by rw [List.getElem?_map, List.getElem?_range hi]; rfl) h
  · exact run1.no (by simp only [if_neg hz])
end
end Tw
end
section
set_option Elab.async false
set_option maxRecDepth 100000
set_option maxHeartbeats 3000000
set_option autoImplicit true
set_option linter.all false
set_option relaxedAutoImplicit true
namespace Tw
open PySem L2
/-! ## 14. any, all: what they do with a generator -/
section
variable {prog : Program} {w : PySem.World} {A : Around} {E : Value → Shared → Prop} {s : Shared} {a : Addr} {St : Nat → Shared → Prop} {n : Nat} {Q : Value → Shared → Prop}
theorem all_loop (turn : ∀ i s, i ≤ n → St i s → wpAny (model prog w) A.in1 (pyNext (.ref a)) (fun r s' => match r with
      | none => Q (.bool true) s'
      | some v => ∃ b, v = .bool b ∧ (b = true → i < n ∧ St (i + 1) s') ∧ (b = false → Q (.bool false) s')) E s) : ∀ (k i : Nat) (s : Shared), n - i = k → i ≤ n → St i s →
    codeAny (model prog w) A (.builtin "all.loop" ⟨[.ref a], []⟩) (fun r s' => match r with | .ok (.ret v) => Q v s' | .ok _ => False | .error e => E e s') s := by
  intro k
  induction k with
  | zero =>
    intro i s hk hi hst
    refine codeAny_builtin F.entry_all_loop ?_
    rw [Around.under_plainId F.plain_all_loop _]
    show wpAny _ A.in1 (pyNext (.ref a) >>= _) _ _ s
    refine wpAny_bind (wpAny_mono (turn i s hi hst) (fun r s' h => ?_) fun _ _ e => e)
    cases r with
    | none => exact wpAny_bind (wpAny_rule (wpAny_pure h))
    | some v =>
      obtain ⟨b, rfl, h1, h2⟩ := h
      refine wpAny_bind (wpAny_holding (wpAny_truthy_bool (wpAny_bind (wpAny_letGo ?_))))
      cases b with
      | true => exact absurd (h1 rfl).1 (by omega)
      | false =>
        simp only [Bool.false_eq_true, if_false]
        exact wpAny_bind (wpAny_rule (wpAny_pure (h2 rfl)))
  | succ k ih =>
    intro i s hk hi hst
    refine codeAny_builtin F.entry_all_loop ?_
    rw [Around.under_plainId F.plain_all_loop _]
    show wpAny _ A.in1 (pyNext (.ref a) >>= _) _ _ s
    refine wpAny_bind (wpAny_mono (turn i s hi hst) (fun r s' h => ?_) fun _ _ e => e)
    cases r with
    | none => exact wpAny_bind (wpAny_rule (wpAny_pure h))
    | some v =>
      obtain ⟨b, rfl, h1, h2⟩ := h
      refine wpAny_bind (wpAny_holding (wpAny_truthy_bool (wpAny_bind (wpAny_letGo ?_))))
      cases b with
      | true =>
        simp only [if_true]
        exact wpAny_pure ⟨plainId_quiet F.plain_all_loop _, ih (i + 1) s' (by omega) (h1 rfl).1 (h1 rfl).2⟩
      | false =>
        simp only [Bool.false_eq_true, if_false]
        exact wpAny_bind (wpAny_rule (wpAny_pure (h2 rfl)))
theorem call_all_gen {g : Nat} (hg : s.heap.IsGen a g) (turn : ∀ i s, i ≤ n → St i s → wpAny (model prog w) A.in1 (pyNext (.ref a)) (fun r s' => match r with
      | none => Q (.bool true) s'
      | some v => ∃ b, v = .bool b ∧ (b = true → i < n ∧ St (i + 1) s') ∧ (b = false → Q (.bool false) s')) E s) (h0 : St 0 s) : wpAny (model prog w) A (call (.builtin "all") [.ref a]) Q E s := by
  refine call_function_tree F.kind_all F.plain_all F.entry_all (F.args_all1 _) ?_
  unfold Builtin.«all»
  refine wpAny_bind (m := oneArg "all" _) (wpAny_pure ?_)
  refine wpAny_bind (wpAny_pyIter_gen hg ?_)
  exact wpAny_pure ⟨plainId_quiet F.plain_all_loop _, all_loop turn n 0 s (Nat.sub_zero _) (Nat.zero_le _) h0⟩
end
/-! ## 15. The generator's frame -/
/-- the names of a generator expression's frame: those of the def, x behind them -/
def hideN (N : List Str) (x : Str) : List Str := (N.map fun y => if y = x ∨ y = (".0" : Str) then ("" : Str) else y) ++ [x]
structure GSc (N : List Str) (sc scope : Scope) (x : Str) : Prop where
  kind : scope.kind = .function
  co : scope.isCoroutine = false
  uniq : ∀ y ∈ scope.names, scope.names.lookup y.1 = some y.2
  nocell : ∀ y ∈ scope.names, y.2 ≠ .cell
  dot : scope.names.lookup (".0" : Str) = some NameKind.local
  loc : scope.names.lookup x = some .local
  own : ∀ y ∈ scope.names, y.2 = .local → y.1 = ".0" ∨ y.1 = x
  free : ∀ y ∈ scope.names, y.2 = .free → sc.names.lookup y.1 = some .cell ∨ sc.names.lookup y.1 = some .free
  non : scope.names.lookup ("" : Str) = none
def gcx (X : Cx) (s : Shared) (H : Hp) (cenv : Env) (A' : Around) (N' : List Str) (pn : List (Addr × Obj)) (fp : List Addr) : Cx :=
  { X with A := A', N := N', s_0 := s, H_0 := H, env := cenv, outer := X.stack, stack := cenv :: X.stack, ex := fp, fn := fun _ => false, calm := true, pn := pn, xe := fun _ _ => False }
section
variable {X : Cx} {pins : List (Addr × Obj)} {σ : St} {H : Hp} {s s5 : Shared} {scope : Scope} {x : Str} {C bi : Addr} {code : Value} {A' : Around} {pn : List (Addr × Obj)} {fp : List Addr}
theorem gen_start {m : Str → Option Value} (I : Inv X pins σ H s) (g : GSc X.N X.env.scope scope x) (hbi : bi = builtinsNs) (hC : s.heap.objs.size ≤ C) (hA : A'.handled = none)
    (hfr : A'.frames = some (genEnv scope (cloFrom X.env.cells scope.names []) C code bi X.env :: X.stack)) (hfp : ∀ b ∈ fp, FpOk X pins H b ∧ b < s.heap.objs.size)
    (os : s5.os = s.os) (bare : PyProof.Rows.AllBare s5.gens) (kp : ∀ b o, s.heap.get? b = some o → s5.heap.get? b = some o) (hn : s5.heap.Ns C m)
    (hpn : ∀ p ∈ pn, s5.heap.get? p.1 = some p.2 ∧ s.heap.objs.size ≤ p.1 ∧ p.1 ≠ C ∧ ∀ v, p.2.data ≠ .cell v) :
    Inv (gcx X s H (genEnv scope (cloFrom X.env.cells scope.names []) C code bi X.env) A' (hideN X.N x) pn fp) [] (σ ++ [none]) H s5 := by
  have hfree : ∀ y ∈ scope.names, y.2 = .free → ∃ c, X.env.cells.lookup y.1 = some c := fun y hy e => by
    rcases g.free y hy e with k | k
    · exact I.ok.has _ (.inl k)
    · exact I.ok.has _ (.inr k)
  have cm : ∀ {y c}, (y, c) ∈ cloFrom X.env.cells scope.names [] → X.env.cells.lookup y = some c ∧ (y, NameKind.free) ∈ scope.names ∧ ∃ v, s.heap.IsCell c v := fun {y c} hm => by
    rcases cloFrom_mem hm with hm | ⟨h1, rfl⟩
    · cases hm
    · obtain ⟨c, hc⟩ := hfree _ h1 rfl
      rw [hc]
      exact ⟨rfl, h1, I.cell _ _ hc⟩
  have cl : ∀ {y c}, (cloFrom X.env.cells scope.names []).lookup y = some c → X.env.cells.lookup y = some c ∧ (y, NameKind.free) ∈ scope.names ∧ ∃ v, s.heap.IsCell c v := fun e => cm (PySem.mem_of_lookup e)
  have fresh : ∀ b, s.heap.objs.size ≤ b → H b = none := fun b hb => I.hok.fresh hb
  have cne : ∀ {y c}, (cloFrom X.env.cells scope.names []).lookup y = some c → c < s.heap.objs.size := fun e => let ⟨_, _, v, z⟩ := cl e; z.lt
  have kindOf : ∀ y, (genEnv scope (cloFrom X.env.cells scope.names []) C code bi X.env).kindOf y = scope.names.lookup y := fun _ => rfl
  have look : ∀ {y}, scope.names.lookup y = some .free → ∃ c, (cloFrom X.env.cells scope.names []).lookup y = some c ∧ X.env.cells.lookup y = some c := fun {y} hl => by
    have hy : (y, NameKind.free) ∈ scope.names := PySem.mem_of_lookup hl
    obtain ⟨c', e'⟩ := mem_lookup (cloFrom_has (cells := X.env.cells) (acc := []) hy)
    exact ⟨c', e', (cl e').1⟩
  refine ⟨?ok, os, bare, Un.kept kp, ⟨m, hn, ?loc⟩, fun y c e => ?cell, fresh C hC, fun y c e => ?freeC, fun p hp => ?pin, I.hok.kept kp, ?len⟩
  case ok =>
    refine ⟨I.ok.mod, g.kind, I.ok.glob, hbi, hC, fun y z c e1 e2 => I.ok.inj y z c (cl e1).1 (cl e2).1, fun y hy => ?_, fun y c z => absurd (show false = true from z) Bool.false_ne_true, fun _ => hA, hfr, .inr ⟨rfl, rfl⟩,
      fun b hb => ⟨Nat.ne_of_lt (Nat.lt_of_lt_of_le (hfp b hb).2 hC), fun y c e => (hfp b hb).1.2.2.2.2.1 y c (cl e).1⟩, I.bs, Nat.le_trans I.ok.bsz I.sz, fun b o e hb => ?_, fun b hb z => ?_, I.stack, I.stkFree⟩
    · have hy : scope.names.lookup y = some .cell ∨ scope.names.lookup y = some .free := hy
      rcases hy with hy | hy
      · exact absurd rfl (g.nocell _ (PySem.mem_of_lookup hy))
      · obtain ⟨c, h1, _⟩ := look hy
        exact ⟨c, h1⟩
    · rcases (hfp b hb).1.2.2.2.1 with z | z
      · exact I.ok.noex b o e z
      · have h1 := Heap.lt_size (I.ok.bs b o e).1
        exact absurd (Nat.lt_of_lt_of_le h1 z) (Nat.lt_irrefl _)
    · have hk := (hfp b hb).1
      rcases List.mem_cons.mp (I.stkSub b z) with q | q
      · exact hk.2.1 q
      · exact hk.2.2.1 q
  case loc =>
    intro i y v e1 e2 e3
    have hlen : i < X.N.length := by
      by_cases h : i < X.N.length
      · exact h
      · have hl := I.len
        have : (σ ++ [none])[i]? ≠ some (some v) := by
          rw [List.getElem?_append_right (by omega)]
          intro q
          have : i - σ.length = 0 := by
            have := (List.getElem?_eq_some_iff.mp q).1
            simp at this; omega
          rw [this] at q
          simp at q
        exact absurd e2 this
    have e1' : (hideN X.N x)[i]? = some y := e1
    unfold hideN at e1'
    rw [List.getElem?_append_left (by simpa using hlen), List.getElem?_map, List.getElem?_eq_getElem hlen] at e1'
    have e2' : σ[i]? = some (some v) := by
      rw [List.getElem?_append_left (by rw [I.len]; exact hlen)] at e2
      exact e2
    have hy : scope.names.lookup y = some .free ∧ X.N[i]? = some y := by
      have e3' : scope.names.lookup y = some .local ∨ scope.names.lookup y = some .cell ∨ scope.names.lookup y = some .free := e3
      have e4 : (if X.N[i] = x ∨ X.N[i] = ".0" then ("" : Str) else X.N[i]) = y := Option.some.inj e1'
      by_cases hx : X.N[i] = x ∨ X.N[i] = ".0"
      · rw [if_pos hx] at e4
        rw [← e4, g.non] at e3'
        rcases e3' with h | h | h <;> cases h
      · rw [if_neg hx] at e4
        rcases e3' with h | h | h
        · rw [← e4] at h
          exact absurd ((g.own _ (PySem.mem_of_lookup h) rfl).symm) hx
        · exact absurd rfl (g.nocell _ (PySem.mem_of_lookup h))
        · exact ⟨h, by rw [List.getElem?_eq_getElem hlen, e4]⟩
    obtain ⟨hf, hN⟩ := hy
    have hsc : X.env.kindOf y = some .cell ∨ X.env.kindOf y = some .free := g.free _ (PySem.mem_of_lookup hf) rfl
    obtain ⟨m0, _, hl0⟩ := I.loc
    obtain ⟨u, ru, lu⟩ := hl0 i y v hN e2' (by rcases hsc with q | q; exact .inr (.inl q); exact .inr (.inr q))
    refine ⟨u, ru, .inr ⟨.inr hf, ?_⟩⟩
    rcases lu with ⟨q, _⟩ | ⟨_, c, q1, q2⟩
    · rcases hsc with z | z <;> (rw [q] at z; cases z)
    · obtain ⟨c', h1, h2⟩ := look hf
      rw [q1] at h2
      cases h2
      obtain ⟨o, ho, hd⟩ := q2
      exact ⟨c, h1, o, kp _ _ ho, hd⟩
  case cell =>
    obtain ⟨_, _, v, o, ho, hd⟩ := cl e
    exact ⟨v, o, kp _ _ ho, hd⟩
  case freeC => exact I.freeC y c (cl e).1
  case pin =>
    have hp' : p ∈ pn := by
      rcases List.mem_append.mp hp with z | z
      · exact z
      · cases z
    obtain ⟨h1, h2, h3, h4⟩ := hpn p hp'
    exact ⟨h1, fresh _ h2, h3, fun hm => by
      rcases List.mem_cons.mp (I.stkSub p.1 hm) with q | q
      · exact absurd (Nat.lt_of_lt_of_le I.lt (by rw [← q]; exact h2)) (Nat.lt_irrefl _)
      · exact I.nofs h2 q, h4⟩
  case len =>
    show (σ ++ [none]).length = (hideN X.N x).length
    simp [hideN, I.len]
end
end Tw
end
section
set_option Elab.async false
set_option maxRecDepth 100000
set_option maxHeartbeats 3000000
set_option autoImplicit true
set_option linter.all false
set_option relaxedAutoImplicit true
namespace Tw
open PySem L2
/-! ## 16. any, all of a generator expression: the run -/
def okS (o : Option (Nat × Ob)) (S : Store) : Prop := match o with
  | none => True
  | some (n, ob) => S[n]? = some ob
/-- no error comes out -/
def nr {α : Type} (m : M α) : M α := fun S => match m S with
  | some (.ok a S1) => some (.ok a S1)
  | _ => none
open Classical in
noncomputable def quant (stop : Bool) (o : Option (Nat × Ob)) (fe : Ev) (ρ : Rho) : List Vl → M Vl
  | [] => fun S => if okS o S then some (.ok (.bl (!stop)) S) else none
  | x :: xs => fun S => if okS o S then bnd (nr (fe (ρ ++ [some x]))) (fun y => bnd (asB y) fun c => if c = stop then ret (.bl stop) else quant stop o fe ρ xs) S else none
noncomputable def eQuant (stop : Bool) (fi fe : Ev) : Ev := fun ρ => bnd (fi ρ) fun x => match x with
  | .tup xs => quant stop none fe ρ xs
  | .frz xs => quant stop none fe ρ xs
  | .loc n => fun S => match S[n]? with
    | some (.lst xs) => quant stop (some (n, .lst xs)) fe ρ xs S
    | _ => none
  | _ => stuck
abbrev W0 : WX := fun _ _ _ _ => False
theorem Run.nr {α β : Type} {G : GG} {Rel : List Addr → Hp → α → β → Prop} {m : M α} {μ : List Addr} {H : Hp} {S : Store} {Q : β → Hp → Prop} {EQ EQ' : Str → List Addr → Hp → Store → Prop} (h : Run G Rel (nr m) μ H S Q EQ) : Run G Rel m μ H S Q EQ' := by
  obtain ⟨r, e, h⟩ := h
  unfold Tw.nr at e
  cases q : m S with
  | none => rw [q] at e; cases e
  | some r1 =>
    rw [q] at e
    cases r1 with
    | ok a S1 => cases e; exact ⟨_, q, h⟩
    | er c S1 => cases e
/-- what is walked has the items xs -/
structure Wlk (G : GG) (J : It) (μ0 : List Addr) (H0 : Hp) (o : Option (Nat × Ob)) (xs : List Vl) : Prop where
  go : ∀ i μ H S, Gr μ0 H0 μ H → RS G μ H S → okS o S → i < xs.length → J.go i H ∧ ∀ v H', J.yld i H v H' → H' = H ∧ ∃ x, xs[i]? = some x ∧ Rv G μ H x v
  stop : ∀ i μ H S, Gr μ0 H0 μ H → RS G μ H S → okS o S → xs.length ≤ i → J.stop i H
section
variable {G : GG} {μ0 : List Addr} {H0 : Hp} {xs : List Vl} {vs : List V} {a : Addr}
theorem wlk_tup (h : SqT G.K H0 a vs) (r : Rvs G μ0 H0 xs vs) : Wlk G (Itt G.K a) μ0 H0 none xs := by
  refine ⟨fun i μ H S g rs _ hi => ⟨⟨vs, vs[i]'(by rw [← r.length]; exact hi), g.sqt h, List.getElem?_eq_getElem _⟩, fun v H' hy => ?_⟩, fun i μ H S g rs _ hi => ⟨vs, g.sqt h, by rw [← r.length]; exact hi⟩⟩
  obtain ⟨rfl, hy⟩ := hy
  exact ⟨rfl, (r.up g).get' (hy vs (g.sqt h))⟩
theorem wlk_frz (h : SqC G.K H0 a vs) (r : Rvs G μ0 H0 xs vs) : Wlk G (Itl G.K a) μ0 H0 none xs := by
  have sq : ∀ {μ H}, Gr μ0 H0 μ H → SqL G.K H a vs := fun g => (h.up g).sql
  refine ⟨fun i μ H S g rs _ hi => ⟨⟨vs, vs[i]'(by rw [← r.length]; exact hi), sq g, List.getElem?_eq_getElem _⟩, fun v H' hy => ?_⟩, fun i μ H S g rs _ hi => ⟨vs, sq g, by rw [← r.length]; exact hi⟩⟩
  obtain ⟨rfl, hy⟩ := hy
  exact ⟨rfl, (r.up g).get' (hy vs (sq g))⟩
theorem wlk_loc {n : Nat} (h : μ0[n]? = some a) : Wlk G (Itl G.K a) μ0 H0 (some (n, .lst xs)) xs := by
  have sq : ∀ {μ H S}, Gr μ0 H0 μ H → RS G μ H S → okS (some (n, .lst xs)) S → ∃ ws, H a = some (.lst ws) ∧ Rvs G μ H xs ws := fun {μ H S} g rs ok => by
    obtain ⟨b, e1, ws, h1, r1⟩ := rs.ob n _ ok
    rw [g.pre _ _ h] at e1
    cases e1
    exact ⟨ws, h1, r1⟩
  refine ⟨fun i μ H S g rs ok hi => ?_, fun i μ H S g rs ok hi => ?_⟩
  · obtain ⟨ws, h1, r1⟩ := sq g rs ok
    refine ⟨⟨ws, ws[i]'(by rw [← r1.length]; exact hi), .of h1, List.getElem?_eq_getElem _⟩, fun v H' hy => ?_⟩
    obtain ⟨rfl, hy⟩ := hy
    exact ⟨rfl, r1.get' (hy ws (.of h1))⟩
  · obtain ⟨ws, h1, r1⟩ := sq g rs ok
    exact ⟨ws, .of h1, by rw [← r1.length]; exact hi⟩
end
/-- what is left of the run behind i items -/
def GL (G : GG) (stop : Bool) (o : Option (Nat × Ob)) (fe : Ev) (ρ : Rho) (xs : List Vl) (σ : St) (μ0 : List Addr) (H0 : Hp) (Q : VK) (EQ : Str → List Addr → Hp → Store → Prop) (i : Nat) (H : Hp) : Prop :=
  ∃ μ S, Gr μ0 H0 μ H ∧ RS G μ H S ∧ RR G μ H ρ σ ∧ Run G (Rv G) (quant stop o fe ρ (xs.drop i)) μ H S Q EQ
theorem quant_here {stop o fe ρ xs S} (h : ¬ okS o S) : quant stop o fe ρ xs S = none := by
  cases xs <;> (unfold quant; rw [if_neg h])
/-- asleep, i items being out -/
def GJ (X' : Cx) (fp : List Addr) (tn : Nat → Heap → Prop) (σ : St) (L : Nat → Hp → Prop) (i : Nat) (s : Shared) : Prop :=
  ∃ H w, Inv X' [] (σ ++ [w]) H s ∧ tn i s.heap ∧ (∀ b ∈ fp, FpOk X' [] H b) ∧ L i H
def GF (X' : Cx) (σ : St) (Q : VK) (v : V) (s : Shared) : Prop := ∃ H w, Inv X' [] (σ ++ [w]) H s ∧ Q v H
/-- nothing but the table of generators may have changed -/
def Slp (s s' : Shared) : Prop := s'.heap = s.heap ∧ s'.os = s.os ∧ PyProof.Rows.AllBare s'.gens
theorem Inv.slp {X : Cx} {pins : List (Addr × Obj)} {σ : St} {H : Hp} {s s' : Shared} (I : Inv X pins σ H s) (h : Slp s s') : Inv X pins σ H s' := by
  obtain ⟨h1, h2, h3⟩ := h
  refine I.call' (ch := []) h2 (Un.kept fun b o e => by rw [h1]; exact e) (I.hok.kept fun b o e => by rw [h1]; exact e) h3 fun b z => ?_
  cases z
def YG (X' : Cx) (fp : List Addr) (tn : Nat → Heap → Prop) (σ : St) (L : Nat → Hp → Prop) (Q : VK) (stop : Bool) (n0 : Nat) : Protocol := fun n _ v s kap =>
  ∃ b i, v = .bool b ∧ n + (i + 1) = n0 ∧ (b = stop → GF X' σ Q (.bl stop) s) ∧ (b ≠ stop → GJ X' fp tn σ L (i + 1) s) ∧ PyProof.Rows.AllBare s.gens ∧ (b ≠ stop → ∀ s', Slp s s' → kap (.send .none) s')
def RG (X' : Cx) (σ : St) (Q : VK) (stop : Bool) : Nat → Shared → Shared → Prop := fun _ _ s => GF X' σ Q (.bl (!stop)) s
section
variable {X : Cx} {G : GG} {sc : Shared} {Hc : Hp} {scope : Scope} {x : Str} {C : Addr} {code : Value} {Ao : Around} {pn : List (Addr × Obj)} {fp : List Addr} {J : It} {it : Addr} {tn : Nat → Heap → Prop}
  {stop : Bool} {o : Option (Nat × Ob)} {fe : Ev} {ρ : Rho} {xs : List Vl} {σ : St} {μ0 : List Addr} {H0 : Hp} {Q : VK} {EQ : Str → List Addr → Hp → Store → Prop} {elt iter : Expr} {px gpos : Pos} {cl : List (Str × Addr)} {bi : Addr}
theorem gen_seg (g : GSc X.N X.env.scope scope x) (Tn : Turn X.prog X.w X.K (.Name x px) J fp it tn) (wk : Wlk G J μ0 H0 o xs) (hN : (hideN X.N x).Nodup ∨ True)
    (hel : PE (gcx X sc Hc (genEnv scope cl C code bi X.env) (Ao.deeper (genEnv scope cl C code bi X.env)) (hideN X.N x) pn fp) elt (T G W0 fe))
    (hst : PG (gcx X sc Hc (genEnv scope cl C code bi X.env) (Ao.deeper (genEnv scope cl C code bi X.env)) (hideN X.N x) pn fp) (.Name x px) (gName X.N.length)) (hσ : σ.length = X.N.length) :
    ∀ (k i : Nat) (s0 s : Shared), xs.length - i = k → i ≤ xs.length →
      GJ (gcx X sc Hc (genEnv scope cl C code bi X.env) (Ao.deeper (genEnv scope cl C code bi X.env)) (hideN X.N x) pn fp) fp tn σ (GL G stop o fe ρ xs σ μ0 H0 Q EQ) i s →
      Seg (model X.prog X.w) Ao (fun n s0 r s1 => r = .ok .next ∧ RG (gcx X sc Hc (genEnv scope cl C code bi X.env) (Ao.deeper (genEnv scope cl C code bi X.env)) (hideN X.N x) pn fp) σ Q stop n s0 s1)
        (YG (gcx X sc Hc (genEnv scope cl C code bi X.env) (Ao.deeper (genEnv scope cl C code bi X.env)) (hideN X.N x) pn fp) fp tn σ (GL G stop o fe ρ xs σ μ0 H0 Q EQ) Q stop xs.length) k s0
        (.compLoop (.GeneratorExp elt [⟨.Name x px, iter, [], 0⟩] scope gpos) 0 (.ref it) .none (genEnv scope cl C code bi X.env))
        ((model X.prog X.w).den (.compLoop (.GeneratorExp elt [⟨.Name x px, iter, [], 0⟩] scope gpos) 0 (.ref it) .none (genEnv scope cl C code bi X.env))) [] s := by
  generalize hX' : gcx X sc Hc (genEnv scope cl C code bi X.env) (Ao.deeper (genEnv scope cl C code bi X.env)) (hideN X.N x) pn fp = X' at hel hst ⊢
  have e1 : X'.prog = X.prog := by rw [← hX']; rfl
  have e2 : X'.w = X.w := by rw [← hX']; rfl
  have e3 : X'.K = X.K := by rw [← hX']; rfl
  have e4 : X'.calm = true := by rw [← hX']; rfl
  have e5 : X'.A = Ao.deeper (genEnv scope cl C code bi X.env) := by rw [← hX']; rfl
  have e6 : X'.env = genEnv scope cl C code bi X.env := by rw [← hX']; rfl
  have e7 : X'.xe = fun _ _ => False := by rw [← hX']; rfl
  have over : Ao.over (.compLoop (.GeneratorExp elt [⟨.Name x px, iter, [], 0⟩] scope gpos) 0 (.ref it) .none (genEnv scope cl C code bi X.env)) [] = X'.A := by rw [e5]; rfl
  have here : ∀ {i H}, GL G stop o fe ρ xs σ μ0 H0 Q EQ i H → ∃ μ S, Gr μ0 H0 μ H ∧ RS G μ H S ∧ RR G μ H ρ σ ∧ okS o S ∧ Run G (Rv G) (quant stop o fe ρ (xs.drop i)) μ H S Q EQ := fun {i H} h => by
    obtain ⟨μ, S, h1, h2, h3, run⟩ := h
    by_cases ok : okS o S
    · exact ⟨μ, S, h1, h2, h3, ok, run⟩
    · exact run.no (quant_here ok)
  intro k
  induction k with
  | zero =>
    intro i s0 s hk hi hj
    obtain ⟨H, w, I, st, fpo, gl⟩ := hj
    obtain ⟨μ, S, g0, rs, rr, ok, run⟩ := here gl
    have hil : xs.length ≤ i := by omega
    show Seg _ Ao _ _ _ s0 _ ((compTurn (.GeneratorExp elt [⟨.Name x px, iter, [], 0⟩] scope gpos) 0 (.ref it) .none (genEnv scope cl C code bi X.env)).onRaise (leaving (genEnv scope cl C code bi X.env))) [] s
    rw [compTurn_gen, Sem.onRaise_eq_wrap]
    refine seg_bind_wrap (wpAny_standAt ?_)
    refine seg_bind_wrap ?_
    rw [over]
    refine thn (Tn.done X' e1 e2 e3 e4 i [] s _ H _ I fpo st (wk.stop i μ H S g0 rs ok hil)) fun r s1 ⟨hr, I1⟩ => ?_
    subst hr
    refine seg_end (.ok .next) ⟨rfl, H, w, I1, ?_⟩
    rw [List.drop_of_length_le hil] at run
    refine run.end_ (a := .bl (!stop)) (S1 := S) ?_ μ H _ .refl (.bl _) rs
    unfold quant
    exact if_pos ok
  | succ k ih =>
    intro i s0 s hk hi hj
    obtain ⟨H, w, I, st, fpo, gl⟩ := hj
    obtain ⟨μ, S, g0, rs, rr, ok, run⟩ := here gl
    have hil : i < xs.length := by omega
    obtain ⟨go, yld⟩ := wk.go i μ H S g0 rs ok hil
    show Seg _ Ao _ _ _ s0 _ ((compTurn (.GeneratorExp elt [⟨.Name x px, iter, [], 0⟩] scope gpos) 0 (.ref it) .none (genEnv scope cl C code bi X.env)).onRaise (leaving (genEnv scope cl C code bi X.env))) [] s
    rw [compTurn_gen, Sem.onRaise_eq_wrap]
    refine seg_bind_wrap (wpAny_standAt ?_)
    refine seg_bind_wrap ?_
    rw [over]
    refine thn (Tn.item X' e1 e2 e3 e4 i [] s _ H _ I fpo st go) fun r s1 ⟨u, hr, h4⟩ => ?_
    subst hr
    refine seg_bind_wrap ?_
    rw [over]
    refine thn h4 fun _ s5 ⟨v, H5, I5, r5, y5, st5, fr5⟩ => ?_
    obtain ⟨rfl, xi, hxi, rxi⟩ := yld v H5 y5
    have stat : ∀ {H' : Hp}, (∀ b ∈ fp, H' b = none) → ∀ b ∈ fp, FpOk X' [] H' b := fun hn b hb => ⟨hn b hb, (fpo b hb).2⟩
    have I5' := I5.pinned (stat fr5) (Tn.obj _ _ st5)
    refine seg_bind_wrap ?_
    rw [over, ← e6]
    have zst := hst.run _ s5 _ H5 v u (fun σ' H' => σ' = (σ ++ [w]).set X.N.length (some v) ∧ H' = H5) I5' r5 ⟨rfl, rfl⟩
    rw [e1, e2] at zst
    refine wpAny_mono zst (fun _ s6 ⟨σ6, H6, I6, q1, q2⟩ => ?_) (fun _ _ z => by rw [e7] at z; exact z.elim)
    subst q2
    have q1' : σ6 = σ ++ [some v] := by rw [q1, List.set_append_right _ _ (by omega), hσ, Nat.sub_self]; rfl
    subst q1'
    refine seg_bind_wrap (wpAny_of_eq (a := true) (by first | rfl | simp only [List.forIn_nil]) ?_)
    simp only [if_true]
    have hy : ∀ v, yieldOut X'.env v = yieldValue v := fun v => by
      rw [e6]
      simp only [yieldOut, genEnv, g.co, Bool.false_eq_true, if_false]
    simp only [hy]
    rw [Sem.bind_eq_wrap', Sem.bind_eq_wrap', Sem.wrap_wrap, Sem.wrap_wrap]
    refine seg_wrap ?_
    rw [e6, over, ← e6]
    have ed : xs.drop i = xi :: xs.drop (i + 1) := by
      rw [List.drop_eq_getElem_cons hil]
      rw [List.getElem?_eq_getElem hil] at hxi
      cases hxi
      rfl
    have run1 : Run G (Rv G) (bnd (nr (fe (ρ ++ [some xi]))) (fun y => bnd (asB y) fun c => if c = stop then ret (.bl stop) else quant stop o fe ρ (xs.drop (i + 1)))) μ H6 S Q EQ := by
      refine run.cong ?_
      rw [ed]
      symm
      rw [quant]
      exact if_pos ok
    have rr6 : RR G μ H6 (ρ ++ [some xi]) (σ ++ [some v]) := by
      refine ⟨by simp [rr.len], fun j z e => ?_⟩
      by_cases hj : j < ρ.length
      · rw [List.getElem?_append_left hj] at e
        obtain ⟨v', h1, h2⟩ := rr.at_ j z e
        exact ⟨v', by rw [List.getElem?_append_left (by rw [← rr.len]; exact hj)]; exact h1, h2⟩
      · have hl : j = ρ.length := by
          have := (List.getElem?_eq_some_iff.mp e).1
          simp at this; omega
        subst hl
        simp at e
        subst e
        exact ⟨v, by rw [rr.len]; simp, rxi⟩
    have zel := hel.run _ s6 _ H6 _ I6 ⟨μ, ρ ++ [some xi], S, rs, rr6, Run.nr (run1.bnd)⟩
    rw [e1, e2] at zel
    refine wpAny_mono zel (fun y s7 h7 => ?_) (fun _ _ z => by rw [e7] at z; exact z.elim)
    obtain ⟨yv, H7, I7, ry, μ7, yl, S7, g7, ryl, rs7, run7⟩ := h7
    have keep7 : tn (i + 1) s7.heap ∧ ∀ b ∈ fp, H7 b = none := by
      refine ⟨Tn.keep _ _ _ st5 fun b hb ob e => (I7.pin (b, ob) (List.mem_append_right _ (List.mem_append_right _ (mem_pinsAt hb e)))).1, fun b hb => ?_⟩
      obtain ⟨ob, e, d⟩ := Tn.obj _ _ st5 b hb
      exact (I7.pin (b, ob) (List.mem_append_right _ (List.mem_append_right _ (mem_pinsAt hb e)))).2.1
    have I7' : Inv X' [] (σ ++ [some v]) H7 s7 := I7.unpinned
    cases ryl with
    | bl c =>
      cases ry
      have run8 : Run G (Rv G) (if c = stop then ret (.bl stop) else quant stop o fe ρ (xs.drop (i + 1))) μ7 H7 S7 Q EQ := run7
      have fin : c = stop → GF X' σ Q (.bl stop) s7 := fun e => by
        rw [if_pos e] at run8
        exact ⟨H7, some v, I7', run8.ret (.bl _) rs7⟩
      have nxt : c ≠ stop → GJ X' fp tn σ (GL G stop o fe ρ xs σ μ0 H0 Q EQ) (i + 1) s7 := fun e => by
        rw [if_neg e] at run8
        exact ⟨H7, some v, I7', keep7.1, stat keep7.2, μ7, S7, g0.trans g7, rs7, rr.up g7, run8⟩
      refine seg_at (seg_yield rfl rfl rfl ⟨c, i, rfl, by omega, fin, nxt, I7'.bare, fun e s' hs => ?_⟩)
      have ih1 := ih (i + 1) s' s' (by omega) hil
      rw [← e6] at ih1
      refine seg_again rfl (ih1 ?_)
      obtain ⟨H8, w8, I8, st8, fpo8, gl8⟩ := nxt e
      exact ⟨H8, w8, Inv.slp I8 hs, by rw [hs.1]; exact st8, fpo8, gl8⟩
    | _ => exact run7.no rfl
end
end Tw
end
section
set_option Elab.async false
set_option maxRecDepth 100000
set_option maxHeartbeats 3000000
set_option autoImplicit true
set_option linter.all false
set_option relaxedAutoImplicit true
namespace Tw
open PySem L2
/-! ## 17. any, all of a generator expression: the rules -/
section
variable {X : Cx} {G : GG} {W : WX} {sc : Shared} {Hc : Hp} {scope : Scope} {x : Str} {C : Addr} {code : Value} {Ao : Around} {pn : List (Addr × Obj)} {fp : List Addr} {J : It} {it : Addr} {tn : Nat → Heap → Prop}
  {stop : Bool} {o : Option (Nat × Ob)} {fe fi : Ev} {ρ : Rho} {xs : List Vl} {σ : St} {μ0 : List Addr} {H0 : Hp} {Q : VK} {EQ : Str → List Addr → Hp → Store → Prop} {elt iter : Expr} {px gpos : Pos} {cl : List (Str × Addr)} {bi : Addr} {k : Nat}
/-- the generator's context, its around over Ao -/
abbrev gX (X : Cx) (sc : Shared) (Hc : Hp) (scope : Scope) (cl : List (Str × Addr)) (C : Addr) (code : Value) (bi : Addr) (Ao : Around) (x : Str) (pn : List (Addr × Obj)) (fp : List Addr) : Cx :=
  gcx X sc Hc (genEnv scope cl C code bi X.env) (Ao.deeper (genEnv scope cl C code bi X.env)) (hideN X.N x) pn fp
theorem gen_seg0 (g : GSc X.N X.env.scope scope x) (Tn : Turn X.prog X.w X.K (.Name x px) J fp it tn) (wk : Wlk G J μ0 H0 o xs)
    (hel : PE (gX X sc Hc scope cl C code bi Ao x pn fp) elt (T G W0 fe)) (hst : PG (gX X sc Hc scope cl C code bi Ao x pn fp) (.Name x px) (gName X.N.length)) (hσ : σ.length = X.N.length) (s0 s : Shared)
    (h : GJ (gX X sc Hc scope cl C code bi Ao x pn fp) fp tn σ (GL G stop o fe ρ xs σ μ0 H0 Q EQ) 0 s) :
      Seg (model X.prog X.w) Ao (fun n s0 r s1 => r = .ok .next ∧ RG (gX X sc Hc scope cl C code bi Ao x pn fp) σ Q stop n s0 s1)
        (YG (gX X sc Hc scope cl C code bi Ao x pn fp) fp tn σ (GL G stop o fe ρ xs σ μ0 H0 Q EQ) Q stop xs.length) xs.length s0
        (.compStart (.GeneratorExp elt [⟨.Name x px, iter, [], 0⟩] scope gpos) 0 (.ref it) .none (genEnv scope cl C code bi X.env))
        ((model X.prog X.w).den (.compStart (.GeneratorExp elt [⟨.Name x px, iter, [], 0⟩] scope gpos) 0 (.ref it) .none (genEnv scope cl C code bi X.env))) [] s := by
  have loop := gen_seg (iter := iter) (gpos := gpos) (stop := stop) (o := o) (fe := fe) (ρ := ρ) (Q := Q) (EQ := EQ) g Tn wk (.inr trivial) hel hst hσ xs.length 0 s0 s (Nat.sub_zero _) (Nat.zero_le _) h
  obtain ⟨H, w, I, st, fpo, gl⟩ := h
  show Seg _ Ao _ _ _ s0 _ ((compStart (.GeneratorExp elt [⟨.Name x px, iter, [], 0⟩] scope gpos) 0 (.ref it) .none (genEnv scope cl C code bi X.env)).onRaise (leaving (genEnv scope cl C code bi X.env))) [] s
  unfold compStart
  rw [Sem.onRaise_eq_wrap]
  show Seg _ Ao _ _ _ s0 _ ((ask >>= _).wrap _ _ _ _) [] s
  refine seg_bind_wrap (wpAny_askSetting ?_)
  split
  · exact seg_again rfl loop
  · refine seg_bind_wrap (wpAny_rule ?_)
    first
      | exact seg_bind_wrap (wpAny_standAt (seg_bind_wrap (Tn.self _ 0 s _ _ st (seg_again rfl loop))))
      | (show Seg _ Ao _ _ _ s0 _ ((standAt iter.pos >>= _).wrap _ _ _ _) [] s; exact seg_bind_wrap (wpAny_standAt (seg_bind_wrap (Tn.self _ 0 s _ _ st (seg_again rfl loop)))))
theorem GJ.slp {X' : Cx} {L : Nat → Hp → Prop} {i : Nat} {s s' : Shared} (h : GJ X' fp tn σ L i s) (z : Slp s s') : GJ X' fp tn σ L i s' := by
  obtain ⟨H, w, I, st, fpo, gl⟩ := h
  exact ⟨H, w, Inv.slp I z, by rw [z.1]; exact st, fpo, gl⟩
theorem GF.slp {X' : Cx} {v : V} {s s' : Shared} (h : GF X' σ Q v s) (z : Slp s s') : GF X' σ Q v s' := by
  obtain ⟨H, w, I, q⟩ := h
  exact ⟨H, w, Inv.slp I z, q⟩
/-- asleep, as the consumer sees it -/
def GAs (P : Program) (w : PySem.World) (A : Around) (X' : Cx) (fp : List Addr) (tn : Nat → Heap → Prop) (σ : St) (L : Nat → Hp → Prop) (Q : VK) (stop : Bool) (n0 : Nat) (g : Nat) (i : Nat) (s : Shared) : Prop :=
  GJ X' fp tn σ L i s ∧ ∃ gs, s.gens[g]? = some gs ∧ ∀ s', Slp s s' → gs.Goes (model P w) A.in1 (fun n s0 r s1 => r = .ok .next ∧ RG X' σ Q stop n s0 s1) (YG X' fp tn σ L Q stop n0) (n0 - i) (.send .none) s'
theorem gas_turn {X' : Cx} {L : Nat → Hp → Prop} {n0 g i : Nat} {a : Addr} {go : Obj} {s : Shared} {A : Around} {E : Value → Shared → Prop} (hh : A.handled = none) (hroom : A.depth < recursionLimit) (hpn : (a, go) ∈ X'.pn) (hgo : ∀ h : Heap, h.get? a = some go → h.IsGen a g)
    (hi : i ≤ n0) (h : GAs X.prog X.w A X' fp tn σ L Q stop n0 g i s) :
    wpAny (model X.prog X.w) A (pyNext (.ref a)) (fun r s' => match r with
      | none => GF X' σ Q (.bl (!stop)) s'
      | some v => ∃ b, v = .bool b ∧ (b = stop → GF X' σ Q (.bl stop) s') ∧ (b ≠ stop → i < n0 ∧ GAs X.prog X.w A X' fp tn σ L Q stop n0 g (i + 1) s')) E s := by
  obtain ⟨hj, gs, hgs, hgo2⟩ := h
  obtain ⟨H, w, I, st, fpo, gl⟩ := id hj
  have hg : s.heap.IsGen a g := hgo _ (I.pin (a, go) (List.mem_append_left _ hpn)).1
  have hlt : g + 1 ≤ s.gens.size := (Array.getElem?_eq_some_iff.mp hgs).1
  refine GenW.wpAny_gsz hlt ?_
  refine wpAny_pyNext_genexpQ (P := fun n s0 s1 => RG X' σ Q stop n s0 s1) hh I.nolimit hroom hg hgs (hgo2 _ ⟨rfl, rfl, allBare_setGen I.bare rfl⟩) (fun v s1 gs' hb hv => ?_) (fun s1 hp h' hk => ?_)
  · obtain ⟨b, i', rfl, hn, hfin, hnx, hbare, hkap⟩ := hv
    intro hsz
    have slp : Slp s1 (s1.setGen g gs') := ⟨rfl, rfl, allBare_setGen hbare hb⟩
    refine ⟨b, rfl, fun e => (hfin e).slp slp, fun e => ?_⟩
    have hk := hkap e
    have hpos : i < n0 := by
      by_cases hc : i < n0
      · exact hc
      · have hz : n0 - i = 0 := by omega
        rw [hz] at hk
        exact False.elim (hk s1 ⟨rfl, rfl, hbare⟩)
    obtain ⟨m, hm⟩ : ∃ m, n0 - i = m + 1 := ⟨n0 - i - 1, by omega⟩
    rw [hm] at hk hn
    have hi' : i' = i := by omega
    subst hi'
    refine ⟨hpos, (hnx e).slp slp, gs', ?_, fun s' hs' => ?_⟩
    · have hsz' : g < s1.gens.size := by
        have : (s1.setGen g gs').gens.size = s1.gens.size := GenW.setGen_size s1 g gs'
        omega
      simp [Shared.setGen, hsz']
    · have hm' : n0 - (i' + 1) = m := by omega
      rw [hm']
      exact hk s' ⟨hs'.1, hs'.2.1, hs'.2.2⟩
  · intro _
    obtain ⟨H1, w1, I1, q1⟩ := hp
    have I2 : Inv X' [] (σ ++ [w1]) H1 (s1.setGen g .finished) := Inv.slp I1 ⟨rfl, rfl, allBare_setGen I1.bare rfl⟩
    exact ⟨H1, w1, I2.kept (t' := (s1.setGen g .finished).toks) hk, q1⟩
/-- back in the def's own frame -/
theorem GF.back {pins : List (Addr × Obj)} {v : V} {u : Value} {s : Shared} (I : Inv X pins σ Hc sc) (hfp : ∀ b ∈ fp, FpOk X pins Hc b) (h : GF (gX X sc Hc scope cl C code bi Ao x pn fp) σ Q v s) (r : RelV v u) : EP X pins σ Q u s := by
  obtain ⟨H, w, I1, q⟩ := h
  refine ⟨v, H, ?_, r, q⟩
  exact I.call' (ch := fp) I1.os I1.base I1.hok I1.bare fun b hb => ⟨(hfp b hb).2.2.2.1, (hfp b hb).2.1, (hfp b hb).2.2.2.2.1, (hfp b hb).2.2.2.2.2⟩
/-- a table grows -/
theorem RS.tbl {μ : List Addr} {H : Hp} {S : Store} {P : Addr} {ps more : Array Value} (rs : RS G μ H S) (hP : H P = some (.tbl ps)) (ht : TriplesOk (ps ++ more).toList) : RS G μ (upd H P (.tbl (ps ++ more))) S ∧ Gr μ H μ (upd H P (.tbl (ps ++ more))) := by
  have hne : ∀ b u, H b = some u → (∀ l, u ≠ .tbl l) → b ≠ P := fun b u q z1 z2 => by subst z2; rw [hP] at q; cases q; exact z1 _ rfl
  have g : Gr μ H μ (upd H P (.tbl (ps ++ more))) := ⟨fun _ _ q => q, fun b l q => by rw [upd_ne (hne b _ q fun _ z => nomatch z)]; exact q, fun b o u q => by rw [upd_ne (hne b _ q fun _ z => nomatch z)]; exact q⟩
  refine ⟨⟨rs.len, rs.nd, fun m ob q => ?_, fun P' hP' => ?_⟩, g⟩
  · obtain ⟨b, h1, h2⟩ := rs.ob m ob q
    obtain ⟨u, hu, _, _, hz⟩ := h2.some
    exact ⟨b, h1, h2.up g (upd_ne (hne b u hu hz))⟩
  · by_cases e : P' = P
    · subst e
      exact ⟨_, upd_same, ht⟩
    · obtain ⟨qs, q, t⟩ := rs.tab P' hP'
      exact ⟨qs, by rw [upd_ne e]; exact q, t⟩
end
end Tw
end
section
set_option Elab.async false
set_option maxRecDepth 100000
set_option maxHeartbeats 3000000
set_option autoImplicit true
set_option linter.all false
set_option relaxedAutoImplicit true
namespace Tw
open PySem L2
section
variable {X : Cx} {G : GG} {W : WX} {scope : Scope} {x : Str} {stop : Bool} {fe fi : Ev} {σ : St} {H : Hp} {Q : VK} {elt iter : Expr} {px gpos : Pos} {k : Nat} {c P : Addr} {pins : List (Addr × Obj)} {s : Shared}
/-- ready for the consumer -/
def GRd (X : Cx) (pins : List (Addr × Obj)) (σ : St) (Q : VK) (stop : Bool) (a : Addr) (s : Shared) : Prop :=
  ∃ (g n0 : Nat) (go : Obj) (X' : Cx) (fp : List Addr) (tn : Nat → Heap → Prop) (L : Nat → Hp → Prop), s.heap.IsGen a g ∧ (a, go) ∈ X'.pn ∧ (∀ h : Heap, h.get? a = some go → h.IsGen a g) ∧ GAs X.prog X.w X.A.in1 X' fp tn σ L Q stop n0 g 0 s ∧
    ∀ v u s', GF X' σ Q v s' → RelV v u → EP X pins σ Q u s'
/-- what stands where the frame is made -/
theorem gen_frame {G : GG} {μ0 : List Addr} {H0 : Hp} {o : Option (Nat × Ob)} {ρ : Rho} {xs : List Vl} {EQ : Str → List Addr → Hp → Store → Prop} {s4 : Shared} {H4 : Hp} {fp : List Addr} {J : It} {it : Addr} {tn : Nat → Heap → Prop} {code : Value} {Qv : Value → Shared → Prop}
    (hr : Room (k + 1) X.A) (hgd : X.A.guards = some []) (g : GSc X.N X.env.scope scope x) (I : Inv X pins σ H4 s4) (Tn : Turn X.prog X.w X.K (.Name x px) J fp it tn) (st : tn 0 s4.heap) (fpo : ∀ b ∈ fp, FpOk X pins H4 b) (wk : Wlk G J μ0 H0 o xs) (gl : GL G stop o fe ρ xs σ μ0 H0 Q EQ 0 H4)
    (hel : ∀ X' : Cx, X'.prog = X.prog → X'.w = X.w → X'.base = X.base → (∃ sc Hc cl C code bi Ao pn fp, X' = gX X sc Hc scope cl C code bi Ao x pn fp) → At X' ⟨X.K, X.mg, G.tabs⟩ W0 k → PE X' elt (T G W0 fe)) (hG : G = ⟨X.K, X.mg, G.tabs⟩) (hnd : (hideN X.N x).Nodup)
    (hQ : ∀ a s', GRd X pins σ Q stop a s' → Qv (.ref a) s') :
    ∀ h', h'.Ns s4.heap.objs.size (fun y => if y = (".0" : Str) then some (.ref it) else none) → Heap.SameBut s4.heap.objs.size (s4.heap.push { cls := .type "frame", data := .dict #[] }) h' →
      Qv (.ref h'.objs.size) { s4 with
        gens := s4.gens.push (.fresh (.compStart (.GeneratorExp elt [⟨.Name x px, iter, [], 0⟩] scope gpos) 0 (.ref it) .none (genEnv scope (cloFrom X.env.cells scope.names []) s4.heap.objs.size code builtinsNs X.env))),
        toks := s4.toks + 1 + 1 + 1,
        heap := h'.push { cls := .type "generator", data := .fields #[.int s4.gens.size 0, .str "<genexpr>" (s4.toks + 1), .str (X.env.qual ++ "<genexpr>") (s4.toks + 1 + 1)] } } := by
  intro h' hn' hs'
  have hsz : h'.objs.size = s4.heap.objs.size + 1 := by rw [hs'.1, Heap.size_push]
  have kp1 : ∀ b ob, s4.heap.get? b = some ob → h'.get? b = some ob := fun b ob e => hs'.extBut b ob (Nat.ne_of_lt (Heap.lt_size e)) (Heap.get?_push_of_some _ e)
  generalize hgo : ({ cls := .type "generator", data := .fields #[.int s4.gens.size 0, .str "<genexpr>" (s4.toks + 1), .str (X.env.qual ++ "<genexpr>") (s4.toks + 1 + 1)] } : Obj) = go
  have isg : ∀ h : Heap, h.get? h'.objs.size = some go → h.IsGen h'.objs.size s4.gens.size := fun h e => ⟨go, _, _, e, by rw [← hgo], by rw [← hgo], by rw [← hgo]⟩
  have hfree : go.isFreed = false := by rw [← hgo]; rfl
  have hget : (h'.push go).get? h'.objs.size = some go := by
    first | exact Heap.get?_push_size _ hfree | exact Heap.get?_push_size _ rfl | (rw [← hgo]; exact Heap.get?_push_size _ rfl)
  have kp2 : ∀ b ob, s4.heap.get? b = some ob → (h'.push go).get? b = some ob := fun b ob e => Heap.get?_push_of_some _ (kp1 b ob e)
  generalize hs5 : ({ s4 with gens := s4.gens.push (.fresh (.compStart (.GeneratorExp elt [⟨.Name x px, iter, [], 0⟩] scope gpos) 0 (.ref it) .none (genEnv scope (cloFrom X.env.cells scope.names []) s4.heap.objs.size code builtinsNs X.env))), toks := s4.toks + 1 + 1 + 1, heap := h'.push go } : Shared) = s5
  have e5h : s5.heap = h'.push go := by rw [← hs5]
  have e5g : s5.gens = s4.gens.push (.fresh (.compStart (.GeneratorExp elt [⟨.Name x px, iter, [], 0⟩] scope gpos) 0 (.ref it) .none (genEnv scope (cloFrom X.env.cells scope.names []) s4.heap.objs.size code builtinsNs X.env))) := by rw [← hs5]
  have e5o : s5.os = s4.os := by rw [← hs5]
  have bare5 : PyProof.Rows.AllBare s5.gens := by rw [e5g]; exact I.bare.push rfl
  have lts : ∀ b ∈ fp, b < s4.heap.objs.size := fun b hb => by
    obtain ⟨ob, e, _⟩ := Tn.obj 0 _ st b hb
    exact Heap.lt_size e
  have hA : (X.A.in1.in1.deeper (genEnv scope (cloFrom X.env.cells scope.names []) s4.heap.objs.size code builtinsNs X.env)).handled = none := hr.hd
  have I5 := gen_start (x := x) (code := code) (bi := builtinsNs) (A' := X.A.in1.in1.deeper (genEnv scope (cloFrom X.env.cells scope.names []) s4.heap.objs.size code builtinsNs X.env)) (pn := [(h'.objs.size, go)]) (fp := fp) (C := s4.heap.objs.size) (s5 := s5)
    I g rfl (Nat.le_refl _) hA (Around.frames_deeper (A := X.A.in1.in1) I.ok.frames) (fun b hb => ⟨fpo b hb, lts b hb⟩) e5o bare5 (by rw [e5h]; exact kp2) (by rw [e5h]; exact hn'.push _) (fun p hp => by
      rw [List.mem_singleton.mp hp]
      refine ⟨by rw [e5h]; exact hget, by rw [hsz]; exact Nat.le_succ _, by rw [hsz]; exact Nat.succ_ne_self _, fun v z => ?_⟩
      rw [← hgo] at z
      cases z)
  have fpo5 : ∀ b ∈ fp, FpOk (gX X s4 H4 scope (cloFrom X.env.cells scope.names []) s4.heap.objs.size code builtinsNs X.A.in1.in1 x [(h'.objs.size, go)] fp) [] H4 b := fun b hb => by
    have z := fpo b hb
    refine ⟨z.1, Nat.ne_of_lt (lts b hb), fun hm => ?_, .inl hb, fun y c e => I5.ok.exf b hb |>.2 y c e, fun p hp => ?_⟩
    · rcases List.mem_cons.mp (I.stkSub b hm) with q | q
      · exact z.2.1 q
      · exact z.2.2.1 q
    · have hp2 : p ∈ [(h'.objs.size, go)] ++ [] := hp
      have hp' : p ∈ [(h'.objs.size, go)] := by simpa using hp2
      rw [List.mem_singleton.mp hp']
      exact Nat.ne_of_gt (by rw [hsz]; exact Nat.lt_succ_of_lt (lts b hb))
  have room' : Room k (X.A.in1.in1.deeper (genEnv scope (cloFrom X.env.cells scope.names []) s4.heap.objs.size code builtinsNs X.env)) := by
    refine ⟨hr.hd, ?_, ?_⟩
    · have := hr.dp
      show X.A.depth + 1 + 3 * k + 5 < _
      omega
    · have := hr.un
      show X.A.units + 1 + 1 + 3 + 16 * k + 200 < _
      omega
  have pel := hel (gX X s4 H4 scope (cloFrom X.env.cells scope.names []) s4.heap.objs.size code builtinsNs X.A.in1.in1 x [(h'.objs.size, go)] fp) rfl rfl rfl ⟨s4, H4, cloFrom X.env.cells scope.names [], s4.heap.objs.size, code, builtinsNs, X.A.in1.in1, [(h'.objs.size, go)], fp, rfl⟩ ⟨rfl, rfl, room', rfl, takes0, PassesOwn.never, hnd, hgd⟩
  have pst : PG (gX X s4 H4 scope (cloFrom X.env.cells scope.names []) s4.heap.objs.size code builtinsNs X.A.in1.in1 x [(h'.objs.size, go)] fp) (.Name x px) (gName X.N.length) :=
    pg_name hnd (by show (hideN X.N x)[X.N.length]? = some x; simp [hideN]) (.inl g.loc) (.inr g.loc)
  have hj : GJ (gX X s4 H4 scope (cloFrom X.env.cells scope.names []) s4.heap.objs.size code builtinsNs X.A.in1.in1 x [(h'.objs.size, go)] fp) fp tn σ (GL G stop o fe ρ xs σ μ0 H0 Q EQ) 0 s5 :=
    ⟨H4, none, I5, Tn.keep 0 _ _ st (fun b _ ob e => by rw [e5h]; exact kp2 b ob e), fpo5, gl⟩
  have hgs : s5.gens[s4.gens.size]? = some (.fresh (.compStart (.GeneratorExp elt [⟨.Name x px, iter, [], 0⟩] scope gpos) 0 (.ref it) .none (genEnv scope (cloFrom X.env.cells scope.names []) s4.heap.objs.size code builtinsNs X.env))) := by
    rw [e5g]; exact Array.getElem?_push_size ..
  have hga : GAs X.prog X.w X.A.in1 (gX X s4 H4 scope (cloFrom X.env.cells scope.names []) s4.heap.objs.size code builtinsNs X.A.in1.in1 x [(h'.objs.size, go)] fp) fp tn σ (GL G stop o fe ρ xs σ μ0 H0 Q EQ) Q stop xs.length s4.gens.size 0 s5 :=
    ⟨hj, _, hgs, fun s' hs => ⟨rfl, gen_seg0 (Ao := X.A.in1.in1) g Tn wk pel pst I.len s' s' (hj.slp hs)⟩⟩
  exact hQ _ _ ⟨s4.gens.size, xs.length, go, _, fp, tn, _, by rw [e5h]; exact isg _ hget, List.mem_singleton.mpr rfl, isg, hga, fun v u s' h r => GF.back I fpo h r⟩
end
end Tw
end
section
set_option Elab.async false
set_option maxRecDepth 100000
set_option maxHeartbeats 3000000
set_option autoImplicit true
set_option linter.all false
set_option relaxedAutoImplicit true
namespace Tw
open PySem L2
section
variable {X : Cx} {G : GG} {W : WX} {scope : Scope} {x : Str} {stop : Bool} {fe fi : Ev} {σ : St} {H : Hp} {Q : VK} {elt iter : Expr} {px gpos pos p : Pos} {k : Nat} {c P : Addr} {pins : List (Addr × Obj)} {s : Shared}
/-- the generator is made -/
theorem gen_make (at_ : At X G W (k + 1)) (TB : GxR.TabB X.base X.mg c P) (hP : P ∈ G.tabs) (hcode : X.env.code = .ref c) (g : GSc X.N X.env.scope scope x) (hnd : (hideN X.N x).Nodup) (hi : PE X iter (T G W fi))
    (hel : ∀ X' : Cx, X'.prog = X.prog → X'.w = X.w → X'.base = X.base → (∃ sc Hc cl C code bi Ao pn fp, X' = gX X sc Hc scope cl C code bi Ao x pn fp) → At X' ⟨X.K, X.mg, G.tabs⟩ W0 k → PE X' elt (T G W0 fe))
    (hs : ∀ v, genFold iter X.env v = pure v) (I : Inv X pins σ H s) (h : T G W (eQuant stop fi fe) σ H Q) {Qv : Value → Shared → Prop} (hQ : ∀ a s', GRd X pins σ Q stop a s' → Qv (.ref a) s') :
    wpAny (model X.prog X.w) X.A (eval (.GeneratorExp elt [⟨.Name x px, iter, [], 0⟩] scope gpos) X.env) Qv X.xe s := by
  have hG : G = ⟨X.K, X.mg, G.tabs⟩ := by
    obtain ⟨K, mg, tabs⟩ := G
    have e1 : K = X.K := at_.K
    have e2 : mg = X.mg := at_.mg
    rw [e1, e2]
  have hfree : ∀ y ∈ scope.names, y.2 = .free → ∃ c, X.env.cells.lookup y.1 = some c := fun y hy e => by
    rcases g.free y hy e with q | q
    · exact I.ok.has _ (.inl q)
    · exact I.ok.has _ (.inr q)
  have hclos := closure_ok hfree
  obtain ⟨μ, ρ, S, rs, rr, run⟩ := h
  have hit := (pi_seq (tg := .Name x px) hi).run pins s σ H (fun J H1 => ∃ μ1 H0 o xs, Wlk G J μ1 H0 o xs ∧ GL G stop o fe ρ xs σ μ1 H0 Q (EW G W σ) 0 H1) I (by
    refine T_bnd rs rr run fun v H1 μ1 y S1 g1 ry rs1 rr1 run1 => ?_
    rw [← at_.K]
    cases ry <;> first | exact run1.no rfl | skip
    · rename_i xs vs a ht rt
      exact .inr ⟨a, rfl, ⟨vs, ht⟩, μ1, H1, none, xs, wlk_tup ht rt, μ1, S1, .refl, rs1, rr1, run1⟩
    · rename_i n a hn
      cases e1 : S1[n]? with
      | none => exact run1.no (by simp only [e1])
      | some ob =>
        cases ob with
        | dct => exact run1.no (by simp only [e1])
        | lst xs =>
          obtain ⟨b, q, vs, h1, r1⟩ := rs1.ob n _ e1
          rw [hn] at q
          cases q
          exact .inl ⟨a, rfl, ⟨vs, .of h1⟩, μ1, H1, some (n, .lst xs), xs, wlk_loc hn, μ1, S1, .refl, rs1, rr1, run1.cong (by simp only [e1]; rfl)⟩
    · rename_i xs vs a hf rt
      exact .inl ⟨a, rfl, ⟨vs, hf.sql⟩, μ1, H1, none, xs, wlk_frz hf rt, μ1, S1, .refl, rs1, rr1, run1⟩)
  refine wpAny_GeneratorExp_make g.co hclos g.nocell g.dot g.kind at_.room.depth (wpAny_mono hit (fun xv s1 h1 => wpAny_mono h1 (fun itv s2 h2 => ?_) fun _ _ z => z) fun _ _ z => z) hs
  obtain ⟨it, fp, tn, J, H2, rfl, I2, Tn, st2, fpo2, μ1, H0, o, xs, wk, gl⟩ := h2
  refine ⟨I2.nolimit, ?_⟩
  obtain ⟨μ2, S2, g2, rs2, rr2, run2⟩ := id gl
  obtain ⟨ps, hPs, ht⟩ := rs2.tab P hP
  have hPs1 : s2.heap.get? P = some { cls := .none, data := .fields ps } := I2.hok P _ hPs
  have hPlt : P < s2.heap.objs.size := Heap.lt_size hPs1
  have cd : PySem.W.CodeHd s2.heap c P := TB.code.keeps fun b u e => I2.bk b u e
  have fpP : ∀ b ∈ fp, b ≠ P := fun b hb z => by
    have := (fpo2 b hb).1
    rw [z, hPs] at this
    cases this
  have cont : ∀ (code : Value) (h3 : Heap) (tk : Nat) (more : Array Value), Heap.ExtBut P s2.heap h3 → s2.heap.objs.size ≤ h3.objs.size → h3.get? P = some { cls := .none, data := .fields (ps ++ more) } → TriplesOk (ps ++ more).toList →
      wpAny (model X.prog X.w) X.A (builtinsFor X.env.globals X.env.builtins) (fun bi s4 => ∀ h', h'.Ns s4.heap.objs.size (fun y => if y = (".0" : Str) then some (.ref it) else none) → Heap.SameBut s4.heap.objs.size (s4.heap.push { cls := .type "frame", data := .dict #[] }) h' →
        Qv (.ref h'.objs.size) { s4 with
          gens := s4.gens.push (.fresh (.compStart (.GeneratorExp elt [⟨.Name x px, iter, [], 0⟩] scope gpos) 0 (.ref it) .none (genEnv scope (cloFrom X.env.cells scope.names []) s4.heap.objs.size code bi X.env))),
          toks := s4.toks + 1 + 1 + 1,
          heap := h'.push { cls := .type "generator", data := .fields #[.int s4.gens.size 0, .str "<genexpr>" (s4.toks + 1), .str (X.env.qual ++ "<genexpr>") (s4.toks + 1 + 1)] } }) X.xe { s2 with heap := h3, toks := tk } := by
    intro code h3 tk more hx hsz hP3 ht3
    obtain ⟨bm, ob, b1, b2, b3, b4, b5, b6, b7, b8⟩ := TB.bm
    have keep3 : ∀ b u, b ≠ P → s2.heap.get? b = some u → h3.get? b = some u := fun b u hb e => hx b u hb e
    have I3 := GxR.inv_tab (more := more) (h' := h3) (g' := s2.gens) (d' := s2.drawn) (t' := tk) I2 hPs keep3 hP3 I2.bare
    obtain ⟨rs3, g3⟩ := rs2.tbl (more := more) hPs ht3
    have st3 : tn 0 h3 := Tn.keep 0 _ _ st2 fun b hb u e => keep3 b u (fpP b hb) e
    have fpo3 : ∀ b ∈ fp, FpOk X pins (upd H2 P (.tbl (ps ++ more))) b := fun b hb => ⟨by rw [upd_ne (fpP b hb)]; exact (fpo2 b hb).1, (fpo2 b hb).2⟩
    have gl3 : GL G stop o fe ρ xs σ μ1 H0 Q (EW G W σ) 0 (upd H2 P (.tbl (ps ++ more))) := ⟨μ2, S2, g2.trans g3, rs3, rr2.up g3, by
      obtain ⟨r, e, q⟩ := run2
      refine ⟨r, e, ?_⟩
      cases r with
      | ok a S' => exact fun μ' H' v gg => q μ' H' v (g3.trans gg)
      | er c S' => exact fun μ' H' gg => q μ' H' (g3.trans gg)⟩
    refine wpAny_builtinsFor (m := X.mg) (by rw [I2.ok.glob]; exact (I2.mod.glob.keeps I2.bk).extBut hx TB.gP) b1 b2 (keep3 _ _ b4 (I2.bk _ _ b5)) b6 b7 b8 ?_
    exact gen_frame (code := code) at_.room at_.gd g I3 Tn st3 fpo3 wk gl3 hel hG hnd hQ
  cases hf : codeAmong gpos ps.toList with
  | none =>
    refine wpAny_genexprCodeX hcode (cd.code hPs1 ht) (cd.tab hPs1) hf fun c' h' tk hx hge hlt hco' _ htab' _ => ?_
    obtain ⟨o1, vs, f1, tf, fl, tg, inF, tx, tt, op, _, _, _, _, _, _, _, _, _, htr, _⟩ := hco'
    exact cont _ h' tk _ hx (Nat.le_trans hge (Nat.le_of_lt hlt)) htab'.2 htr
  | some cv =>
    refine PySem.wpAny_genexprCode_hit hcode (cd.code hPs1 ht) hf ?_
    exact cont cv s2.heap s2.toks #[] (Heap.ExtBut.refl _ _) (Nat.le_refl _) (by rw [Array.append_empty]; exact hPs1) (by rw [Array.append_empty]; exact ht)
theorem xe_all (at_ : At X G W (k + 1)) (hm : X.mg "all" = none) (TB : GxR.TabB X.base X.mg c P) (hP : P ∈ G.tabs) (hcode : X.env.code = .ref c) (g : GSc X.N X.env.scope scope x) (hnd : (hideN X.N x).Nodup) (hi : PE X iter (T G W fi))
    (hel : ∀ X' : Cx, X'.prog = X.prog → X'.w = X.w → X'.base = X.base → (∃ sc Hc cl C code bi Ao pn fp, X' = gX X sc Hc scope cl C code bi Ao x pn fp) → At X' ⟨X.K, X.mg, G.tabs⟩ W0 k → PE X' elt (T G W0 fe))
    (hg : Gl X "all" := by rfl) (hs : ∀ v, genFold iter X.env v = pure v := by intro _; rfl)
    (he : starEach [.GeneratorExp elt [⟨.Name x px, iter, [], 0⟩] scope gpos] X.env = (false, eval (.GeneratorExp elt [⟨.Name x px, iter, [], 0⟩] scope gpos) X.env) :: starEach [] X.env := by rfl) :
    PE X (.Call (.Name "all" p) [.GeneratorExp elt [⟨.Name x px, iter, [], 0⟩] scope gpos] [] pos) (T G W (eQuant false fi fe)) := by
  refine ⟨fun pins s σ H Q I h => ?_⟩
  refine wpAny_Call_Name_kw (ld_blt I hg hm (show bootBuiltins "all" = some (.builtin "all") from by decide +kernel) ?_)
  refine PyProof.Rows.callWith_builtin1 ?_ he (by rfl)
  rw [he]
  show wpAny _ _ (spliced ((false, eval (.GeneratorExp elt [⟨.Name x px, iter, [], 0⟩] scope gpos) X.env) :: backTo pos (starEach [] X.env))) _ _ s
  refine Calls.spliced_cons (gen_make at_ TB hP hcode g hnd hi hel hs I h fun a s' hG => Calls.spliced_nil ?_)
  obtain ⟨gi, n0, go, X', fp, tn, L, h1, h2, h3, h4, h5⟩ := hG
  refine call_all_gen (n := n0) (St := GAs X.prog X.w X.A.in1 X' fp tn σ L Q false n0 gi) h1 (fun i s1 hi h => ?_) h4
  refine thn (gas_turn (A := X.A.in1) at_.room.hd (by have := at_.room.dp; show X.A.depth < _; omega) h2 h3 hi h) fun r s2 hr => ?_
  cases r with
  | none => exact h5 (.bl true) (.bool true) s2 hr rfl
  | some v =>
    obtain ⟨b, rfl, q1, q2⟩ := hr
    exact ⟨b, rfl, fun e => q2 (by rw [e]; decide), fun e => h5 (.bl false) (.bool false) s2 (q1 e) rfl⟩
end
end Tw
end
section
set_option Elab.async false
set_option maxRecDepth 100000
set_option maxHeartbeats 3000000
set_option autoImplicit true
set_option linter.all false
set_option relaxedAutoImplicit true
namespace Tw
open PySem L2
/-! ## 19. Short forms for a text's own rules -/
def gscC (N : List Str) (sc scope : Scope) (x : Str) : Bool :=
  scope.kind == .function && !scope.isCoroutine && scope.names.all (fun y => scope.names.lookup y.1 == some y.2) && scope.names.all (fun y => y.2 != .cell) && (scope.names.lookup (".0" : Str) == some NameKind.local) && (scope.names.lookup x == some NameKind.local) &&
  scope.names.all (fun y => y.2 != .local || y.1 == (".0" : Str) || y.1 == x) && scope.names.all (fun y => y.2 != .free || sc.names.lookup y.1 == some .cell || sc.names.lookup y.1 == some .free) && (scope.names.lookup ("" : Str) == none) && decide (hideN N x).Nodup
theorem gsc_by {N : List Str} {sc scope : Scope} {x : Str} (h : gscC N sc scope x = true) : GSc N sc scope x ∧ (hideN N x).Nodup := by
  unfold gscC at h
  simp only [Bool.and_eq_true, decide_eq_true_eq, List.all_eq_true, Bool.or_eq_true, bne_iff_ne, beq_iff_eq, Bool.not_eq_true'] at h
  obtain ⟨⟨⟨⟨⟨⟨⟨⟨⟨h1, h2⟩, h3⟩, h4⟩, h5⟩, h6⟩, h7⟩, h8⟩, h9⟩, h10⟩ := h
  refine ⟨⟨h1, h2, h3, h4, h5, h6, fun y hy e => ?_, fun y hy e => ?_, h9⟩, h10⟩
  · rcases h7 y hy with (q | q) | q
    · exact absurd e q
    · exact .inl q
    · exact .inr q
  · rcases h8 y hy with (q | q) | q
    · exact absurd e q
    · exact .inl q
    · exact .inr q
section
variable {X : Cx} {G : GG} {W : WX} {scope : Scope} {x : Str} {fe fi : Ev} {elt iter : Expr} {px gpos pos p : Pos} {k : Nat} {c P : Addr}
theorem x_all (h : gscC X.N X.env.scope scope x = true) (at_ : At X G W (k + 1)) (hm : X.mg "all" = none) (TB : GxR.TabB X.base X.mg c P) (hP : P ∈ G.tabs) (hcode : X.env.code = .ref c) (hi : PE X iter (T G W fi))
    (hel : ∀ X' : Cx, X'.prog = X.prog → X'.w = X.w → X'.base = X.base → (∃ sc Hc cl C code bi Ao pn fp, X' = gX X sc Hc scope cl C code bi Ao x pn fp) → At X' ⟨X.K, X.mg, G.tabs⟩ W0 k → PE X' elt (T G W0 fe))
    (hg : Gl X "all" := by rfl) (hs : ∀ v, genFold iter X.env v = pure v := by intro _; rfl)
    (he : starEach [.GeneratorExp elt [⟨.Name x px, iter, [], 0⟩] scope gpos] X.env = (false, eval (.GeneratorExp elt [⟨.Name x px, iter, [], 0⟩] scope gpos) X.env) :: starEach [] X.env := by rfl) :
    PE X (.Call (.Name "all" p) [.GeneratorExp elt [⟨.Name x px, iter, [], 0⟩] scope gpos] [] pos) (T G W (eQuant false fi fe)) := xe_all at_ hm TB hP hcode (gsc_by h).1 (gsc_by h).2 hi hel hg hs he
def oIs0 : Vl → Vl → M Vl := fun x y => match y with
  | .non => oIsN x
  | _ => stuck
def oNot0 : Vl → Vl → M Vl := fun x y => match y with
  | .non => oNotN x
  | _ => stuck
variable {a b : Expr} {fa fb : Ev}
theorem x_add (ha : PE X a (T G W fa)) (hb : PE X b (T G W fb)) (hK : G.K = X.K := by rfl) : PE X (.BinOp a .Add b pos) (T G W (eOp oAdd fa fb)) := xe_op (by have := om_add (G := G); rw [hK] at this; exact this) (op_add.or (op_catA.or op_cat)) ha hb
theorem x_sub (ha : PE X a (T G W fa)) (hb : PE X b (T G W fb)) : PE X (.BinOp a .Sub b pos) (T G W (eOp oSub fa fb)) := xe_op om_sub op_sub ha hb
theorem x_div (ha : PE X a (T G W fa)) (hb : PE X b (T G W fb)) : PE X (.BinOp a .FloorDiv b pos) (T G W (eOp oDiv fa fb)) := xe_op om_div op_fdivA ha hb
theorem x_mod (ha : PE X a (T G W fa)) (hb : PE X b (T G W fb)) : PE X (.BinOp a .Mod b pos) (T G W (eOp oMod fa fb)) := xe_op om_mod op_modN ha hb
theorem x_pow (ha : PE X a (T G W fa)) (hb : PE X b (T G W fb)) : PE X (.BinOp a .Pow b pos) (T G W (eOp oPow fa fb)) := xe_op om_pow op_pow ha hb
theorem x_lt (ha : PE X a (T G W fa)) (hb : PE X b (T G W fb)) : PE X (.Compare a [.Lt] [b] pos) (T G W (eOp oLt fa fb)) := xe_cmp om_cmp op_lt ha hb (nomark _)
theorem x_le (ha : PE X a (T G W fa)) (hb : PE X b (T G W fb)) : PE X (.Compare a [.LtE] [b] pos) (T G W (eOp oLe fa fb)) := xe_cmp om_cmp op_le ha hb (nomark _)
theorem x_gt (ha : PE X a (T G W fa)) (hb : PE X b (T G W fb)) : PE X (.Compare a [.Gt] [b] pos) (T G W (eOp oGt fa fb)) := xe_cmp om_cmp op_gt ha hb (nomark _)
theorem x_ge (ha : PE X a (T G W fa)) (hb : PE X b (T G W fb)) : PE X (.Compare a [.GtE] [b] pos) (T G W (eOp oGe fa fb)) := xe_cmp om_cmp op_ge ha hb (nomark _)
theorem x_eq (at_ : At X G W k) (ha : PE X a (T G W fa)) (hb : PE X b (T G W fb)) : PE X (.Compare a [.Eq] [b] pos) (T G W (eOp oEq fa fb)) := xe_cmp (by have := om_eq (G := G); rw [at_.K] at this; exact this) (op_eq.or (op_eqD at_.room.units)) ha hb (nomark _)
theorem x_ne (at_ : At X G W k) (ha : PE X a (T G W fa)) (hb : PE X b (T G W fb)) : PE X (.Compare a [.NotEq] [b] pos) (T G W (eOp oNe fa fb)) := xe_cmp (by have := om_ne (G := G); rw [at_.K] at this; exact this) (op_ne.or (op_neD at_.room.units)) ha hb (nomark _)
theorem x_is0 (ha : PE X a (T G W fa)) (hb : PE X b (T G W fb)) : PE X (.Compare a [.Is] [b] pos) (T G W (eOp oIs0 fa fb)) := xe_cmp om_isN op_isN ha hb (nomark _)
theorem xt_lt (ha : PE X a (T G W fa)) (hb : PE X b (T G W fb)) : PT X (.Compare a [.Lt] [b] pos) (TTs G W (tVal (eOp oLt fa fb))) := xt_cmp om_cmp op_lt ha hb (nomark _)
theorem xt_gt (ha : PE X a (T G W fa)) (hb : PE X b (T G W fb)) : PT X (.Compare a [.Gt] [b] pos) (TTs G W (tVal (eOp oGt fa fb))) := xt_cmp om_cmp op_gt ha hb (nomark _)
theorem xt_ge (ha : PE X a (T G W fa)) (hb : PE X b (T G W fb)) : PT X (.Compare a [.GtE] [b] pos) (TTs G W (tVal (eOp oGe fa fb))) := xt_cmp om_cmp op_ge ha hb (nomark _)
theorem xt_eq (at_ : At X G W k) (ha : PE X a (T G W fa)) (hb : PE X b (T G W fb)) : PT X (.Compare a [.Eq] [b] pos) (TTs G W (tVal (eOp oEq fa fb))) := xt_cmp (by have := om_eq (G := G); rw [at_.K] at this; exact this) (op_eq.or (op_eqD at_.room.units)) ha hb (nomark _)
theorem xt_ne (at_ : At X G W k) (ha : PE X a (T G W fa)) (hb : PE X b (T G W fb)) : PT X (.Compare a [.NotEq] [b] pos) (TTs G W (tVal (eOp oNe fa fb))) := xt_cmp (by have := om_ne (G := G); rw [at_.K] at this; exact this) (op_ne.or (op_neD at_.room.units)) ha hb (nomark _)
theorem xt_is0 (ha : PE X a (T G W fa)) (hb : PE X b (T G W fb)) : PT X (.Compare a [.Is] [b] pos) (TTs G W (tVal (eOp oIs0 fa fb))) := xt_cmp om_isN op_isN ha hb (nomark _)
theorem xt_not0 (ha : PE X a (T G W fa)) (hb : PE X b (T G W fb)) : PT X (.Compare a [.IsNot] [b] pos) (TTs G W (tVal (eOp oNot0 fa fb))) := xt_cmp om_notN op_notN ha hb (nomark _)
variable {fc : Ev} {c1 : Expr} {e : Expr} {es : List Expr} {fs : Evs}
theorem x_lele (ha : PE X a (T G W fa)) (hb : PE X b (T G W fb)) (hc : PE X c1 (T G W fc)) (hm : lastMarks [.LtE, .LtE] [b, c1] = false := by with_unfolding_all rfl) : PE X (.Compare a [.LtE, .LtE] [b, c1] pos) (T G W (eChain oLe oLe fa fb fc)) := xe_chain om_cmp om_cmp op_le op_le ha hb hc hm
theorem x_len (hm : X.mg "len" = none) (ha : PA X (e :: es) (TAs G W fs)) (hK : G.K = X.K := by rfl) (hgl : Gl X "len" := by rfl) (he : starEach (e :: es) X.env = (false, eval e X.env) :: starEach es X.env := by rfl)
    (hpl : (backTo pos (starEach es X.env)).any (·.1) = false := by rfl) : PE X (.Call (.Name "len" p) (e :: es) [] pos) (T G W (eCall bLen fs)) := xe_callB (by have := am_len (G := G); rw [hK] at this; exact this) call_len hm PySem.boot_len ha hgl (by decide) (by decide) he hpl
theorem x_isi (hm : X.mg "isinstance" = none) (ha : PA X (e :: es) (TAs G W fs)) (hK : G.K = X.K := by rfl) (hgl : Gl X "isinstance" := by rfl) (he : starEach (e :: es) X.env = (false, eval e X.env) :: starEach es X.env := by rfl)
    (hpl : (backTo pos (starEach es X.env)).any (·.1) = false := by rfl) : PE X (.Call (.Name "isinstance" p) (e :: es) [] pos) (T G W (eCall bIsi fs)) := xe_callB (by have := am_isi (G := G); rw [hK] at this; exact this) call_isi hm (by decide +kernel) ha hgl (by decide) (by decide) he hpl
theorem x_tuple (hm : X.mg "tuple" = none) (ha : PA X (e :: es) (TAs G W fs)) (hK : G.K = X.K := by rfl) (hgl : Gl X "tuple" := by rfl) (he : starEach (e :: es) X.env = (false, eval e X.env) :: starEach es X.env := by rfl)
    (hpl : (backTo pos (starEach es X.env)).any (·.1) = false := by rfl) : PE X (.Call (.Name "tuple" p) (e :: es) [] pos) (T G W (eCall bTuple fs)) := xe_callTy (by have := am_tuple (G := G); rw [hK] at this; exact this) call_tuple_of hm (by decide +kernel) ha hgl (by decide) (by decide) he hpl
theorem x_list (hm : X.mg "list" = none) (ha : PA X (e :: es) (TAs G W fs)) (hK : G.K = X.K := by rfl) (hgl : Gl X "list" := by rfl) (he : starEach (e :: es) X.env = (false, eval e X.env) :: starEach es X.env := by rfl)
    (hpl : (backTo pos (starEach es X.env)).any (·.1) = false := by rfl) : PE X (.Call (.Name "list" p) (e :: es) [] pos) (T G W (eCall bList fs)) := xe_callTy (by have := am_list (G := G); rw [hK] at this; exact this) call_list_of hm (by decide +kernel) ha hgl (by decide) (by decide) he hpl
theorem x_abs (hm : X.mg "abs" = none) (ha : PA X (e :: es) (TAs G W fs)) (hgl : Gl X "abs" := by rfl) (he : starEach (e :: es) X.env = (false, eval e X.env) :: starEach es X.env := by rfl)
    (hpl : (backTo pos (starEach es X.env)).any (·.1) = false := by rfl) : PE X (.Call (.Name "abs" p) (e :: es) [] pos) (T G W (eCall bAbs fs)) := xe_callB am_abs call_abs hm (by decide +kernel) ha hgl (by decide) (by decide) he hpl
end
/-- what is known of an own class of errors -/
def XFact (K : PySem.W.Frag) (mg : Str → Option Value) (x : Str) (C : Addr) : Prop :=
  PySem.W.excIn K C [.type "ValueError", .type "Exception", .type "BaseException", .type "object"] "ValueError.__new__" = true ∧ mg x = some (.ref C) ∧ PySem.W.keepIn K (.ref C) = true ∧ PySem.W.subIn K (.ref C) (.type "BaseException") = some true ∧ PySem.W.typeIn K (.ref C) = some (.type "type")
/-! ## 20. A clause with a name, whose suite only tells a constant -/
end Tw
end
section
set_option Elab.async false
set_option maxRecDepth 100000
set_option maxHeartbeats 3000000
set_option autoImplicit true
set_option linter.all false
set_option relaxedAutoImplicit true
namespace Tw
open PySem L2
/-! ## 23. What a run comes to -/
def Wp {α : Type} (m : M α) (S : Store) (Q : α → Store → Prop) (E : Str → Store → Prop) : Prop := match m S with
  | some (.ok a S1) => Q a S1
  | some (.er c S1) => E c S1
  | none => False
structure Dk where
  nx : Rho → Store → Prop
  rt : Vl → Store → Prop
  bk : Rho → Store → Prop
  ct : Rho → Store → Prop
  er : Str → Rho → Store → Prop
def Ws (m : Option SR) (D : Dk) : Prop := match m with
  | some (.ok (.nx ρ) S) => D.nx ρ S
  | some (.ok (.rt v) S) => D.rt v S
  | some (.ok (.bk ρ) S) => D.bk ρ S
  | some (.ok (.ct ρ) S) => D.ct ρ S
  | some (.er c ρ S) => D.er c ρ S
  | none => False
theorem Wp.imp {α : Type} {m : M α} {S} {Q Q' : α → Store → Prop} {E E' : Str → Store → Prop} (h : Wp m S Q E) (i : ∀ a S1, Q a S1 → Q' a S1) (j : ∀ c S1, E c S1 → E' c S1 := by intro _ _ z; exact z) : Wp m S Q' E' := by
  unfold Wp at *
  split <;> simp_all
theorem Ws.imp {m : Option SR} {D D' : Dk} (h : Ws m D) (i1 : ∀ ρ S, D.nx ρ S → D'.nx ρ S := by intro _ _ z; exact z) (i2 : ∀ ρ S, D.rt ρ S → D'.rt ρ S := by intro _ _ z; exact z) (i3 : ∀ ρ S, D.bk ρ S → D'.bk ρ S := by intro _ _ z; exact z)
    (i4 : ∀ ρ S, D.ct ρ S → D'.ct ρ S := by intro _ _ z; exact z) (i5 : ∀ c ρ S, D.er c ρ S → D'.er c ρ S := by intro _ _ _ z; exact z) : Ws m D' := by
  unfold Ws at *
  split <;> simp_all
theorem wp_of {α : Type} {m : M α} {S S1 : Store} {a : α} {Q : α → Store → Prop} {E : Str → Store → Prop} (e : m S = some (.ok a S1)) : Wp m S Q E ↔ Q a S1 := by
  unfold Wp; rw [e]
theorem wp_eq {α : Type} {m : M α} {S S1 : Store} {a : α} {E : Str → Store → Prop} (h : Wp m S (fun b S2 => b = a ∧ S2 = S1) E) (hE : ∀ c S, ¬ E c S) : m S = some (.ok a S1) := by
  unfold Wp at h
  split at h
  · next e => obtain ⟨rfl, rfl⟩ := h; exact e
  · exact absurd h (hE _ _)
  · exact h.elim
theorem wp_get {α : Type} {m : M α} {S : Store} {Q : α → Store → Prop} {E : Str → Store → Prop} (h : Wp m S Q E) (hE : ∀ c S, ¬ E c S) : ∃ a S1, m S = some (.ok a S1) ∧ Q a S1 := by
  unfold Wp at h
  split at h
  · next e => exact ⟨_, _, e, h⟩
  · exact absurd h (hE _ _)
  · exact h.elim
section
variable {α β : Type} {S : Store} {Q : α → Store → Prop} {R : Vl → Store → Prop} {E : Str → Store → Prop} {ρ : Rho} {D : Dk}
theorem wp_ret {a : α} : Wp (ret a) S Q E ↔ Q a S := Iff.rfl
theorem wp_stuck : Wp (stuck : M α) S Q E ↔ False := Iff.rfl
theorem wp_bnd {m : M β} {f : β → M α} : Wp (bnd m f) S Q E ↔ Wp m S (fun a S1 => Wp (f a) S1 Q E) E := by
  unfold Wp bnd
  cases m S with
  | none => rfl
  | some r => cases r <;> rfl
theorem wp_ifs {c : Prop} [Decidable c] {m : M α} : Wp (if c then m else stuck) S Q E ↔ c ∧ Wp m S Q E := by
  by_cases h : c
  · rw [if_pos h]; exact ⟨fun z => ⟨h, z⟩, fun z => z.2⟩
  · rw [if_neg h]; exact ⟨fun z => z.elim, fun z => h z.1⟩
theorem wp_newL {xs : List Vl} : Wp (newL xs) S R E ↔ xs.length ≤ line ∧ R (.loc S.length) (S ++ [.lst xs]) := by
  unfold Wp newL
  by_cases h : xs.length ≤ line
  · rw [if_pos h]; exact ⟨fun z => ⟨h, z⟩, fun z => z.2⟩
  · rw [if_neg h]; exact ⟨fun z => z.elim, fun z => h z.1⟩
theorem wp_getL {n : Nat} {Q : List Vl → Store → Prop} : Wp (getL (.loc n)) S Q E ↔ ∃ xs, S[n]? = some (.lst xs) ∧ Q xs S := by
  cases h : S[n]? with
  | none => simp [Wp, getL, h]
  | some o => cases o <;> simp [Wp, getL, h]
/-! ### expressions -/
theorem wp_var {i : Nat} : Wp (eVar i ρ) S R E ↔ ∃ x, ρ[i]? = some (some x) ∧ R x S := by
  unfold eVar
  constructor
  · intro h
    split at h
    · rename_i x e; exact ⟨x, e, h⟩
    · exact h.elim
  · rintro ⟨x, e, h⟩
    rw [e]; exact h
theorem wp_c {v : Vl} : Wp (eC v ρ) S R E ↔ R v S := Iff.rfl
theorem wp_op {g : Vl → Vl → M Vl} {a b : Ev} : Wp (eOp g a b ρ) S R E ↔ Wp (a ρ) S (fun x S1 => Wp (b ρ) S1 (fun y S2 => Wp (g x y) S2 R E) E) E := by simp only [eOp, wp_bnd]
theorem wp_un {g : Vl → M Vl} {a : Ev} : Wp (eUn g a ρ) S R E ↔ Wp (a ρ) S (fun x S1 => Wp (g x) S1 R E) E := by simp only [eUn, wp_bnd]
theorem wp_tval {a : Ev} {Q : Bool → Store → Prop} : Wp (tVal a ρ) S Q E ↔ Wp (a ρ) S (fun x S1 => ∃ b, x = .bl b ∧ Q b S1) E := by
  unfold tVal; rw [wp_bnd]
  have : ∀ x S1, Wp (asB x) S1 Q E ↔ ∃ b, x = .bl b ∧ Q b S1 := by
    intro x S1
    cases x <;> simp [asB, wp_ret, wp_stuck]
  simp only [this]
theorem wp_tand {a b : Tv} {Q : Bool → Store → Prop} : Wp (tAnd a b ρ) S Q E ↔ Wp (a ρ) S (fun c S1 => Wp (if c = true then b ρ else ret false) S1 Q E) E := by simp only [tAnd, wp_bnd]
theorem wp_tor {a b : Tv} {Q : Bool → Store → Prop} : Wp (tOr a b ρ) S Q E ↔ Wp (a ρ) S (fun c S1 => Wp (if c = true then ret true else b ρ) S1 Q E) E := by simp only [tOr, wp_bnd]
theorem wp_tnot {a : Tv} {Q : Bool → Store → Prop} : Wp (tNot a ρ) S Q E ↔ Wp (a ρ) S (fun c S1 => Q (!c) S1) E := by simp only [tNot, wp_bnd, wp_ret]
theorem wp_asB {x : Vl} {Q : Bool → Store → Prop} : Wp (asB x) S Q E ↔ ∃ b, x = .bl b ∧ Q b S := by cases x <;> simp [asB, wp_ret, wp_stuck]
theorem wp_and {a b : Ev} : Wp (eAnd a b ρ) S R E ↔ Wp (a ρ) S (fun x S1 => ∃ c, x = .bl c ∧ Wp (if c = true then b ρ else ret (.bl false)) S1 R E) E := by simp only [eAnd, wp_bnd, wp_asB]
theorem wp_or {a b : Ev} : Wp (eOr a b ρ) S R E ↔ Wp (a ρ) S (fun x S1 => ∃ c, x = .bl c ∧ Wp (if c = true then ret (.bl true) else b ρ) S1 R E) E := by simp only [eOr, wp_bnd, wp_asB]
theorem wp_not {a : Ev} : Wp (eNot a ρ) S R E ↔ Wp (a ρ) S (fun x S1 => ∃ c, x = .bl c ∧ R (.bl !c) S1) E := by simp only [eNot, wp_bnd, wp_asB, wp_ret]
theorem wp_ifE {t : Tv} {a b : Ev} : Wp (eIf t a b ρ) S R E ↔ Wp (t ρ) S (fun c S1 => Wp (if c = true then a ρ else b ρ) S1 R E) E := by simp only [eIf, wp_bnd]
theorem wp_chain {f g : Vl → Vl → M Vl} {a b c : Ev} : Wp (eChain f g a b c ρ) S R E ↔ Wp (a ρ) S (fun x S1 => Wp (b ρ) S1 (fun y S2 => Wp (f x y) S2 (fun z S3 => ∃ k, z = .bl k ∧ Wp (if k = true then bnd (c ρ) fun w => g y w else ret (.bl false)) S3 R E) E) E) E := by simp only [eChain, wp_bnd, wp_asB]
theorem wp_nil {Q : List Vl → Store → Prop} : Wp (aNil ρ) S Q E ↔ Q [] S := Iff.rfl
theorem wp_cons {a : Ev} {r : Evs} {Q : List Vl → Store → Prop} : Wp (aCons a r ρ) S Q E ↔ Wp (a ρ) S (fun x S1 => Wp (r ρ) S1 (fun xs S2 => Q (x :: xs) S2) E) E := by simp only [aCons, wp_bnd, wp_ret]
theorem wp_tup {r : Evs} : Wp (eTup r ρ) S R E ↔ Wp (r ρ) S (fun xs S1 => xs.length ≤ line ∧ R (.tup xs) S1) E := by simp only [eTup, wp_bnd, wp_ifs, wp_ret]
theorem wp_lst {r : Evs} : Wp (eLst r ρ) S R E ↔ Wp (r ρ) S (fun xs S1 => xs.length ≤ line ∧ R (.loc S1.length) (S1 ++ [.lst xs])) E := by simp only [eLst, wp_bnd, wp_newL]
theorem wp_dct : Wp (eDct ρ) S R E ↔ R (.loc S.length) (S ++ [.dct]) := Iff.rfl
theorem wp_call {f : List Vl → M Vl} {r : Evs} : Wp (eCall f r ρ) S R E ↔ Wp (r ρ) S (fun xs S1 => Wp (f xs) S1 R E) E := by simp only [eCall, wp_bnd]
theorem wp_app {a b : Ev} : Wp (eApp a b ρ) S R E ↔ Wp (a ρ) S (fun x S1 => ∃ n, x = .loc n ∧ ∃ xs, S1[n]? = some (.lst xs) ∧ Wp (b ρ) S1 (fun y S2 => Wp (mAppend x y) S2 R E) E) E := by
  unfold eApp; rw [wp_bnd]
  have : ∀ x S1 (P : Store → Prop), Wp (isL x) S1 (fun _ => P) E ↔ ∃ n, x = .loc n ∧ ∃ xs, S1[n]? = some (.lst xs) ∧ P S1 := by
    intro x S1 P
    cases x with
    | loc n =>
      cases h : S1[n]? with
      | none => simp [Wp, isL, h]
      | some o => cases o <;> simp [Wp, isL, h]
    | _ => simp [Wp, isL]
  simp only [wp_bnd, this]
theorem wp_append {n : Nat} {y : Vl} : Wp (mAppend (.loc n) y) S R E ↔ ∃ xs, S[n]? = some (.lst xs) ∧ xs.length < line ∧ R .non (S.set n (.lst (xs ++ [y]))) := by
  cases h : S[n]? with
  | none => simp [Wp, mAppend, h]
  | some o => cases o with
    | dct => simp [Wp, mAppend, h]
    | lst xs => by_cases hl : xs.length < line <;> simp [Wp, mAppend, h, hl]
theorem wp_ixL {n : Nat} {i : Int} : Wp (oIx (.loc n) (.int i)) S R E ↔ ∃ xs, S[n]? = some (.lst xs) ∧ ∃ v, atI xs i = some v ∧ R v S := by
  have h0 : oIx (.loc n) (.int i) = bnd (getL (.loc n)) fun xs => match atI xs i with | some v => ret v | none => stuck := rfl
  rw [h0, wp_bnd, wp_getL]
  constructor
  · rintro ⟨xs, e, h⟩
    refine ⟨xs, e, ?_⟩
    split at h
    · rename_i v q; exact ⟨v, q, h⟩
    · exact h.elim
  · rintro ⟨xs, e, v, q, h⟩
    refine ⟨xs, e, ?_⟩
    rw [q]; exact h
theorem wp_ixT {xs : List Vl} {i : Int} : Wp (oIx (.tup xs) (.int i)) S R E ↔ ∃ v, atI xs i = some v ∧ R v S := by
  have h0 : oIx (.tup xs) (.int i) = match atI xs i with | some v => ret v | none => stuck := rfl
  rw [h0]
  constructor
  · intro h
    split at h
    · rename_i v q; exact ⟨v, q, h⟩
    · exact h.elim
  · rintro ⟨v, q, h⟩
    rw [q]; exact h
theorem wp_put {n : Nat} {k : Int} {v : Vl} {Q : Unit → Store → Prop} : Wp (mPut (.loc n) (.int k) v) S Q E ↔ ∃ xs, S[n]? = some (.lst xs) ∧ ∃ j, ixN xs.length k = some j ∧ Q () (S.set n (.lst (xs.set j v))) := by
  cases h : S[n]? with
  | none => simp [Wp, mPut, h]
  | some o => cases o with
    | dct => simp [Wp, mPut, h]
    | lst xs => cases hl : ixN xs.length k <;> simp [Wp, mPut, h, hl]
theorem wp_sl {a : Ev} {lo hi : Evo} : Wp (eSl a lo hi ρ) S R E ↔ Wp (a ρ) S (fun x S1 => Wp (lo ρ) S1 (fun l S2 => Wp (hi ρ) S2 (fun h S3 => Wp (oSl x l h) S3 R E) E) E) E := by simp only [eSl, wp_bnd]
theorem wp_pn {Q : Option Int → Store → Prop} : Wp (pNone ρ) S Q E ↔ Q none S := Iff.rfl
theorem wp_ps {a : Ev} {Q : Option Int → Store → Prop} : Wp (pSome a ρ) S Q E ↔ Wp (a ρ) S (fun x S1 => ∃ i, x = .int i ∧ Q (some i) S1) E := by
  unfold pSome; rw [wp_bnd]
  have : ∀ x S1, Wp (asI x) S1 Q E ↔ ∃ b, x = .int b ∧ Q (some b) S1 := by
    intro x S1
    cases x <;> simp [asI, wp_ret, wp_stuck]
  simp only [this]
theorem wp_slT {xs : List Vl} {l h : Option Int} : Wp (oSl (.tup xs) l h) S R E ↔ R (.tup (cut xs l h)) S := Iff.rfl
/-! operators on known things -/
theorem wp_addI {i j : Int} : Wp (oAdd (.int i) (.int j)) S R E ↔ R (.int (i + j)) S := Iff.rfl
theorem wp_addT {a b : List Vl} : Wp (oAdd (.tup a) (.tup b)) S R E ↔ a.length + b.length ≤ line ∧ R (.tup (a ++ b)) S := by simp only [oAdd, wp_ifs, wp_ret]
theorem wp_sub {i j : Int} : Wp (oSub (.int i) (.int j)) S R E ↔ R (.int (i - j)) S := Iff.rfl
theorem wp_mul {i j : Int} : Wp (oMul (.int i) (.int j)) S R E ↔ i.natAbs.log2 + j.natAbs.log2 < 1000000 ∧ R (.int (i * j)) S := by simp only [oMul, wp_ifs, wp_ret]
theorem wp_mulT {a : List Vl} {k : Int} : Wp (oMul (.tup a) (.int k)) S R E ↔ (a ≠ [] ∧ 2 ≤ k ∧ k ≤ 1000 ∧ a.length ≤ 1000) ∧ R (.tup (List.replicate k.toNat a).flatten) S := by simp only [oMul, wp_ifs, wp_ret]
theorem wp_div {i j : Int} : Wp (oDiv (.int i) (.int j)) S R E ↔ (j ≠ 0 ∧ j.natAbs.log2 < 9000) ∧ R (.int (i.fdiv j)) S := by simp only [oDiv, wp_ifs, wp_ret]
theorem wp_mod {i j : Int} : Wp (oMod (.int i) (.int j)) S R E ↔ j ≠ 0 ∧ R (.int (i.fmod j)) S := by simp only [oMod, wp_ifs, wp_ret]
theorem wp_pow {i j : Int} : Wp (oPow (.int i) (.int j)) S R E ↔ (0 ≤ j ∧ j ≤ 1000000 ∧ i.natAbs < 2 ^ 64) ∧ R (.int (i ^ j.toNat)) S := by simp only [oPow, wp_ifs, wp_ret]
theorem wp_neg {i : Int} : Wp (oNeg (.int i)) S R E ↔ R (.int (-i)) S := Iff.rfl
theorem wp_cmp {p : Int → Int → Bool} {i j : Int} : Wp (oCmp p (.int i) (.int j)) S R E ↔ R (.bl (p i j)) S := Iff.rfl
theorem wp_eqI {i j : Int} : Wp (oEq (.int i) (.int j)) S R E ↔ R (.bl (decide (i = j))) S := Iff.rfl
theorem wp_neI {i j : Int} : Wp (oNe (.int i) (.int j)) S R E ↔ R (.bl (!decide (i = j))) S := Iff.rfl
theorem wp_eqS {a b : Str} : Wp (oEq (.str a) (.str b)) S R E ↔ R (.bl (decide (a = b))) S := Iff.rfl
theorem wp_neS {a b : Str} : Wp (oNe (.str a) (.str b)) S R E ↔ R (.bl (!decide (a = b))) S := Iff.rfl
theorem wp_is0 {x : Vl} : Wp (oIs0 x .non) S R E ↔ R (.bl (match x with | .non => true | _ => false)) S := Iff.rfl
theorem wp_not0 {x : Vl} : Wp (oNot0 x .non) S R E ↔ R (.bl (match x with | .non => false | _ => true)) S := Iff.rfl
theorem wp_isB {a b : Bool} : Wp (oIsB (.bl a) (.bl b)) S R E ↔ R (.bl (decide (a = b))) S := Iff.rfl
theorem wp_notB {a b : Bool} : Wp (oNotB (.bl a) (.bl b)) S R E ↔ R (.bl (!decide (a = b))) S := Iff.rfl
theorem wp_lenT {xs : List Vl} : Wp (bLen [.tup xs]) S R E ↔ xs.length ≤ line ∧ R (.int xs.length) S := by
  show Wp (if xs.length ≤ line then ret (Vl.int xs.length) else stuck) S R E ↔ _
  simp only [wp_ifs, wp_ret]
theorem wp_lenL {n : Nat} : Wp (bLen [.loc n]) S R E ↔ ∃ xs, S[n]? = some (.lst xs) ∧ R (.int xs.length) S := by
  show Wp (bnd (getL (.loc n)) fun xs => ret (Vl.int xs.length)) S R E ↔ _
  rw [wp_bnd, wp_getL]; rfl
theorem wp_tupT {xs : List Vl} : Wp (bTuple [.tup xs]) S R E ↔ R (.tup xs) S := Iff.rfl
theorem wp_tupL {n : Nat} : Wp (bTuple [.loc n]) S R E ↔ ∃ xs, S[n]? = some (.lst xs) ∧ R (.tup xs) S := by
  show Wp (bnd (getL (.loc n)) fun xs => ret (Vl.tup xs)) S R E ↔ _
  rw [wp_bnd, wp_getL]; rfl
theorem wp_lstT {xs : List Vl} : Wp (bList [.tup xs]) S R E ↔ xs.length ≤ line ∧ xs.length ≤ line ∧ R (.loc S.length) (S ++ [.lst xs]) := by
  show Wp (if xs.length ≤ line then newL xs else stuck) S R E ↔ _
  simp only [wp_ifs, wp_newL]
/-! ### statements -/
theorem ws_next : Ws (sNext ρ S) D ↔ D.nx ρ S := Iff.rfl
theorem ws_brk : Ws (sBrk ρ S) D ↔ D.bk ρ S := Iff.rfl
theorem ws_cont : Ws (sCont ρ S) D ↔ D.ct ρ S := Iff.rfl
theorem ws_seq {a b : Sv} : Ws (sSeq a b ρ S) D ↔ Ws (a ρ S) { D with nx := fun ρ1 S1 => Ws (b ρ1 S1) D } := by
  unfold sSeq
  cases h : a ρ S with
  | none => rfl
  | some r => cases r with
    | ok f S1 => cases f <;> rfl
    | er c ρ1 S1 => rfl
theorem ws_bnd {α : Type} {m : M α} {k : α → Store → Option SR} : Ws (sBnd m ρ k S) D ↔ Wp m S (fun a S1 => Ws (k a S1) D) (fun c S1 => D.er c ρ S1) := by
  unfold sBnd Wp
  cases m S with
  | none => rfl
  | some r => cases r <;> rfl
theorem ws_expr {f : Ev} : Ws (sExpr f ρ S) D ↔ Wp (f ρ) S (fun _ S1 => D.nx ρ S1) (fun c S1 => D.er c ρ S1) := by unfold sExpr; rw [ws_bnd]; rfl
theorem ws_ret {f : Ev} : Ws (sRet f ρ S) D ↔ Wp (f ρ) S D.rt (fun c S1 => D.er c ρ S1) := by unfold sRet; rw [ws_bnd]; rfl
theorem ws_retN : Ws (sRetN ρ S) D ↔ D.rt .non S := Iff.rfl
theorem ws_if {t : Tv} {a b : Sv} : Ws (sIf t a b ρ S) D ↔ Wp (t ρ) S (fun c S1 => Ws (if c = true then a ρ S1 else b ρ S1) D) (fun c S1 => D.er c ρ S1) := by
  unfold sIf; rw [ws_bnd]
  have : ∀ (c : Bool) S1, Ws ((if c = true then a ρ else b ρ) S1) D ↔ Ws (if c = true then a ρ S1 else b ρ S1) D := by intro c S1; cases c <;> rfl
  simp only [this]
theorem ws_set {i : Nat} {f : Ev} : Ws (sSet i f ρ S) D ↔ Wp (f ρ) S (fun v S1 => D.nx (ρ.set i (some v)) S1) (fun c S1 => D.er c ρ S1) := by unfold sSet sAsg; rw [ws_bnd]; rfl
theorem ws_asg {g : Tg} {f : Ev} : Ws (sAsg f g ρ S) D ↔ Wp (f ρ) S (fun v S1 => ∃ ρ1, g v ρ = some ρ1 ∧ D.nx ρ1 S1) (fun c S1 => D.er c ρ S1) := by
  unfold sAsg; rw [ws_bnd]
  refine iff_of_eq (congrArg (fun q => Wp (f ρ) S q _) (funext fun v => funext fun S1 => propext ?_))
  cases g v ρ <;> simp [Ws]
theorem ws_put {fo fi fe : Ev} : Ws (sPut fo fi fe ρ S) D ↔ Wp (fe ρ) S (fun v S1 => Wp (fo ρ) S1 (fun o S2 => Wp (fi ρ) S2 (fun i S3 => Wp (mPut o i v) S3 (fun _ S4 => D.nx ρ S4) (fun c S1 => D.er c ρ S1)) (fun c S1 => D.er c ρ S1)) (fun c S1 => D.er c ρ S1)) (fun c S1 => D.er c ρ S1) := by
  unfold sPut; simp only [ws_bnd]; rfl
theorem ws_raise {c : Str} : Ws (sRaise c ρ S) D ↔ D.er c ρ S := Iff.rfl
theorem ws_try1 {b h : Sv} {t : Str → Option Bool} : Ws (sTry b [(t, h)] ρ S) D ↔ Ws (b ρ S) { D with er := fun c ρ1 S1 => Ws (hand [(t, h)] c ρ1 S1) D } := by
  unfold sTry
  cases q : b ρ S with
  | none => rfl
  | some r => cases r with
    | ok f S1 => cases f <;> rfl
    | er c ρ1 S1 => rfl
theorem wp_fn {ar n : Nat} {b : Sv} {xs : List Vl} : Wp (fnM ar n b xs) S R E ↔ xs.length = ar ∧ Ws (b (xs.map some ++ List.replicate (n - xs.length) none) S) ⟨fun _ S1 => R .non S1, R, fun _ _ => False, fun _ _ => False, fun c _ S1 => E c S1⟩ := by
  unfold Wp fnM
  by_cases h : xs.length = ar
  · simp only [if_pos h, h, true_and]
    generalize b _ S = r
    cases r with
    | none => rfl
    | some r => cases r with
      | ok f S1 => cases f <;> rfl
      | er c ρ1 S1 => rfl
  · simp [h]
/-! ### loops -/
theorem ws_loopAt {g : Tg} {b : Sv} {J : Nat → Rho → Store → Prop} {D : Dk} : ∀ (xs : List Vl) (k : Nat) (ρ : Rho) (S : Store), J k ρ S →
    (∀ i x ρ S, xs[i]? = some x → J (k + i) ρ S → ∃ ρ0, g x ρ = some ρ0 ∧ Ws (b ρ0 S) ⟨J (k + i + 1), D.rt, D.nx, J (k + i + 1), D.er⟩) → (∀ ρ S, J (k + xs.length) ρ S → D.nx ρ S) → Ws (loop g b xs ρ S) D
  | [], k, ρ, S, h0, hs, he => he ρ S h0
  | x :: xs, k, ρ, S, h0, hs, he => by
    obtain ⟨ρ0, e, h⟩ := hs 0 x ρ S rfl h0
    have go : ∀ ρ1 S1, J (k + 1) ρ1 S1 → Ws (loop g b xs ρ1 S1) D := fun ρ1 S1 h1 => ws_loopAt xs (k + 1) ρ1 S1 h1
      (fun i y ρ S hy hj => by have := hs (i + 1) y ρ S (by simpa using hy) (by rw [show k + (i + 1) = k + 1 + i by omega]; exact hj); rw [show k + (i + 1) = k + 1 + i by omega] at this; exact this)
      (fun ρ S hj => he ρ S (by rw [show k + (x :: xs).length = k + 1 + xs.length by simp; omega]; exact hj))
    unfold loop
    simp only [e]
    revert h
    cases b ρ0 S with
    | none => intro h; exact h
    | some r => cases r with
      | ok f S1 => cases f with
        | nx ρ1 => exact go ρ1 S1
        | ct ρ1 => exact go ρ1 S1
        | bk ρ1 => intro h; exact h
        | rt v => intro h; exact h
      | er c ρ1 S1 => intro h; exact h
theorem ws_loop {g : Tg} {b : Sv} {xs : List Vl} (J : Nat → Rho → Store → Prop) (h0 : J 0 ρ S) (hs : ∀ i x ρ S, xs[i]? = some x → J i ρ S → ∃ ρ0, g x ρ = some ρ0 ∧ Ws (b ρ0 S) ⟨J (i + 1), D.rt, D.nx, J (i + 1), D.er⟩)
    (he : ∀ ρ S, J xs.length ρ S → D.nx ρ S) : Ws (loop g b xs ρ S) D :=
  ws_loopAt xs 0 ρ S h0 (fun i x ρ S hx hj => by rw [Nat.zero_add] at hj ⊢; exact hs i x ρ S hx hj) (fun ρ S hj => he ρ S (by rw [Nat.zero_add] at hj; exact hj))
theorem irange_get {lo : Int} {n i : Nat} {x : Vl} (h : (irange lo n)[i]? = some x) : i < n ∧ x = .int (lo + i) := by
  unfold irange at h
  rw [List.getElem?_map] at h
  by_cases hi : i < n
  · rw [List.getElem?_range hi] at h
    exact ⟨hi, (Option.some.inj h).symm⟩
  · rw [List.getElem?_eq_none (by simp; omega)] at h
    cases h
theorem irange_len {lo : Int} {n : Nat} : (irange lo n).length = n := by simp [irange]
theorem ws_range {g : Tg} {b : Sv} {lo : Int} {n : Nat} (J : Nat → Rho → Store → Prop) (h0 : J 0 ρ S) (hs : ∀ i ρ S, i < n → J i ρ S → ∃ ρ0, g (.int (lo + i)) ρ = some ρ0 ∧ Ws (b ρ0 S) ⟨J (i + 1), D.rt, D.nx, J (i + 1), D.er⟩)
    (he : ∀ ρ S, J n ρ S → D.nx ρ S) : Ws (loop g b (irange lo n) ρ S) D :=
  ws_loop J h0 (fun i x ρ S hx hj => by obtain ⟨hi, rfl⟩ := irange_get hx; exact hs i ρ S hi hj) (fun ρ S hj => he ρ S (by rw [irange_len] at hj; exact hj))
theorem ws_for1 {f : Ev} {g : Tg} {b : Sv} : Ws (sForR1 f g b ρ S) D ↔ Wp (f ρ) S (fun x S1 => ∃ j, x = .int j ∧ (-(2 ^ 62) ≤ j ∧ j < 2 ^ 62) ∧ Ws (loop g b (irange 0 j.toNat) ρ S1) D) (fun c S1 => D.er c ρ S1) := by
  unfold sForR1; rw [ws_bnd]
  refine iff_of_eq (congrArg (fun q => Wp (f ρ) S q _) (funext fun x => funext fun S1 => propext ?_))
  cases x with
  | int j =>
    show Ws ((if -(2 ^ 62) ≤ j ∧ j < 2 ^ 62 then loop g b (irange 0 j.toNat) ρ else fun _ => none) S1) D ↔ _
    by_cases h : -(2 ^ 62) ≤ j ∧ j < 2 ^ 62
    · rw [if_pos h]; exact ⟨fun z => ⟨j, rfl, h, z⟩, fun ⟨_, e, _, z⟩ => by cases e; exact z⟩
    · rw [if_neg h]; exact ⟨fun z => z.elim, fun ⟨_, e, z, _⟩ => by cases e; exact (h z).elim⟩
  | _ => exact ⟨fun z => z.elim, fun ⟨_, e, _⟩ => nomatch e⟩
theorem ws_forF {f : Ev} {g : Tg} {b : Sv} {xs : List Vl} (h : Wp (f ρ) S (fun x S1 => (x = .tup xs ∨ x = .frz xs) ∧ Ws (loop g b xs ρ S1) D) (fun c S1 => D.er c ρ S1)) : Ws (sFor f g b ρ S) D := by
  unfold sFor; rw [ws_bnd]
  refine h.imp fun x S1 ⟨e, q⟩ => ?_
  rcases e with rfl | rfl <;> exact q
/-! ### all(..), any(..) of a tuple -/
theorem wp_quantT {stop : Bool} {fi fe : Ev} {xs : List Vl} {S1 : Store} {p : Vl → Bool} (hi : fi ρ S = some (.ok (.tup xs) S1)) (he : ∀ x ∈ xs, fe (ρ ++ [some x]) S1 = some (.ok (.bl (p x)) S1)) :
    eQuant stop fi fe ρ S = some (.ok (.bl (if stop = true then xs.any p else xs.all p)) S1) := by
  have go : ∀ ys : List Vl, (∀ x ∈ ys, fe (ρ ++ [some x]) S1 = some (.ok (.bl (p x)) S1)) → quant stop none fe ρ ys S1 = some (.ok (.bl (if stop = true then ys.any p else ys.all p)) S1) := by
    intro ys
    induction ys with
    | nil =>
      intro _
      unfold quant
      rw [if_pos (show okS none S1 from trivial)]
      cases stop <;> rfl
    | cons y ys ih =>
      intro h
      have ih := ih fun x hx => h x (List.mem_cons_of_mem _ hx)
      unfold quant
      rw [if_pos (show okS none S1 from trivial)]
      have e1 : nr (fe (ρ ++ [some y])) S1 = some (.ok (.bl (p y)) S1) := by unfold nr; rw [h y List.mem_cons_self]
      rw [show bnd (nr (fe (ρ ++ [some y]))) (fun y => bnd (asB y) fun c => if c = stop then ret (.bl stop) else quant stop none fe ρ ys) S1 = (bnd (asB (.bl (p y))) fun c => if c = stop then ret (.bl stop) else quant stop none fe ρ ys) S1 by unfold bnd; rw [e1]]
      show (if p y = stop then ret (.bl stop) else quant stop none fe ρ ys) S1 = _
      by_cases hp : p y = stop
      · rw [if_pos hp]
        cases stop <;> simp_all [ret]
      · rw [if_neg hp, ih]
        cases stop <;> simp_all
  unfold eQuant
  unfold bnd
  rw [hi]
  exact go xs he
end
/-! a text's own numbers -/
theorem lgb {n k : Nat} (h : n < 2 ^ k) (hk : 0 < k) : n.log2 < k := by
  by_cases h0 : n = 0
  · subst h0; exact hk
  · exact (Nat.log2_lt h0).2 h
theorem lg40 {i : Int} (h0 : -1099511627776 < i) (h : i < 1099511627776) : i.natAbs.log2 < 40 := lgb (by have : (2:Nat) ^ 40 = 1099511627776 := rfl; omega) (by omega)
end Tw
end
section
set_option Elab.async false
set_option maxRecDepth 100000
set_option maxHeartbeats 3000000
set_option autoImplicit true
set_option linter.all false
set_option relaxedAutoImplicit true
namespace Tw
open PySem L2 PySem.Spec PyProof.Rows
/-! ## 24. The end -/
/-- the heap in which the law begins: the tables, and the script where it is not of the written part -/
noncomputable def H0 (K : PySem.W.Frag) (ts : List Addr) (a : Addr) (so : Obj) (ns : List Int) : Hp := fun b => if b ∈ ts then some (.tbl #[]) else if b = a ∧ K.lookup a = none then some (.frz so (.lst (ns.map V.int))) else none
theorem H0_some {K : PySem.W.Frag} {ts : List Addr} {a : Addr} {so : Obj} {ns : List Int} {b : Addr} {u : HO} (h : H0 K ts a so ns b = some u) : (b ∈ ts ∧ u = .tbl #[]) ∨ (b ∉ ts ∧ b = a ∧ K.lookup a = none ∧ u = .frz so (.lst (ns.map V.int))) := by
  unfold H0 at h
  by_cases h1 : b ∈ ts
  · rw [if_pos h1] at h; exact .inl ⟨h1, (Option.some.inj h).symm⟩
  · rw [if_neg h1] at h
    by_cases h2 : b = a ∧ K.lookup a = none
    · rw [if_pos h2] at h; exact .inr ⟨h1, h2.1, h2.2, (Option.some.inj h).symm⟩
    · rw [if_neg h2] at h; cases h
theorem rvs_ints {G : GG} {μ : List Addr} {H : Hp} : ∀ ns : List Int, Rvs G μ H (ns.map Vl.int) (ns.map V.int)
  | [] => .nil
  | n :: ns => .cons (.int n) (rvs_ints ns)
theorem law_callG {P : Program} {w : World} {K : PySem.W.Frag} {mg mb : Str → Option Value} {k : Nat} {fa a : Addr} {cs : List (Addr × Addr)} {fd : FuncData} {x : Str} {g : List Vl → M Vl} {s₁ : Shared} {vs : List Value} {ns : List Int}
    (KX : K.In s₁.heap) (hns : s₁.heap.Ns mainGlobals mg) (hb : s₁.heap.Ns builtinsNs mb) (hbb : ∀ y : Str, y ≠ "__name__" → mb y = bootBuiltins y)
    (hlim : s₁.heap.NoLimit) (hg : s₁.gens = #[]) (hT : ∀ p ∈ cs, s₁.heap.get? p.2 = some { cls := .none, data := .fields #[] })
    (nT : ∀ p ∈ cs, K.lookup p.2 = none) (C : ∀ p ∈ cs, PySem.W.codeHdIn K p.1 p.2 = true)
    (hbm : ∃ (bm : Addr) (ob : Obj), mg "__builtins__" = some (.ref bm) ∧ bm ≠ builtinsNs ∧ s₁.heap.get? bm = some ob ∧ ob.cls = .type "module" ∧ ob.dict = some builtinsNs ∧ ob.data = .plain)
    (ha : s₁.heap.get? a = some { cls := .type "list", data := .seq vs.toArray }) (hi : IntsAre vs ns) (hl : ns.length ≤ sizeLine) (hr : Room k callerA)
    (F : ∀ base : Heap, K.In base → base.Ns mainGlobals mg → (∀ p ∈ cs, GxR.TabB base mg p.1 p.2) → FnG P w K mg base k fa fd [x] (spM ⟨K, mg, cs.map (·.2)⟩ g))
    (hbind : ∀ (s : Shared) (u : Value), BindsTo s fd ⟨[u], []⟩ [(x, u)]) (run : ∃ S', g [.frz (ns.map .int)] [] = some (.ok (.bl true) S')) :
    codeAny (model P w) callerA (.call (.ref fa) ⟨[.ref a], []⟩) (fun r s' => r = .ok (.ret (.bool true)) ∧ OldK s₁.heap s'.heap ∧ s'.os = s₁.os ∧ AllBare s'.gens) s₁ := by
  have vl := vals_ints hi
  have lv := hi.length
  generalize hso : ({ cls := .type "list", data := .seq vs.toArray } : Obj) = so at ha
  have sod : so.data = .seq vs.toArray := by rw [← hso]
  have tget : ∀ b, b ∈ cs.map (·.2) → s₁.heap.get? b = some { cls := .none, data := .fields #[] } ∧ K.lookup b = none := fun b hb' => by
    obtain ⟨p, hp, rfl⟩ := List.mem_map.mp hb'
    exact ⟨hT p hp, nT p hp⟩
  generalize hH : H0 K (cs.map (·.2)) a so ns = H
  have hHs : ∀ {b u}, H b = some u → (b ∈ cs.map (·.2) ∧ u = .tbl #[]) ∨ (b ∉ cs.map (·.2) ∧ b = a ∧ K.lookup a = none ∧ u = .frz so (.lst (ns.map V.int))) := fun {b u} q => H0_some (by rw [hH]; exact q)
  -- what stands in the heap, and is neither a table nor the script, is not tracked
  have plainH : ∀ {b : Addr} {o : Obj}, s₁.heap.get? b = some o → o.data ≠ .fields #[] → (∀ us n, o.data ≠ .seq us n) → H b = none := fun {b o} e n1 n2 => by
    cases q : H b with
    | none => rfl
    | some u =>
      rcases hHs q with ⟨hm, _⟩ | ⟨_, rfl, _⟩
      · have := (tget b hm).1; rw [e] at this; cases this; exact absurd rfl n1
      · rw [ha] at e; cases e; exact absurd sod (n2 _ _)
  have dictH : ∀ {b : Addr} {m : Str → Option Value}, s₁.heap.Ns b m → (hidT s₁.heap H).Ns b m := fun {b m} hN => by
    obtain ⟨o, es, ep, e, hd, r⟩ := hN
    exact ⟨o, es, ep, hidT_get e (plainH e (by rw [hd]; exact fun z => nomatch z) (by rw [hd]; exact fun _ _ z => nomatch z)), hd, r⟩
  have inK : K.In (hidT s₁.heap H) := fun b o e => hidT_get (KX b o e) (by
    cases q : H b with
    | none => rfl
    | some u =>
      rcases hHs q with ⟨hm, _⟩ | ⟨_, rfl, hn, _⟩
      · rw [(tget b hm).2] at e; cases e
      · rw [hn] at e; cases e)
  have hM : L2.Mod K mg (hidT s₁.heap H) := ⟨inK, dictH hns, ⟨mb, dictH hb, hbb⟩, by obtain ⟨mc, q1, q2⟩ := hlim; exact ⟨mc, dictH q1, q2⟩⟩
  have tabsB : ∀ p ∈ cs, GxR.TabB (hidT s₁.heap H) mg p.1 p.2 := fun p hp => by
    have tp := hT p hp
    refine ⟨PySem.W.codeHd_of_K inK (C p hp), ?_, fun z => ?_⟩
    · obtain ⟨bm, ob, b1, b2, b3, b4, b5, b6⟩ := hbm
      refine ⟨bm, ob, b1, b2, fun z => ?_, fun z => ?_, hidT_get b3 (plainH b3 (by rw [b6]; exact fun z => nomatch z) (by rw [b6]; exact fun _ _ z => nomatch z)), b4, b5, b6⟩
      · obtain ⟨o, es, ep, e, hd, _⟩ := hns
        rw [z, e] at b3; cases b3; rw [hd] at b6; cases b6
      · rw [z, tp] at b3; cases b3; cases b6
    · obtain ⟨o, es, ep, e, hd, _⟩ := hns
      rw [z, tp] at e; cases e; cases hd
  have okH : HOk P w H s₁.heap := fun b u q => by
    rcases hHs q with ⟨hm, rfl⟩ | ⟨_, rfl, hn, rfl⟩
    · exact (tget b hm).1
    · exact ⟨ha, by rw [List.length_map]; exact hl, vs, _, vl, by rw [hso]; exact ha⟩
  have sqa : SqC K H a (ns.map V.int) := by
    cases q : K.lookup a with
    | none =>
      refine .inl ⟨so, ?_⟩
      rw [← hH]; unfold H0
      rw [if_neg (fun hm => by have := (tget a hm).1; rw [ha] at this; cases this; cases sod), if_pos ⟨rfl, q⟩]
    | some o =>
      have e := KX a o q
      rw [ha] at e; cases e
      exact .inr (.inr ⟨_, vs.toArray, _, q, by rw [← hso], by rw [← hso], sod, by rw [List.size_toArray, lv]; exact hl, by simpa using vl⟩)
  have tabH : ∀ b ∈ cs.map (·.2), H b = some (.tbl #[]) := fun b hm => by rw [← hH]; exact if_pos hm
  have rs : RS ⟨K, mg, cs.map (·.2)⟩ [] H [] := ⟨rfl, List.nodup_nil, fun n o e => by simp at e, fun b hm => ⟨#[], tabH b hm, trivial⟩⟩
  obtain ⟨S', hrun⟩ := run
  have hsp : spM ⟨K, mg, cs.map (·.2)⟩ g [.ref a] H (fun v _ => v = .bl true) (fun _ _ _ => False) :=
    ⟨[], [.frz (ns.map .int)], [], rs, .cons (.frz sqa (rvs_ints ns)) .nil, _, hrun, fun μ' H' v gr rv _ => by cases rv; rfl⟩
  have e0 : Env0 P w K mg (hidT s₁.heap H) callerA [] s₁ H := ⟨rfl, hM, fun b o e => of_hidT e, Nat.le_of_eq (hidT_size _ _), trivial, fun b hb => absurd (show b ∈ ([] : List Addr) from hb) (by simp), okH, .of_eq hg⟩
  refine codeAny_mono ((F _ inK (dictH hns) tabsB).run callerA [] s₁ H ⟨[.ref a], []⟩ [.ref a] [.ref a] _ _ hr rfl e0 (hbind s₁ (.ref a)) (.cons rfl .nil) hsp) fun r s' h => ?_
  cases r with
  | error e =>
    obtain ⟨_, _, _, _, _, _, _, _, _, _, _, _, q⟩ := h
    exact q.elim
  | ok fl =>
    cases fl with
    | ret u =>
      obtain ⟨v, H', eos, bare, un, ok', rv, q⟩ := h
      subst q
      cases (show u = Value.bool true from rv)
      have same : ∀ b o, b ∉ cs.map (·.2) → s₁.heap.get? b = some o → s'.heap.get? b = some o := fun b o nb e => by
        cases q : H b with
        | none => exact un.keep b o e q (fun z => absurd (show b ∈ ([] : List Addr) from z) (by simp)) (by simp)
        | some u =>
          rcases hHs q with ⟨hm, _⟩ | ⟨_, rfl, _, rfl⟩
          · exact absurd hm nb
          · have z1 := (ok' _ _ (un.frzs _ _ _ q)).1
            rw [ha] at e; cases e
            exact z1
      have tabs' : ∀ p ∈ cs, ∃ more : Array Value, s'.heap.get? p.2 = some { cls := .none, data := .fields more } := fun p hp => by
        obtain ⟨more, z⟩ := un.tbls p.2 #[] (tabH p.2 (List.mem_map.mpr ⟨p, hp, rfl⟩))
        exact ⟨_, ok' p.2 _ z⟩
      refine ⟨rfl, ⟨fun b o e => ?_, fun b o e => ?_⟩, eos, bare⟩
      · by_cases hm : b ∈ cs.map (·.2)
        · obtain ⟨p, hp, rfl⟩ := List.mem_map.mp hm
          obtain ⟨more, h2⟩ := tabs' p hp
          rw [hT p hp] at e; cases e
          exact .inr (.inl ⟨((PySem.W.codeHd_of_K KX (C p hp)).tab (hT p hp)).isCodeTable, rfl, #[], more, rfl, by rw [Array.empty_append]; exact h2⟩)
        · exact .inl (same b o hm e)
      · by_cases hm : b ∈ cs.map (·.2)
        · obtain ⟨p, hp, rfl⟩ := List.mem_map.mp hm
          obtain ⟨more, h2⟩ := tabs' p hp
          exact ⟨_, h2⟩
        · exact ⟨o, same b o hm e⟩
    | _ => exact False.elim h
/-- a code object of the written part, and its table -/
theorem hd_look {K : PySem.W.Frag} {c P : Addr} (e : PySem.W.codeHdIn K c P = true) : ∃ dd vs sl, K.lookup c = some ⟨.type "code", dd, .fields vs, sl⟩ ∧ vs[11]? = some (.ref P) := by
  unfold PySem.W.codeHdIn at e
  split at e
  · rename_i dd vs sl hk
    refine ⟨dd, vs, sl, hk, ?_⟩
    simp only [Bool.and_eq_true] at e
    obtain ⟨⟨⟨⟨⟨e1, _⟩, _⟩, _⟩, _⟩, _⟩ := e
    split at e1
    · rename_i P' h
      rw [h, beq_iff_eq.mp e1]
    · cases e1
  · cases e
/-- what the law's def must be -/
def LawG (P : Program) (w : World) (K : PySem.W.Frag) (k : Nat) (x : Str) (mg : Str → Option Value) (fa : Addr) (h : Heap) : Prop :=
  ∃ (fd : FuncData) (cs : List (Addr × Addr)) (g : List Vl → M Vl), (∀ p ∈ cs, h.get? p.2 = some { cls := .none, data := .fields #[] }) ∧ (∀ p ∈ cs, K.lookup p.2 = none) ∧ (∀ p ∈ cs, PySem.W.codeHdIn K p.1 p.2 = true) ∧
    (∀ (s : Shared) (u : Value), BindsTo s fd ⟨[u], []⟩ [(x, u)]) ∧ (∀ ns : List Int, ns.length ≤ 63 → ∃ S', g [.frz (ns.map .int)] [] = some (.ok (.bl true) S')) ∧
    ∀ base : Heap, K.In base → base.Ns mainGlobals mg → (∀ p ∈ cs, GxR.TabB base mg p.1 p.2) → FnG P w K mg base k fa fd [x] (spM ⟨K, mg, cs.map (·.2)⟩ g)
/-- the tables of the defs of the text are empty at the head's end -/
def Tabs0 (q : Program) (K : PySem.W.Frag) (mg : Str → Option Value) (h : Heap) : Prop := ∀ (y : Str) (f c P : Addr) (oc : Value) (od : Option Addr) (fd : FuncData) (sl : Array (Option Value)), ((recsOf q).any fun e => e.name == y) = true →
  mg y = some (.ref f) → K.lookup f = some ⟨oc, od, .func fd, sl⟩ → fd.code = .ref c → PySem.W.codeHdIn K c P = true → h.get? P = some { cls := .none, data := .fields #[] }
theorem walkG {l : PySem.W.OpenLaw} {k : Nat} {q : Program} {loose : List Str} {XP : (Str → Option Value) → Heap → Prop} {YP : World → Heap → Prop} {d : DefRec} {K : Params → PySem.W.Frag} {x : Str}
    (hn : l.most = some 63) (hdf : d.params.defaults = []) (hr : Room k callerA) (hY : ∀ (w : World) (h : Heap), YP w h → (K w.params).In h)
    (F : ∀ (w : World) (mg : Str → Option Value) (fa : Addr) (h : Heap), YP w h → (K w.params).In h → h.Ns mainGlobals mg → mg d.name = some (.ref fa) → Tabs0 q (K w.params) mg h → LawG l.prog w (K w.params) k x mg fa h) :
    PySem.W.WalkO q loose XP YP l.row.toRowW d [] (fun f vs => PySem.call f vs) := by
  refine Att.attach_callB hn hdf fun w s₀ s₁ mg mb fa o pm cd doc a vs ns G Y _ _ _ hmg hobj hints hlen _ hg => ?_
  have KX := hY w _ Y
  have own : Tabs0 q (K w.params) mg s₁.heap := fun y f c P oc od fd sl hy my lf fc hd => by
    obtain ⟨dL, hm, e1⟩ := List.any_eq_true.mp hy
    obtain ⟨a', o', fd', c', P', t1, t2, t3, t4, t5, t6⟩ := G.T.tab dL hm
    rw [beq_iff_eq.mp e1, my] at t1; cases t1
    rw [KX _ _ lf] at t2; cases t2; cases t3
    rw [fc] at t4; cases t4
    obtain ⟨⟨oc2, vc, u1, _, u3, u4⟩, hP⟩ := t6
    obtain ⟨dd, vs2, sl2, lc, v11⟩ := hd_look hd
    rw [KX _ _ lc] at u1; cases u1; cases u3
    rw [v11] at u4; cases u4
    exact hP
  obtain ⟨fd, cs, g, hT, nT, C, hb, run, hF⟩ := F w mg fa _ Y KX G.T.g hmg own
  exact law_callG KX G.T.g G.T.b G.T.builtins G.T.nolimit hg hT nT C G.T.bmain hobj hints (Nat.le_trans hlen (by decide)) hr hF hb (run ns hlen)
end Tw
end
section
set_option Elab.async false
set_option maxRecDepth 100000
set_option maxHeartbeats 3000000
set_option autoImplicit true
set_option linter.all false
set_option relaxedAutoImplicit true
namespace Tw
open PySem L2 PySem.Spec PyProof.Rows
/-! ## 25. Clauses -/
/-- takes x, and none of ys -/
def tkx (x : Str) (ys : List Str) : Str → Option Bool := fun c => if c = x then some true else if c ∈ ys then some false else none
theorem clause_of {G : GG} {x : Str} {e : Addr} {ys : List Str} (m : G.mg x = some (.ref e)) (k : PySem.W.exmOne G.K (.ref e) (.ref e) = some true) (h : ∀ y ∈ ys, ∃ C, G.mg y = some (.ref C) ∧ PySem.W.exmOne G.K (.ref C) (.ref e) = some false) : Clause G (.ref e) (tkx x ys) := by
  intro c b q
  unfold tkx at q
  by_cases h1 : c = x
  · rw [if_pos h1] at q; cases q; subst h1; exact ⟨e, m, k⟩
  · rw [if_neg h1] at q
    by_cases h2 : c ∈ ys
    · rw [if_pos h2] at q; cases q; exact h c h2
    · rw [if_neg h2] at q; cases q
end Tw
end
section
set_option Elab.async false
set_option maxRecDepth 100000
set_option maxHeartbeats 3000000
set_option autoImplicit true
set_option linter.all false
set_option relaxedAutoImplicit true
namespace Tw
open PySem L2
/-- one of some defs, by its name -/
def gsel : List (Str × (List Vl → M Vl)) → Str → List Vl → M Vl
  | [], _ => fun _ => stuck
  | (x, r) :: t, y => if y = x then r else gsel t y
/-! ## 26. What is walked in a comprehension -/
abbrev Itms := Option (Nat × Ob) × List Vl
def TW (G : GG) (W : WX) (f : Rho → M Itms) : TI := fun σ H R => ∃ μ ρ S, RS G μ H S ∧ RR G μ H ρ σ ∧ Run G (fun μ' H' (a : Itms) (J : It) => Wlk G J μ' H' a.1 a.2) (f ρ) μ H S R (EW G W σ)
def wSeq (fi : Ev) : Rho → M Itms := fun ρ => bnd (fi ρ) fun x => match x with
  | .tup xs => ret (none, xs)
  | .frz xs => ret (none, xs)
  | .loc n => fun S => match S[n]? with
    | some (.lst xs) => some (.ok (some (n, .lst xs), xs) S)
    | _ => none
  | _ => stuck
def wRg1 (fi : Ev) : Rho → M Itms := fun ρ => bnd (fi ρ) fun x => match x with
  | .int j => if -(2 ^ 62) ≤ j ∧ j < 2 ^ 62 then ret (none, irange 0 j.toNat) else stuck
  | _ => stuck
section
variable {X : Cx} {G : GG} {W : WX} {k : Nat} {pos p : Pos} {tg iter : Expr} {fi : Ev}
theorem xi_seq (hK : G.K = X.K) (hi : PE X iter (T G W fi)) : PI X tg iter (TW G W (wSeq fi)) := by
  refine ⟨fun pins s σ H R I h => (pi_seq (tg := tg) hi).run pins s σ H R I ?_⟩
  obtain ⟨μ, ρ, S, rs, rr, run⟩ := h
  refine T_bnd rs rr run fun v H1 μ1 y S1 g1 ry rs1 rr1 run1 => ?_
  rw [← hK]
  cases ry <;> first | exact run1.no rfl | skip
  · rename_i xs vs a ht rt
    exact .inr ⟨a, rfl, ⟨vs, ht⟩, run1.end_ (a := (none, xs)) rfl μ1 H1 _ .refl (wlk_tup ht rt) rs1⟩
  · rename_i n a hn
    cases e1 : S1[n]? with
    | none => exact run1.no (by simp only [e1])
    | some ob =>
      cases ob with
      | dct => exact run1.no (by simp only [e1])
      | lst xs =>
        obtain ⟨b, q, vs, h1, r1⟩ := rs1.ob n _ e1
        rw [hn] at q
        cases q
        exact .inl ⟨a, rfl, ⟨vs, .of h1⟩, run1.end_ (a := (some (n, .lst xs), xs)) (by simp only [e1]) μ1 H1 _ .refl (wlk_loc hn) rs1⟩
  · rename_i xs vs a hf rt
    exact .inl ⟨a, rfl, ⟨vs, hf.sql⟩, run1.end_ (a := (none, xs)) rfl μ1 H1 _ .refl (wlk_frz hf rt) rs1⟩
theorem wlk_range {μ : List Addr} {H : Hp} {lo : Int} {n : Nat} : Wlk G (Itr lo n) μ H none (irange lo n) := by
  have hl : (irange lo n).length = n := by simp [irange]
  refine ⟨fun i μ' H' S g rs _ hi => ⟨by rw [hl] at hi; exact hi, fun v H2 hy => ?_⟩, fun i μ' H' S g rs _ hi => by rw [hl] at hi; exact hi⟩
  obtain ⟨rfl, rfl⟩ := hy
  rw [hl] at hi
  exact ⟨rfl, .int (lo + i), by simp [irange, List.getElem?_range hi], .int _⟩
theorem xi_range1 {e : Expr} (hm : X.mg "range" = none) (ha : PE X e (T G W fi)) (hg : Gl X "range" := by rfl) (he : starEach [e] X.env = (false, eval e X.env) :: starEach [] X.env := by rfl) (hs : starEach [e] X.env = [(false, eval e X.env)] := by rfl) :
    PI X tg (.Call (.Name "range" p) [e] [] pos) (TW G W (wRg1 fi)) := by
  refine ⟨fun pins s σ H R I h => (pi_range1 (tg := tg) hg hm (pa_cons ha pa_nil he) hs).run pins s σ H R I ?_⟩
  obtain ⟨μ, ρ, S, rs, rr, run⟩ := h
  refine T_bnd rs rr run fun v H1 μ1 y S1 g1 ry rs1 rr1 run1 => ?_
  cases ry <;> first | exact run1.no rfl | skip
  rename_i j
  by_cases hj : -(2 ^ 62) ≤ j ∧ j < 2 ^ 62
  · exact ⟨j, rfl, hj.1, hj.2, run1.end_ (a := (none, irange 0 j.toNat)) (by simp only [if_pos hj]; rfl) μ1 H1 _ .refl wlk_range rs1⟩
  · exact run1.no (by simp only [if_neg hj]; rfl)
end
/-! ## 27. A list comprehension, its target a name -/
open Classical in
noncomputable def compL (n : Nat) (o : Option (Nat × Ob)) (i : Nat) (tt : Tv) (fe : Ev) (ρ : Rho) : List Vl → M Vl
  | [] => fun S => if okS o S then some (.ok (.loc n) S) else none
  | x :: xs => fun S => if okS o S then bnd (nr (tt (ρ.set i (some x)))) (fun b => if b = true then bnd (nr (fe (ρ.set i (some x)))) (fun y => bnd (mAppend (.loc n) y) fun _ => compL n o i tt fe ρ xs) else compL n o i tt fe ρ xs) S else none
noncomputable def eComp (it : Rho → M Itms) (i : Nat) (tt : Tv) (fe : Ev) : Ev := fun ρ => bnd (it ρ) fun p S => compL S.length p.1 i tt fe ρ p.2 (S ++ [.lst []])
def tTrue : Tv := fun _ => ret true
section
variable {X : Cx} {G : GG} {W : WX} {k : Nat} {pos px : Pos} {x : Str} {elt iter : Expr} {ifs : List Expr} {scope : Scope} {it : Rho → M Itms} {fe : Ev} {tt : Tv} {i : Nat}
theorem xts_nil {Y : Cx} : PTs Y [] (TTs G W tTrue) := by
  refine ⟨fun pins s σ H Q I h => pts_nil.run pins s σ H Q I ?_⟩
  obtain ⟨μ, ρ, S, rs, rr, run⟩ := h
  exact run.end_ rfl μ H true .refl rfl rs
theorem xts_one {Y : Cx} {c : Expr} (h : PT Y c (TTs G W tt)) : PTs Y [c] (TTs G W tt) := pts_one h
theorem comp_here {n o ρ xs S} (h : ¬ okS o S) : compL n o i tt fe ρ xs S = none := by
  cases xs <;> exact if_neg h
theorem comp_read {σ : St} {H : Hp} {Q : VK} (h : T G W (eComp it i tt fe) σ H Q) : tLc (TW G W it) (gName i) (TTs G W0 tt) (T G W0 fe) [i] σ H Q := by
  obtain ⟨μ, ρ, S, rs, rr, run⟩ := h
  refine ⟨μ, ρ, S, rs, rr, run.bnd.imp (fun J H1 ⟨μ1, a, S1, g1, wk, rs1, run1⟩ D hD => ?_) fun _ _ _ _ z => z⟩
  obtain ⟨o, xs⟩ := a
  have gD : Gr μ1 H1 (μ1 ++ [D]) (upd H1 D (.lst [])) := ⟨fun n b e => by
    rw [List.getElem?_append_left (List.getElem?_eq_some_iff.mp e).1]; exact e, (gr_laid (μ := μ1) hD).tup, (gr_laid (μ := μ1) hD).frz⟩
  obtain ⟨rsD, _, hlast⟩ := rs1.new (o := .lst []) (ob := .lst []) hD ⟨[], upd_same, .nil⟩
  have run1' : Run G (Rv G) (compL S1.length o i tt fe ρ xs) (μ1 ++ [D]) (upd H1 D (.lst [])) (S1 ++ [.lst []]) Q (EW G W σ) := by
    obtain ⟨r, e, q⟩ := run1
    refine ⟨r, e, ?_⟩
    cases r with
    | ok a S' => exact fun μ' H' v gg => q μ' H' v (gD.trans gg)
    | er c S' => exact fun μ' H' gg => q μ' H' (gD.trans gg)
  have rr1 : RR G (μ1 ++ [D]) (upd H1 D (.lst [])) ρ σ := rr.up (g1.trans gD)
  generalize hn : S1.length = n at run1' hlast
  refine ⟨fun j m H2 => m = xs.length - j ∧ j ≤ xs.length ∧ ∃ μ2 S2, Gr (μ1 ++ [D]) (upd H1 D (.lst [])) μ2 H2 ∧ RS G μ2 H2 S2 ∧ Run G (Rv G) (compL n o i tt fe ρ (xs.drop j)) μ2 H2 S2 Q (EW G W σ),
    ⟨_, rfl, Nat.zero_le _, _, _, .refl, rsD, run1'⟩, fun j m H2 hW => ?_⟩
  obtain ⟨rfl, hj, μ2, S2, g2, rs2, run2⟩ := hW
  have hD2 : μ2[n]? = some D := g2.pre _ _ hlast
  by_cases hok2 : okS o S2
  case neg => exact run2.no (comp_here hok2)
  by_cases hlt : j < xs.length
  · obtain ⟨go, yld⟩ := wk.go j μ2 H2 S2 (gD.trans g2) rs2 hok2 hlt
    refine .inr ⟨go, fun H' => ∃ μ2 S2, Gr (μ1 ++ [D]) (upd H1 D (.lst [])) μ2 H' ∧ RS G μ2 H' S2 ∧ Run G (Rv G) (compL n o i tt fe ρ (xs.drop (j + 1))) μ2 H' S2 Q (EW G W σ), fun H' hx => ⟨xs.length - (j + 1), by omega, rfl, hlt, hx⟩, fun v H' hy => ?_⟩
    obtain ⟨rfl, x1, hx1, rx⟩ := yld v H' hy
    have ed : xs.drop j = x1 :: xs.drop (j + 1) := by
      rw [List.drop_eq_getElem_cons hlt]
      rw [List.getElem?_eq_getElem hlt] at hx1
      cases hx1
      rfl
    rw [ed] at run2
    have rr2 : RR G μ2 H' (ρ.set i (some x1)) ((wipe σ [i]).set i (some v)) := by
      have e1 : (wipe σ [i]).set i (some v) = σ.set i (some v) := by show (σ.set i none).set i (some v) = _; rw [List.set_set]
      rw [e1]
      exact (rr1.up g2).set rx i
    have run3 : Run G (Rv G) (bnd (nr (tt (ρ.set i (some x1)))) (fun b => if b = true then bnd (nr (fe (ρ.set i (some x1)))) (fun y => bnd (mAppend (.loc n) y) fun _ => compL n o i tt fe ρ (xs.drop (j + 1))) else compL n o i tt fe ρ (xs.drop (j + 1)))) μ2 H' S2 Q (EW G W σ) := run2.cong (by
      show _ = compL n o i tt fe ρ (x1 :: xs.drop (j + 1)) S2
      exact (if_pos hok2).symm)
    refine ⟨by show (((σ.set i none).set i (some v)).set i none) = σ.set i none; rw [List.set_set, List.set_set], μ2, _, S2, rs2, rr2, Run.nr (run3.bnd.imp (fun b H3 ⟨μ3, b', S3, g3, eb, rs3, run4⟩ => ?_) fun _ _ _ _ z => z)⟩
    cases eb
    cases b with
    | false => exact iteF ⟨μ3, S3, g2.trans g3, rs3, run4.cong rfl⟩
    | true =>
      refine iteT ⟨μ3, _, S3, rs3, rr2.up g3, Run.nr ((run4.cong (m' := bnd (nr (fe (ρ.set i (some x1)))) (fun y => bnd (mAppend (.loc n) y) fun _ => compL n o i tt fe ρ (xs.drop (j + 1)))) rfl).bnd.imp (fun w H4 ⟨μ4, y, S4, g4, ry, rs4, run5⟩ => ?_) fun _ _ _ _ z => z)⟩
      have hD4 : μ4[n]? = some D := g4.pre _ _ (g3.pre _ _ hD2)
      cases e4 : S4[n]? with
      | none => exact run5.no (by simp only [bnd, mAppend, e4])
      | some ob =>
        cases ob with
        | dct => exact run5.no (by simp only [bnd, mAppend, e4])
        | lst ys =>
          obtain ⟨b, e5, ws, h5, r5⟩ := rs4.ob n _ e4
          rw [hD4] at e5; cases e5
          by_cases hz : ys.length < line
          · obtain ⟨rs6, g6⟩ := rs4.put e4 hD4 h5 (r5.app (.cons ry .nil))
            refine ⟨ws, h5, by rw [← r5.length, ← line_eq]; exact hz, μ4, S4.set n (.lst (ys ++ [y])), g2.trans (g3.trans (g4.trans g6)), rs6, ?_⟩
            obtain ⟨r, e, q⟩ := run5
            refine ⟨r, by simpa only [bnd, mAppend, e4, if_pos hz] using e, ?_⟩
            cases r with
            | ok a S' => exact fun μ' H' v gg => q μ' H' v (g6.trans gg)
            | er c S' => exact fun μ' H' gg => q μ' H' (g6.trans gg)
          · exact run5.no (by simp only [bnd, mAppend, e4, if_neg hz])
  · refine .inl ⟨wk.stop j μ2 H2 S2 (gD.trans g2) rs2 hok2 (by show xs.length ≤ j; omega), ?_⟩
    rw [List.drop_of_length_le (by omega)] at run2
    exact run2.end_ (a := .loc n) (S1 := S2) (show compL n o i tt fe ρ [] S2 = some (.ok (.loc n) S2) from if_pos hok2) μ2 H2 _ .refl (.loc hD2) rs2
theorem x_comp (at_ : At X G W k) (hok : blkC X.N X.env.scope scope [(x, i)] = true) (hi : PI X (.Name x px) iter (TW G W it)) (hN : X.N[i]? = some x) (hlx : ∀ cl C, (compEnvC scope cl C X.env).scope.names.lookup x = some .local)
    (ht : ∀ Y : Cx, At Y G W0 k → (∃ s H C cl fp, Y = X.blk s H scope (compEnvC scope cl C X.env) fp) → PTs Y ifs (TTs G W0 tt))
    (he : ∀ Y : Cx, At Y G W0 k → (∃ s H C cl fp, Y = X.blk s H scope (compEnvC scope cl C X.env) fp) → PE Y elt (T G W0 fe)) (hs : ∀ y, foldedSetIterable iter X.env y = pure y := by intro _; rfl) :
    PE X (.ListComp elt [⟨.Name x px, iter, ifs, 0⟩] scope pos) (T G W (eComp it i tt fe)) := by
  have atY : ∀ s H C cl fp, At (X.blk s H scope (compEnvC scope cl C X.env) fp) G W0 k := fun s H C cl fp => ⟨at_.K, at_.mg, at_.room, at_.calm, takes0, PassesOwn.never, at_.nd, at_.gd⟩
  exact PE.imp (pe_lc (own := [(x, i)]) (g := gName i) (tt := TTs G W0 tt) (te := T G W0 fe) at_.calm at_.nd hi (blkOk_by hok)
    (fun s H C cl fp => pg_name at_.nd hN (Or.inl (hlx cl C)) (.inr (hlx cl C))) (fun s H C cl fp => ht _ (atY s H C cl fp) ⟨s, H, C, cl, fp, rfl⟩) (fun s H C cl fp => he _ (atY s H C cl fp) ⟨s, H, C, cl, fp, rfl⟩) hs) fun σ H Q h => comp_read h
theorem xs_setComp (j : Nat) {y : Str} {py spos : Pos} (at_ : At X G W k) (hok : blkC X.N X.env.scope scope [(x, i)] = true) (hi : PI X (.Name x px) iter (TW G W it)) (hN : X.N[i]? = some x) (hlx : ∀ cl C, (compEnvC scope cl C X.env).scope.names.lookup x = some .local)
    (ht : ∀ Y : Cx, At Y G W0 k → (∃ s H C cl fp, Y = X.blk s H scope (compEnvC scope cl C X.env) fp) → PTs Y ifs (TTs G W0 tt))
    (he : ∀ Y : Cx, At Y G W0 k → (∃ s H C cl fp, Y = X.blk s H scope (compEnvC scope cl C X.env) fp) → PE Y elt (T G W0 fe))
    (hsw : swapsWith (.ListComp elt [⟨.Name x px, iter, ifs, 0⟩] scope pos) (some (.Name y py)) spos.line X.env = pure true) (hy : X.N[j]? = some y := by rfl) (hyl : X.env.scope.names.lookup y = some .local := by rfl) (hs : ∀ y, foldedSetIterable iter X.env y = pure y := by intro _; rfl) :
    PS X (.Assign [.Name y py] (.ListComp elt [⟨.Name x px, iter, ifs, 0⟩] scope pos) spos) (TSt G W (sSet j (eComp it i tt fe))) := by
  have atY : ∀ s H C cl fp, At (X.blk s H scope (compEnvC scope cl C X.env) fp) G W0 k := fun s H C cl fp => ⟨at_.K, at_.mg, at_.room, at_.calm, takes0, PassesOwn.never, at_.nd, at_.gd⟩
  refine PS.imp (ps_setLc (own := [(x, i)]) (g := gName i) (tt := TTs G W0 tt) (te := T G W0 fe) at_.calm at_.nd hy hyl hsw hi (blkOk_by hok)
    (fun s H C cl fp => pg_name at_.nd hN (Or.inl (hlx cl C)) (.inr (hlx cl C))) (fun s H C cl fp => ht _ (atY s H C cl fp) ⟨s, H, C, cl, fp, rfl⟩) (fun s H C cl fp => he _ (atY s H C cl fp) ⟨s, H, C, cl, fp, rfl⟩) hs) ?_
  rintro D σ H ⟨μ, ρ, S, rs, rr, run⟩
  refine comp_read (Ts_bnd rs rr run fun v H1 μ1 x1 S1 g1 rx rs1 rr1 run1 => ?_)
  obtain ⟨r, e, h⟩ := run1
  cases e
  exact h μ1 H1 _ .refl rs1 (rr1.set rx j)
end
end Tw
end
section
set_option Elab.async false
set_option maxRecDepth 100000
set_option maxHeartbeats 3000000
set_option autoImplicit true
set_option linter.all false
set_option relaxedAutoImplicit true
namespace Tw
open PySem L2
/-! ## 28. What is walked, by lists that stay as they are: zip, enumerate -/
abbrev Itm2 := List (Nat × Ob) × List Vl
def okL (l : List (Nat × Ob)) (S : Store) : Prop := ∀ p ∈ l, S[p.1]? = some p.2
/-- what comes out may be a new thing -/
structure WlkW (G : GG) (J : It) (μ0 : List Addr) (H0 : Hp) (o : List (Nat × Ob)) (xs : List Vl) : Prop where
  go : ∀ i μ H S, Gr μ0 H0 μ H → RS G μ H S → okL o S → i < xs.length → J.go i H ∧ ∀ v H', J.yld i H v H' → Gr μ H μ H' ∧ RS G μ H' S ∧ ∃ x, xs[i]? = some x ∧ Rv G μ H' x v
  stop : ∀ i μ H S, Gr μ0 H0 μ H → RS G μ H S → okL o S → xs.length ≤ i → J.stop i H
theorem Wlk.w {G : GG} {J : It} {μ0 : List Addr} {H0 : Hp} {o : Option (Nat × Ob)} {xs : List Vl} (h : Wlk G J μ0 H0 o xs) : WlkW G J μ0 H0 o.toList xs := by
  have ok : ∀ {S}, okL o.toList S → okS o S := fun {S} q => by
    cases o with
    | none => trivial
    | some p => exact q p (by simp)
  refine ⟨fun i μ H S g rs q hi => ?_, fun i μ H S g rs q hi => h.stop i μ H S g rs (ok q) hi⟩
  obtain ⟨h1, h2⟩ := h.go i μ H S g rs (ok q) hi
  refine ⟨h1, fun v H' hy => ?_⟩
  obtain ⟨rfl, x, e, r⟩ := h2 v H' hy
  exact ⟨.refl, rs, x, e, r⟩
def TV (G : GG) (W : WX) (f : Rho → M Itm2) : TI := fun σ H R => ∃ μ ρ S, RS G μ H S ∧ RR G μ H ρ σ ∧ Run G (fun μ' H' (a : Itm2) (J : It) => WlkW G J μ' H' a.1 a.2) (f ρ) μ H S R (EW G W σ)
/-- the items of a list or a tuple, and what must stay as it is -/
def seqM (x : Vl) : M Itm2 := match x with
  | .tup xs => ret ([], xs)
  | .frz xs => ret ([], xs)
  | .loc n => fun S => match S[n]? with
    | some (.lst xs) => some (.ok ([(n, .lst xs)], xs) S)
    | _ => none
  | _ => stuck
def vSeq (fi : Ev) : Rho → M Itm2 := fun ρ => bnd (fi ρ) seqM
section
variable {X : Cx} {G : GG} {W : WX} {k : Nat} {pos p : Pos} {tg iter : Expr} {fi fa fb : Ev} {μ0 : List Addr} {H0 : Hp} {xs ys : List Vl}
/-- a list of the store, or a frozen one, and its items -/
theorem seqM_ok {μ H S} (rs : RS G μ H S) {x : Vl} {v : V} {o xs} {S1} (rx : Rv G μ H x v) (e : seqM x S = some (.ok (o, xs) S1)) : S1 = S ∧ okL o S ∧ ∃ a, v = .ref a ∧ ∃ vs, Rvs G μ H xs vs ∧
    ((SqT G.K H a vs ∧ x = .tup xs ∧ o = []) ∨ (SqL G.K H a vs ∧ (∀ ys, x ≠ .tup ys) ∧ ∀ μ' H' S', Gr μ H μ' H' → RS G μ' H' S' → okL o S' → ∃ ws, SqL G.K H' a ws ∧ Rvs G μ' H' xs ws)) := by
  unfold seqM at e
  cases rx with
  | tup h r => cases e; exact ⟨rfl, (by intro p hp; cases hp), _, rfl, _, r, .inl ⟨h, rfl, rfl⟩⟩
  | frz h r => cases e; exact ⟨rfl, (by intro p hp; cases hp), _, rfl, _, r, .inr ⟨h.sql, fun ys z => (nomatch z), fun μ' H' S' g _ _ => ⟨_, (h.up g).sql, r.up g⟩⟩⟩
  | loc h =>
    rename_i n a
    dsimp only at e
    cases q : S[n]? with
    | none => simp [q] at e
    | some ob => cases ob with
      | dct => simp [q] at e
      | lst xs' =>
        simp only [q] at e
        cases e
        obtain ⟨b, e1, vs, h1, r1⟩ := rs.ob n _ q
        rw [h] at e1; cases e1
        refine ⟨rfl, fun p hp => ?_, a, rfl, vs, r1, .inr ⟨.of h1, fun ys z => (nomatch z), fun μ' H' S' g rs' ok => ?_⟩⟩
        · simp only [List.mem_singleton] at hp; subst hp; exact q
        · obtain ⟨b, e1, ws, h2, r2⟩ := rs'.ob n _ (ok (n, .lst xs) (by simp))
          rw [g.pre _ _ h] at e1; cases e1
          exact ⟨ws, .of h2, r2⟩
  | _ => cases e
theorem xv_seq (hK : G.K = X.K) (hi : PE X iter (T G W fi)) : PI X tg iter (TV G W (vSeq fi)) := by
  refine ⟨fun pins s σ H R I h => (pi_seq (tg := tg) hi).run pins s σ H R I ?_⟩
  obtain ⟨μ, ρ, S, rs, rr, run⟩ := h
  refine T_bnd rs rr run fun v H1 μ1 y S1 g1 ry rs1 rr1 run1 => ?_
  rw [← hK]
  cases ry <;> first | exact run1.no rfl | skip
  · rename_i xs vs a ht rt
    exact .inr ⟨a, rfl, ⟨vs, ht⟩, run1.end_ (a := ([], xs)) rfl μ1 H1 _ .refl (wlk_tup ht rt).w rs1⟩
  · rename_i n a hn
    cases e1 : S1[n]? with
    | none => exact run1.no (by simp only [seqM, e1])
    | some ob =>
      cases ob with
      | dct => exact run1.no (by simp only [seqM, e1])
      | lst xs =>
        obtain ⟨b, q, vs, h1, r1⟩ := rs1.ob n _ e1
        rw [hn] at q
        cases q
        exact .inl ⟨a, rfl, ⟨vs, .of h1⟩, run1.end_ (a := ([(n, .lst xs)], xs)) (by simp only [seqM, e1]) μ1 H1 _ .refl (wlk_loc hn).w rs1⟩
  · rename_i xs vs a hf rt
    exact .inl ⟨a, rfl, ⟨vs, hf.sql⟩, run1.end_ (a := ([], xs)) rfl μ1 H1 _ .refl (wlk_frz hf rt).w rs1⟩
end
/-! ## 29. for over what is walked -/
end Tw
end
section
set_option Elab.async false
set_option maxRecDepth 100000
set_option maxHeartbeats 3000000
set_option autoImplicit true
set_option linter.all false
set_option relaxedAutoImplicit true
namespace Tw
open PySem L2
/-! ## 30. Truth of numbers, texts, lists, tuples; int(..), bool(..) -/
def truM (x : Vl) : M Bool := match x with
  | .non => ret false
  | .bl b => ret b
  | .int i => ret (i != 0)
  | .str y => if y.length ≤ line then ret ((y.length : Int) != 0) else stuck
  | .tup xs => ret (!xs.isEmpty)
  | .frz xs => ret (!xs.isEmpty)
  | .loc n => fun S => match S[n]? with
    | some (.lst xs) => some (.ok (!xs.isEmpty) S)
    | _ => none
  | _ => stuck
def tTru (a : Ev) : Tv := fun ρ => bnd (a ρ) truM
def bInt : List Vl → M Vl
  | [.int i] => ret (.int i)
  | [.bl b] => ret (.int (if b then 1 else 0))
  | _ => stuck
section
variable {X : Cx} {G : GG} {W : WX} {a : Expr} {fa : Ev} {pos p : Pos} {es : List Expr} {e : Expr} {fs : Evs}
theorem rvs_emp {μ H} {xs : List Vl} {vs : List V} (r : Rvs G μ H xs vs) : (!vs.isEmpty) = !xs.isEmpty := by
  cases r <;> rfl
theorem xt_tru (hK : G.K = X.K) (ha : PE X a (T G W fa)) (he : ∀ whole, isTrue a X.env whole = (do let v ← whole; standAt a.pos; holding [v] (truthy v)) := by intro _; rfl) : PT X a (TTs G W (tTru fa)) := by
  refine PT.imp (pt_truth ha he) ?_
  rintro σ H Q ⟨μ, ρ, S, rs, rr, run⟩
  refine T_bnd rs rr run fun v H1 μ1 x S1 g1 rx rs1 rr1 run1 => ?_
  cases rx with
  | non => exact ⟨false, rfl, run1.ret rfl rs1⟩
  | bl c => exact ⟨c, rfl, run1.ret rfl rs1⟩
  | int i => exact ⟨i != 0, rfl, run1.ret rfl rs1⟩
  | str y =>
    by_cases hz : y.length ≤ line
    · exact ⟨_, ⟨by rw [← line_eq]; exact hz, rfl⟩, run1.end_ (a := ((y.length : Int) != 0)) (by simp only [truM, if_pos hz]; rfl) _ _ _ .refl rfl rs1⟩
    · exact run1.no (by simp only [truM, if_neg hz]; rfl)
  | tup h r => exact ⟨_, .inr (.inl ⟨_, by rw [← hK]; exact h, rfl⟩), by rw [rvs_emp r]; exact run1.ret rfl rs1⟩
  | frz h r => exact ⟨_, .inl ⟨_, by rw [← hK]; exact h.sql, rfl⟩, by rw [rvs_emp r]; exact run1.ret rfl rs1⟩
  | loc h =>
    rename_i n b
    cases q : S1[n]? with
    | none => exact run1.no (by simp only [truM, q])
    | some ob => cases ob with
      | dct => exact run1.no (by simp only [truM, q])
      | lst xs =>
        obtain ⟨b', e1, vs, h1, r1⟩ := rs1.ob n _ q
        rw [h] at e1; cases e1
        exact ⟨_, .inl ⟨vs, .of h1, rfl⟩, by rw [rvs_emp r1]; exact run1.end_ (a := !xs.isEmpty) (by simp only [truM, q]) _ _ _ .refl rfl rs1⟩
  | _ => exact run1.no rfl
end
/-! ## 31. a, b = x, y -/
def sPar2 (i j : Nat) (fs : Evs) : Sv := fun ρ => sBnd (fs ρ) ρ fun xs S => match xs with
  | [x, y] => some (.ok (.nx ((ρ.set i (some x)).set j (some y))) S)
  | _ => none
def sPar3 (i j l : Nat) (fs : Evs) : Sv := fun ρ => sBnd (fs ρ) ρ fun xs S => match xs with
  | [x, y, z] => some (.ok (.nx (((ρ.set i (some x)).set j (some y)).set l (some z))) S)
  | _ => none
section
variable {X : Cx} {G : GG} {W : WX} {k : Nat} {fs : Evs} {σ : St} {H : Hp}
theorem Tas_bnd {μ ρ S D} {k : List Vl → Store → Option SR} {P : List V → Hp → Prop} (rs : RS G μ H S) (rr : RR G μ H ρ σ) (run : RunS G W (sBnd (fs ρ) ρ k) μ H S D)
    (h : ∀ v H1 μ1 x S1, Gr μ H μ1 H1 → Rvs G μ1 H1 x v → RS G μ1 H1 S1 → RR G μ1 H1 ρ σ → RunS G W (k x) μ1 H1 S1 D → P v H1) : TAs G W fs σ H P :=
  ⟨μ, ρ, S, rs, rr, (Run.sbnd rr run).imp (fun v H1 ⟨μ1, x, S1, g, rx, rs1, rr1, r1⟩ => h v H1 μ1 x S1 g rx rs1 rr1 r1) fun _ _ _ _ z => z⟩
theorem xs_par2 (i j : Nat) {x y : Str} {a b : Expr} {px py pt pos : Pos} {kt k2 pt2} (at_ : At X G W k) (hi : X.N[i]? = some x) (hj : X.N[j]? = some y) (hij : i ≠ j)
    (hx : X.env.scope.names.lookup x = some .local) (hy : X.env.scope.names.lookup y = some .local) (ha : PA X [a, b] (TAs G W fs))
    (hw : swappedStores [.Tuple [.Name x px, .Name y py] kt pt] (.Tuple [a, b] k2 pt2) X.env = pure (some [x, y]))
    (hs : swapsWithSole [.Tuple [.Name x px, .Name y py] kt pt] (.Tuple [a, b] k2 pt2) pos.line X.env = pure false := by rfl) :
    PS X (.Assign [.Tuple [.Name x px, .Name y py] kt pt] (.Tuple [a, b] k2 pt2) pos) (TSt G W (sPar2 i j fs)) := by
  refine PS.imp (ps_par at_.calm at_.nd hi hj hij hx hy ha hw hs) ?_
  rintro D σ H ⟨μ, ρ, S, rs, rr, run⟩
  refine Tas_bnd rs rr run fun vs H1 μ1 xs S1 g1 rx rs1 rr1 run1 => ?_
  match xs, vs, rx with
  | [x, y], [v, w], .cons r1 (.cons r2 .nil) =>
    refine ⟨v, w, rfl, ?_⟩
    obtain ⟨r, e, h⟩ := run1
    cases e
    exact h μ1 H1 _ .refl rs1 ((rr1.set r1 i).set r2 j)
  | [], _, _ => exact run1.no rfl
  | [_], _, _ => exact run1.no rfl
  | _ :: _ :: _ :: _, _, _ => exact run1.no rfl
end
/-- a def of which nothing is told (below the last step of a recursion) -/
theorem def_stuck {P : Program} {w : PySem.World} {K : PySem.W.Frag} {mg : Str → Option Value} {base : Heap} {tabs : List Addr} {k : Nat} {x : Str} {ps : List Str} {f : Addr} {fd : FuncData} (hm : mg x = some (.ref f)) (hk : PySem.W.keepIn K (.ref f) = true) (hb : Binds K fd ps []) :
    Def P w K mg base tabs k x ps (fun _ => stuck) := by
  have no : ∀ {vs H Q E}, spM ⟨K, mg, tabs⟩ (fun _ => stuck) vs H Q E → False := fun {vs H Q E} h => by
    obtain ⟨μ, xs, S, rs, rx, r, e, _⟩ := h
    cases e
  exact ⟨f, fd, hm, hk, hb, ⟨fun vs H Q E h => (no h).elim, fun A outer s H args us vs Q E hr hg e0 hb r h => (no h).elim⟩⟩
end Tw
end
section
set_option Elab.async false
set_option maxRecDepth 100000
set_option maxHeartbeats 3000000
set_option autoImplicit true
set_option linter.all false
set_option relaxedAutoImplicit true
namespace Tw
open PySem L2
/-! ## 32. What the newer runs come to -/
section
variable {α : Type} {S : Store} {R : Vl → Store → Prop} {E : Str → Store → Prop} {ρ : Rho} {D : Dk}
theorem wp_tru {a : Ev} {Q : Bool → Store → Prop} : Wp (tTru a ρ) S Q E ↔ Wp (a ρ) S (fun x S1 => Wp (truM x) S1 Q E) E := by unfold tTru; rw [wp_bnd]
theorem wp_truI {i : Int} {Q : Bool → Store → Prop} : Wp (truM (.int i)) S Q E ↔ Q (i != 0) S := Iff.rfl
theorem wp_truB {b : Bool} {Q : Bool → Store → Prop} : Wp (truM (.bl b)) S Q E ↔ Q b S := Iff.rfl
theorem wp_truT {xs : List Vl} {Q : Bool → Store → Prop} : Wp (truM (.tup xs)) S Q E ↔ Q (!xs.isEmpty) S := Iff.rfl
theorem wp_truL {n : Nat} {Q : Bool → Store → Prop} : Wp (truM (.loc n)) S Q E ↔ ∃ xs, S[n]? = some (.lst xs) ∧ Q (!xs.isEmpty) S := by
  cases h : S[n]? with
  | none => simp [Wp, truM, h]
  | some o => cases o <;> simp [Wp, truM, h]
theorem wp_intB {b : Bool} : Wp (bInt [.bl b]) S R E ↔ R (.int (if b then 1 else 0)) S := Iff.rfl
theorem wp_max {i j : Int} : Wp (bMax [.int i, .int j]) S R E ↔ R (.int (if j > i then j else i)) S := Iff.rfl
theorem wp_min {i j : Int} : Wp (bMin [.int i, .int j]) S R E ↔ R (.int (if j < i then j else i)) S := Iff.rfl
theorem ws_par2 {i j : Nat} {fs : Evs} : Ws (sPar2 i j fs ρ S) D ↔ Wp (fs ρ) S (fun xs S1 => ∃ x y, xs = [x, y] ∧ D.nx ((ρ.set i (some x)).set j (some y)) S1) (fun c S1 => D.er c ρ S1) := by
  unfold sPar2; rw [ws_bnd]
  refine iff_of_eq (congrArg (fun q => Wp (fs ρ) S q _) (funext fun xs => funext fun S1 => propext ?_))
  match xs with
  | [x, y] => exact ⟨fun z => ⟨x, y, rfl, z⟩, fun ⟨_, _, e, z⟩ => by cases e; exact z⟩
  | [] => exact ⟨fun z => z.elim, fun ⟨_, _, e, _⟩ => nomatch e⟩
  | [_] => exact ⟨fun z => z.elim, fun ⟨_, _, e, _⟩ => nomatch e⟩
  | _ :: _ :: _ :: _ => exact ⟨fun z => z.elim, fun ⟨_, _, e, _⟩ => nomatch e⟩
theorem ws_par3 {i j l : Nat} {fs : Evs} : Ws (sPar3 i j l fs ρ S) D ↔ Wp (fs ρ) S (fun xs S1 => ∃ x y z, xs = [x, y, z] ∧ D.nx (((ρ.set i (some x)).set j (some y)).set l (some z)) S1) (fun c S1 => D.er c ρ S1) := by
  unfold sPar3; rw [ws_bnd]
  refine iff_of_eq (congrArg (fun q => Wp (fs ρ) S q _) (funext fun xs => funext fun S1 => propext ?_))
  match xs with
  | [x, y, z] => exact ⟨fun q => ⟨x, y, z, rfl, q⟩, fun ⟨_, _, _, e, q⟩ => by cases e; exact q⟩
  | [] => exact ⟨fun z => z.elim, fun ⟨_, _, _, e, _⟩ => nomatch e⟩
  | [_] => exact ⟨fun z => z.elim, fun ⟨_, _, _, e, _⟩ => nomatch e⟩
  | [_, _] => exact ⟨fun z => z.elim, fun ⟨_, _, _, e, _⟩ => nomatch e⟩
  | _ :: _ :: _ :: _ :: _ => exact ⟨fun z => z.elim, fun ⟨_, _, _, e, _⟩ => nomatch e⟩
theorem ws_aug {i : Nat} {g : Vl → Vl → M Vl} {f : Ev} : Ws (sAug i g f ρ S) D ↔ ∃ x, ρ[i]? = some (some x) ∧ Wp (f ρ) S (fun y S1 => Wp (g x y) S1 (fun z S2 => D.nx (ρ.set i (some z)) S2) (fun c S1 => D.er c ρ S1)) (fun c S1 => D.er c ρ S1) := by
  cases q : ρ[i]? with
  | none =>
    have e : sAug i g f ρ S = none := by unfold sAug; simp only [q]
    rw [e]; exact ⟨fun z => z.elim, fun ⟨_, e, _⟩ => nomatch e⟩
  | some o => cases o with
    | none =>
      have e : sAug i g f ρ S = none := by unfold sAug; simp only [q]
      rw [e]; exact ⟨fun z => z.elim, fun ⟨_, e, _⟩ => nomatch e⟩
    | some x =>
      have e : sAug i g f ρ S = sBnd (f ρ) ρ (fun y => sBnd (g x y) ρ fun z S => some (.ok (.nx (ρ.set i (some z))) S)) S := by unfold sAug; simp only [q]
      rw [e, ws_bnd]
      have e2 : ∀ y S1, Ws (sBnd (g x y) ρ (fun z S => some (.ok (.nx (ρ.set i (some z))) S)) S1) D ↔ Wp (g x y) S1 (fun z S2 => D.nx (ρ.set i (some z)) S2) (fun c S1 => D.er c ρ S1) := fun y S1 => by rw [ws_bnd]; rfl
      simp only [e2]
      exact ⟨fun h => ⟨x, rfl, h⟩, fun ⟨_, e, h⟩ => by cases e; exact h⟩
theorem wp_iadd {i j : Int} : Wp (iAdd (.int i) (.int j)) S R E ↔ R (.int (i + j)) S := Iff.rfl
end
end Tw
end
section
set_option Elab.async false
set_option maxRecDepth 100000
set_option maxHeartbeats 3000000
set_option autoImplicit true
set_option linter.all false
set_option relaxedAutoImplicit true
namespace Tw
open PySem L2 StX
/-! ## 33. *e in a tuple or a list -/
def aStar (a : Ev) (r : Evs) : Evs := fun ρ => bnd (a ρ) fun x => bnd (seqM x) fun p => bnd (r ρ) fun ys => ret (p.2 ++ ys)
section
variable {X : Cx} {G : GG} {W : WX} {k : Nat} {pos p : Pos} {e : Expr} {es : List Expr} {fa : Ev} {fs : Evs}
theorem xa_star (at_ : At X G W k) (ha : PE X e (T G W fa)) (hr : PA X es (TAs G W fs)) (hs : starEach (.Starred e p :: es) X.env = (true, eval e X.env) :: starEach es X.env := by rfl) : PA X (.Starred e p :: es) (TAs G W (aStar fa fs)) := by
  refine PA.imp (pa_star ha hr hs) ?_
  rintro σ H Q ⟨μ, ρ, S, rs, rr, run⟩
  refine T_bnd rs rr run fun v H1 μ1 x S1 g1 rx rs1 rr1 run1 => ?_
  cases e1 : seqM x S1 with
  | none => exact run1.no (by simp only [bnd, e1])
  | some r1 => cases r1 with
    | er c S3 => cases x <;> simp only [seqM] at e1 <;> first | (cases e1; done) | (split at e1 <;> cases e1)
    | ok p1 S3 =>
      obtain ⟨o1, xs⟩ := p1
      obtain ⟨rfl, ok1, a, rfl, vs, rv, hor⟩ := seqM_ok rs1 rx e1
      refine ⟨a, vs, rfl, ?_, ?_⟩
      · rw [← at_.K]
        rcases hor with ⟨h, _⟩ | ⟨h, _⟩
        · exact .inl h
        · exact .inr h
      · have run1' : Run G (Rvs G) (bnd (fs ρ) fun ys => ret (xs ++ ys)) μ1 H1 S3 (fun ys H2 => Q ys H2) (EW G W σ) := run1.cong (by simp only [bnd, e1])
        exact TA_bnd rs1 rr1 run1' fun ws H2 μ2 ys S2 g2 rxs rs2 rr2 run2 => run2.ret ((rv.up g2).app rxs) rs2
/-! ## 34. sum, all, any of a list -/
def intsM : List Vl → Option (List Int)
  | [] => some []
  | .int i :: t => match intsM t with
    | some r => some (i :: r)
    | none => none
  | _ => none
def blsM : List Vl → Option (List Bool)
  | [] => some []
  | .bl i :: t => match blsM t with
    | some r => some (i :: r)
    | none => none
  | _ => none
theorem blsM_ok {μ H} : ∀ {xs : List Vl} {vs : List V} {ns : List Bool}, Rvs G μ H xs vs → blsM xs = some ns → vs = ns.map V.bl
  | _, _, _, .nil, e => by cases e; rfl
  | _, _, _, .cons h t, e => by
    cases h <;> try (cases e; done)
    rename_i t' vs' i
    unfold blsM at e
    cases q : blsM t' with
    | none => simp [q] at e
    | some r => simp only [q] at e; cases e; rw [blsM_ok t q]; rfl
def lstM (x : Vl) : M (List Vl) := match x with
  | .frz xs => ret xs
  | .loc n => fun S => match S[n]? with
    | some (.lst xs) => some (.ok xs S)
    | _ => none
  | _ => stuck
def bAny : List Vl → M Vl
  | [x] => bnd (lstM x) fun xs => match blsM xs with
    | some bs => ret (.bl (bs.any id))
    | none => stuck
  | _ => stuck
def bBool : List Vl → M Vl
  | [x] => bnd (lstM x) fun xs => ret (.bl (!xs.isEmpty))
  | _ => stuck
theorem lstM_ok {μ H S} (rs : RS G μ H S) {x : Vl} {v : V} (rx : Rv G μ H x v) : lstM x S = none ∨ ∃ xs, lstM x S = some (.ok xs S) ∧ ∃ a vs, v = .ref a ∧ SqL G.K H a vs ∧ Rvs G μ H xs vs := by
  cases rx with
  | frz h r => exact .inr ⟨_, rfl, _, _, rfl, h.sql, r⟩
  | loc h =>
    rename_i n a
    cases q : S[n]? with
    | none => exact .inl (by simp only [lstM, q])
    | some ob => cases ob with
      | dct => exact .inl (by simp only [lstM, q])
      | lst xs =>
        obtain ⟨b, e1, vs, h1, r1⟩ := rs.ob n _ q
        rw [h] at e1; cases e1
        exact .inr ⟨xs, by simp only [lstM, q], a, vs, rfl, .of h1, r1⟩
  | _ => exact .inl rfl
theorem am_list1 {r : List V → Hp → VK → Prop} {f : List Vl → M Vl} {g : List Vl → Option Vl} (hf : ∀ x, f [x] = bnd (lstM x) fun xs => match g xs with | some y => ret y | none => stuck) (h0 : ∀ xs, xs.length ≠ 1 → f xs = stuck)
    (h : ∀ {μ H S xs vs a Q y}, RS G μ H S → SqL G.K H a vs → Rvs G μ H xs vs → g xs = some y → (∀ v, Rv G μ H y v → Q v H) → r [.ref a] H Q) : AsM G r f := by
  intro μ H S x v Q EQ rs rx run
  cases rx with
  | nil => exact run.no (by rw [h0 _ (by simp)]; rfl)
  | cons rx t =>
    cases t with
    | cons _ _ => exact run.no (by rw [h0 _ (by simp)]; rfl)
    | nil =>
      rcases lstM_ok rs rx with q | ⟨xs, q, a, vs, rfl, hs, rv⟩
      · exact run.no (by rw [hf]; simp only [bnd, q])
      · cases e : g xs with
        | none => exact run.no (by rw [hf]; simp only [bnd, q, e]; rfl)
        | some y =>
          refine h rs hs rv e fun v ry => ?_
          exact run.end_ (a := y) (S1 := S) (by rw [hf]; simp only [bnd, q, e]; rfl) μ H _ .refl ry rs
theorem am_any : AsM G (rAny G.K) bAny := am_list1 (g := fun xs => match blsM xs with | some ns => some (.bl (ns.any id)) | none => none)
  (fun x => by show (bnd (lstM x) fun xs => _) = _; refine congrArg (bnd (lstM x)) (funext fun xs => ?_); cases blsM xs <;> rfl) (fun xs h => by match xs with | [] => rfl | [_] => exact absurd rfl h | _ :: _ :: _ => rfl)
  (fun {μ H S xs vs a Q y} rs hs rv e q => by
    cases en : blsM xs with
    | none => simp [en] at e
    | some ns => simp only [en] at e; cases e; exact ⟨a, ns, rfl, by rw [← blsM_ok rv en]; exact hs, q _ (.bl _)⟩)
theorem x_any1 (at_ : At X G W k) (hm : X.mg "any" = none) (ha : PA X (e :: es) (TAs G W fs)) (hgl : Gl X "any" := by rfl) (he : starEach (e :: es) X.env = (false, eval e X.env) :: starEach es X.env := by rfl)
    (hpl : (backTo pos (starEach es X.env)).any (·.1) = false := by rfl) : PE X (.Call (.Name "any" p) (e :: es) [] pos) (T G W (eCall bAny fs)) := xe_callB (by have := am_any (G := G); rw [at_.K] at this; exact this) (cr_any at_.calm) hm (by decide +kernel) ha hgl (by decide) (by decide) he hpl
end
/-! ## 35. What is walked: range, enumerate -/
/-! ## 36. Targets of a comprehension -/
theorem Run.later {α β : Type} {G : GG} {Rel : List Addr → Hp → α → β → Prop} {m : M α} {μ μ' : List Addr} {H H' : Hp} {S : Store} {Q : β → Hp → Prop} {EQ : Str → List Addr → Hp → Store → Prop} (run : Run G Rel m μ H S Q EQ) (g : Gr μ H μ' H') : Run G Rel m μ' H' S Q EQ := by
  obtain ⟨r, e, h⟩ := run
  refine ⟨r, e, ?_⟩
  cases r with
  | ok a S' => exact fun μ2 H2 v g2 => h μ2 H2 v (g.trans g2)
  | er c S' => exact fun μ2 H2 g2 => h μ2 H2 (g.trans g2)
structure OwnT (G : GG) (g : Tg) (gm : TG) (is : List Nat) : Prop where
  ok : ∀ {μ H S ρ σ x v ρ' Q}, RS G μ H S → RR G μ H ρ σ → Rv G μ H x v → g x ρ = some ρ' → (∀ σ', wipe σ' is = wipe σ is → RR G μ H ρ' σ' → Q σ' H) → gm v (wipe σ is) H Q
def gsNames : List Nat → List Vl → Rho → Option Rho
  | [] => gsNil
  | i :: is => gsCons (gSlot i) (gsNames is)
def gNames : List Nat → TGs
  | [] => gNil
  | i :: is => gCons (gName i) (gNames is)
structure RX (G : GG) (μ : List Addr) (H : Hp) (J : List Nat) (ρ : Rho) (σ : St) : Prop where
  len : ρ.length = σ.length
  at_ : ∀ (i : Nat) (x : Vl), i ∉ J → ρ[i]? = some (some x) → ∃ v, σ[i]? = some (some v) ∧ Rv G μ H x v
section
variable {G : GG} {μ : List Addr} {H : Hp} {ρ : Rho} {σ : St} {x : Vl} {v : V}
theorem wipe_len (σ : St) (vs : List Nat) : (wipe σ vs).length = σ.length := wipe_length σ vs
theorem wipe_ne {σ : St} {j : Nat} : ∀ {vs : List Nat}, j ∉ vs → (wipe σ vs)[j]? = σ[j]?
  | [], _ => rfl
  | v :: vs, h => by
    simp only [List.mem_cons, not_or] at h
    show ((wipe σ vs).set v none)[j]? = _
    rw [List.getElem?_set_ne (fun z => h.1 z.symm)]
    exact wipe_ne h.2
theorem wipe_mem {σ : St} {j : Nat} : ∀ {vs : List Nat}, j ∈ vs → j < σ.length → (wipe σ vs)[j]? = some none
  | [], h, _ => by cases h
  | v :: vs, h, hl => by
    show ((wipe σ vs).set v none)[j]? = _
    by_cases hv : v = j
    · subst hv; exact List.getElem?_set_self (by rw [wipe_len]; exact hl)
    · rw [List.getElem?_set_ne hv]
      rcases List.mem_cons.mp h with z | z
      · exact absurd z.symm hv
      · exact wipe_mem z hl
theorem wipe_set {σ : St} {i : Nat} {o : Option V} {vs : List Nat} (hi : i ∈ vs) : wipe (σ.set i o) vs = wipe σ vs := by
  apply List.ext_getElem?
  intro j
  by_cases hj : j ∈ vs
  · by_cases hl : j < σ.length
    · rw [wipe_mem hj hl, wipe_mem hj (by simpa using hl)]
    · rw [List.getElem?_eq_none (by rw [wipe_len]; simpa using hl), List.getElem?_eq_none (by rw [wipe_len]; omega)]
  · rw [wipe_ne hj, wipe_ne hj, List.getElem?_set_ne]
    intro z; subst z; exact hj hi
theorem wipe_wipe {σ : St} {vs : List Nat} : ∀ {us : List Nat}, (∀ u ∈ us, u ∈ vs) → wipe (wipe σ us) vs = wipe σ vs
  | [], _ => rfl
  | u :: us, h => by
    show wipe ((wipe σ us).set u none) vs = _
    rw [wipe_set (h u (by simp))]
    exact wipe_wipe fun z hz => h z (by simp [hz])
theorem RR.rx (r : RR G μ H ρ σ) (is : List Nat) : RX G μ H is ρ (wipe σ is) :=
  ⟨by rw [wipe_len]; exact r.len, fun i x hi e => by rw [wipe_ne hi]; exact r.at_ i x e⟩
theorem RX.set {J : List Nat} {i : Nat} (r : RX G μ H (i :: J) ρ σ) (h : Rv G μ H x v) : RX G μ H J (ρ.set i (some x)) (σ.set i (some v)) := by
  refine ⟨by simp [r.len], fun j y hj e => ?_⟩
  by_cases hij : i = j
  · subst hij
    have hi : i < ρ.length := by
      have := (List.getElem?_eq_some_iff.mp e).1
      simpa using this
    rw [List.getElem?_set_self hi] at e
    cases e
    exact ⟨v, List.getElem?_set_self (by rw [← r.len]; exact hi), h⟩
  · rw [List.getElem?_set_ne hij] at e
    rw [List.getElem?_set_ne hij]
    exact r.at_ j y (by simp only [List.mem_cons, not_or]; exact ⟨fun z => hij z.symm, hj⟩) e
theorem RX.rr (r : RX G μ H [] ρ σ) : RR G μ H ρ σ := ⟨r.len, fun i x e => r.at_ i x (by simp) e⟩
theorem gNames_ok {vs0 : List Nat} : ∀ {is : List Nat} {ρ : Rho} {σ : St} {xs : List Vl} {vs : List V} {ρ' : Rho} {Q : St → Hp → Prop}, (∀ i ∈ is, i ∈ vs0) → RX G μ H is ρ σ → Rvs G μ H xs vs → gsNames is xs ρ = some ρ' → (∀ σ', wipe σ' vs0 = wipe σ vs0 → RR G μ H ρ' σ' → Q σ' H) → gNames is vs σ H Q
  | [], ρ, σ, _, _, ρ', Q, _, r, .nil, e, h => by cases e; exact ⟨rfl, h σ rfl r.rr⟩
  | [], ρ, σ, _, _, ρ', Q, _, r, .cons _ _, e, h => by cases e
  | i :: is, ρ, σ, _, _, ρ', Q, _, r, .nil, e, h => by cases e
  | i :: is, ρ, σ, _, _, ρ', Q, hm, r, .cons (v := v) hx t, e, h => by
    refine ⟨v, _, rfl, ?_⟩
    show gNames is _ (σ.set i (some v)) H fun σ' H' => Q σ' H'
    exact gNames_ok (fun j hj => hm j (by simp [hj])) (r.set hx) t e fun σ' h1 h2 => h σ' (h1.trans (wipe_set (hm i (by simp)))) h2
theorem ownT_tup {K : PySem.W.Frag} (hK : G.K = K) (n : Nat) (is : List Nat) : OwnT G (gPair n (gsNames is)) (gTup K n (gNames is)) is := by
  refine ⟨fun {μ H S ρ σ x v ρ' Q} rs rr rx e h => ?_⟩
  unfold gPair at e
  cases rx with
  | tup ht rt =>
    rename_i xs vs a
    dsimp only at e
    by_cases hl : xs.length = n
    · rw [if_pos hl] at e
      refine ⟨a, vs, rfl, by rw [← hK]; exact ht, by rw [← rt.length]; exact hl, ?_⟩
      exact gNames_ok (fun i hi => hi) (rr.rx is) rt e fun σ' h1 h2 => h σ' (h1.trans (wipe_wipe fun u hu => hu)) h2
    · rw [if_neg hl] at e; cases e
  | _ => cases e
end
/-! ## 37. A list comprehension over what is walked -/
open Classical in
noncomputable def compW (n : Nat) (o : List (Nat × Ob)) (g : Tg) (tt : Tv) (fe : Ev) (ρ : Rho) : List Vl → M Vl
  | [] => fun S => if okL o S then some (.ok (.loc n) S) else none
  | x :: xs => fun S => if okL o S then match g x ρ with
    | none => none
    | some ρ1 => bnd (nr (tt ρ1)) (fun b => if b = true then bnd (nr (fe ρ1)) (fun y => bnd (mAppend (.loc n) y) fun _ => compW n o g tt fe ρ xs) else compW n o g tt fe ρ xs) S
    else none
noncomputable def eCompW (it : Rho → M Itm2) (g : Tg) (tt : Tv) (fe : Ev) : Ev := fun ρ => bnd (it ρ) fun p S => compW S.length p.1 g tt fe ρ p.2 (S ++ [.lst []])
section
variable {X : Cx} {G : GG} {W : WX} {k : Nat} {pos px : Pos} {x : Str} {elt iter tg : Expr} {ifs : List Expr} {scope : Scope} {it : Rho → M Itm2} {fe : Ev} {tt : Tv} {g : Tg} {gm : TG} {is : List Nat}
theorem compW_here {n o ρ xs S} (h : ¬ okL o S) : compW n o g tt fe ρ xs S = none := by
  cases xs <;> exact if_neg h
theorem compW_cons {n o ρ x xs S} (h : okL o S) : compW n o g tt fe ρ (x :: xs) S = match g x ρ with
    | none => none
    | some ρ1 => bnd (nr (tt ρ1)) (fun b => if b = true then bnd (nr (fe ρ1)) (fun y => bnd (mAppend (.loc n) y) fun _ => compW n o g tt fe ρ xs) else compW n o g tt fe ρ xs) S := if_pos h
theorem compW_read {σ : St} {H : Hp} {Q : VK} (ow : OwnT G g gm is) (h : T G W (eCompW it g tt fe) σ H Q) : tLc (TV G W it) gm (TTs G W0 tt) (T G W0 fe) is σ H Q := by
  obtain ⟨μ, ρ, S, rs, rr, run⟩ := h
  refine ⟨μ, ρ, S, rs, rr, run.bnd.imp (fun J H1 ⟨μ1, a, S1, g1, wk, rs1, run1⟩ D hD => ?_) fun _ _ _ _ z => z⟩
  obtain ⟨o, xs⟩ := a
  have gD : Gr μ1 H1 (μ1 ++ [D]) (upd H1 D (.lst [])) := ⟨fun n b e => by
    rw [List.getElem?_append_left (List.getElem?_eq_some_iff.mp e).1]; exact e, (gr_laid (μ := μ1) hD).tup, (gr_laid (μ := μ1) hD).frz⟩
  obtain ⟨rsD, _, hlast⟩ := rs1.new (o := .lst []) (ob := .lst []) hD ⟨[], upd_same, .nil⟩
  have run1' : Run G (Rv G) (compW S1.length o g tt fe ρ xs) (μ1 ++ [D]) (upd H1 D (.lst [])) (S1 ++ [.lst []]) Q (EW G W σ) := by
    obtain ⟨r, e, q⟩ := run1
    refine ⟨r, e, ?_⟩
    cases r with
    | ok a S' => exact fun μ' H' v gg => q μ' H' v (gD.trans gg)
    | er c S' => exact fun μ' H' gg => q μ' H' (gD.trans gg)
  have rr1 : RR G (μ1 ++ [D]) (upd H1 D (.lst [])) ρ σ := rr.up (g1.trans gD)
  generalize hn : S1.length = n at run1' hlast
  refine ⟨fun j m H2 => m = xs.length - j ∧ j ≤ xs.length ∧ ∃ μ2 S2, Gr (μ1 ++ [D]) (upd H1 D (.lst [])) μ2 H2 ∧ RS G μ2 H2 S2 ∧ Run G (Rv G) (compW n o g tt fe ρ (xs.drop j)) μ2 H2 S2 Q (EW G W σ),
    ⟨_, rfl, Nat.zero_le _, _, _, .refl, rsD, run1'⟩, fun j m H2 hW => ?_⟩
  obtain ⟨rfl, hj, μ2, S2, g2, rs2, run2⟩ := hW
  have hD2 : μ2[n]? = some D := g2.pre _ _ hlast
  by_cases hok2 : okL o S2
  case neg => exact run2.no (compW_here hok2)
  by_cases hlt : j < xs.length
  · obtain ⟨go, yld⟩ := wk.go j μ2 H2 S2 (gD.trans g2) rs2 hok2 hlt
    refine .inr ⟨go, fun H' => ∃ μ2 S2, Gr (μ1 ++ [D]) (upd H1 D (.lst [])) μ2 H' ∧ RS G μ2 H' S2 ∧ Run G (Rv G) (compW n o g tt fe ρ (xs.drop (j + 1))) μ2 H' S2 Q (EW G W σ), fun H' hx => ⟨xs.length - (j + 1), by omega, rfl, hlt, hx⟩, fun v H' hy => ?_⟩
    obtain ⟨gy, rsy, x1, hx1, rx⟩ := yld v H' hy
    have ed : xs.drop j = x1 :: xs.drop (j + 1) := by
      rw [List.drop_eq_getElem_cons hlt]
      rw [List.getElem?_eq_getElem hlt] at hx1
      cases hx1
      rfl
    rw [ed] at run2
    have gy2 := g2.trans gy
    cases eg : g x1 ρ with
    | none => exact (run2.later gy).no (by rw [compW_cons hok2, eg])
    | some ρ1 =>
      have run3 : Run G (Rv G) (bnd (nr (tt ρ1)) (fun b => if b = true then bnd (nr (fe ρ1)) (fun y => bnd (mAppend (.loc n) y) fun _ => compW n o g tt fe ρ (xs.drop (j + 1))) else compW n o g tt fe ρ (xs.drop (j + 1)))) μ2 H' S2 Q (EW G W σ) := (run2.later gy).cong (by rw [compW_cons hok2, eg])
      refine ow.ok rsy (rr1.up gy2) rx eg fun σ' hw rr2 => ⟨hw, μ2, _, S2, rsy, rr2, Run.nr (run3.bnd.imp (fun b H3 ⟨μ3, b', S3, g3, eb, rs3, run4⟩ => ?_) fun _ _ _ _ z => z)⟩
      cases eb
      cases b with
      | false => exact iteF ⟨μ3, S3, gy2.trans g3, rs3, run4.cong rfl⟩
      | true =>
        refine iteT ⟨μ3, _, S3, rs3, rr2.up g3, Run.nr ((run4.cong (m' := bnd (nr (fe ρ1)) (fun y => bnd (mAppend (.loc n) y) fun _ => compW n o g tt fe ρ (xs.drop (j + 1)))) rfl).bnd.imp (fun w H4 ⟨μ4, y, S4, g4, ry, rs4, run5⟩ => ?_) fun _ _ _ _ z => z)⟩
        have hD4 : μ4[n]? = some D := g4.pre _ _ (g3.pre _ _ hD2)
        cases e4 : S4[n]? with
        | none => exact run5.no (by simp only [bnd, mAppend, e4])
        | some ob =>
          cases ob with
          | dct => exact run5.no (by simp only [bnd, mAppend, e4])
          | lst ys =>
            obtain ⟨b, e5, ws, h5, r5⟩ := rs4.ob n _ e4
            rw [hD4] at e5; cases e5
            by_cases hz : ys.length < line
            · obtain ⟨rs6, g6⟩ := rs4.put e4 hD4 h5 (r5.app (.cons ry .nil))
              refine ⟨ws, h5, by rw [← r5.length, ← line_eq]; exact hz, μ4, S4.set n (.lst (ys ++ [y])), gy2.trans (g3.trans (g4.trans g6)), rs6, ?_⟩
              obtain ⟨r, e, q⟩ := run5
              refine ⟨r, by simpa only [bnd, mAppend, e4, if_pos hz] using e, ?_⟩
              cases r with
              | ok a S' => exact fun μ' H' v gg => q μ' H' v (g6.trans gg)
              | er c S' => exact fun μ' H' gg => q μ' H' (g6.trans gg)
            · exact run5.no (by simp only [bnd, mAppend, e4, if_neg hz])
  · refine .inl ⟨wk.stop j μ2 H2 S2 (gD.trans g2) rs2 hok2 (by show xs.length ≤ j; omega), ?_⟩
    rw [List.drop_of_length_le (by omega)] at run2
    exact run2.end_ (a := .loc n) (S1 := S2) (show compW n o g tt fe ρ [] S2 = some (.ok (.loc n) S2) from if_pos hok2) μ2 H2 _ .refl (.loc hD2) rs2
/-- own: the names of the target with their slots -/
theorem x_compW (at_ : At X G W k) (own : List (Str × Nat)) (hok : blkC X.N X.env.scope scope own = true) (hi : PI X tg iter (TV G W it)) (ow : OwnT G g gm (own.map (·.2)))
    (hg : ∀ (s : Shared) (H : Hp) (C : Addr) (cl : List (Str × Addr)) (fp : List Addr), PG (X.blk s H scope (compEnvC scope cl C X.env) fp) tg gm)
    (ht : ∀ Y : Cx, At Y G W0 k → (∃ s H C cl fp, Y = X.blk s H scope (compEnvC scope cl C X.env) fp) → PTs Y ifs (TTs G W0 tt))
    (he : ∀ Y : Cx, At Y G W0 k → (∃ s H C cl fp, Y = X.blk s H scope (compEnvC scope cl C X.env) fp) → PE Y elt (T G W0 fe)) (hs : ∀ y, foldedSetIterable iter X.env y = pure y := by intro _; rfl) :
    PE X (.ListComp elt [⟨tg, iter, ifs, 0⟩] scope pos) (T G W (eCompW it g tt fe)) := by
  have atY : ∀ s H C cl fp, At (X.blk s H scope (compEnvC scope cl C X.env) fp) G W0 k := fun s H C cl fp => ⟨at_.K, at_.mg, at_.room, at_.calm, takes0, PassesOwn.never, at_.nd, at_.gd⟩
  exact PE.imp (pe_lc (own := own) (g := gm) (tt := TTs G W0 tt) (te := T G W0 fe) at_.calm at_.nd hi (blkOk_by hok)
    hg (fun s H C cl fp => ht _ (atY s H C cl fp) ⟨s, H, C, cl, fp, rfl⟩) (fun s H C cl fp => he _ (atY s H C cl fp) ⟨s, H, C, cl, fp, rfl⟩) hs) fun σ H Q h => compW_read ow h
end
/-! ## 38. a = b = c = d = e -/
def setN : List Nat → Vl → Rho → Rho
  | [], _, ρ => ρ
  | i :: is, x, ρ => setN is x (ρ.set i (some x))
def sChn (is : List Nat) (f : Ev) : Sv := fun ρ => sBnd (f ρ) ρ fun v S => some (.ok (.nx (setN is v ρ)) S)
end Tw
end
section
set_option Elab.async false
set_option maxRecDepth 100000
set_option maxHeartbeats 4000000
set_option autoImplicit true
set_option linter.all false
set_option relaxedAutoImplicit true
namespace Tw
open PySem L2 PySem.Spec PyProof.Rows
/-! ## 39. A tuple times an int: once, never, of nothing -/
theorem tuple_mulS (l : Addr) (items : Array Value) (n : Nat) (dd : Option Addr) (sl : Array (Option Value)) (x : Int) (u : Tok) (c0 : (decide (x < -(2 ^ 63)) || decide (x ≥ 2 ^ 63)) = false) (c1 : (items.isEmpty || x == 1) = true) :
    Meets (Builtin.«tuple.__mul__» ⟨[.ref l, .int x u], []⟩) (fun _ R s => s.heap.get? l = some { cls := .type "tuple", dict := dd, data := .seq items n, slots := sl } ∧ R (.ok (.ret (Value.ref l))) s) :=
  .of_wp fun prog w A R s h => by
    obtain ⟨hp, g, d, tk, os⟩ := s
    obtain ⟨hl, h⟩ := h
    have f1 := AutoSeq1.idx_int
    wp_walk using wpAny_loadPart' hl
    repeat (first
      | (refine wpAny_ite_false (decide_eq_false (by rw [c0]; exact Bool.false_ne_true)) ?_; wp_walk using wpAny_loadPart' hl)
      | (refine wpAny_ite_true (decide_eq_true (by rw [c1])) ?_; wp_walk using wpAny_loadPart' hl)
      | (refine wpAny_ite_true c1 ?_; wp_walk using wpAny_loadPart' hl))
    exact ⟨_, rfl, h⟩
theorem tuple_mul0 (l : Addr) (items : Array Value) (n : Nat) (dd : Option Addr) (sl : Array (Option Value)) (x : Int) (u : Tok) (c0 : (decide (x < -(2 ^ 63)) || decide (x ≥ 2 ^ 63)) = false) (c1 : (items.isEmpty || x == 1) = false) (c2 : (decide (x ≤ 0) || items.isEmpty) = true) :
    Meets (Builtin.«tuple.__mul__» ⟨[.ref l, .int x u], []⟩) (fun _ R s => s.heap.get? l = some { cls := .type "tuple", dict := dd, data := .seq items n, slots := sl } ∧
      R (.ok (.ret (Value.ref s.heap.objs.size))) { s with heap := s.heap.push { cls := Value.type "tuple", data := Data.seq #[] }, toks := s.toks }) :=
  .of_wp fun prog w A R s h => by
    obtain ⟨hp, g, d, tk, os⟩ := s
    obtain ⟨hl, h⟩ := h
    have f1 := AutoSeq1.idx_int
    wp_walk using wpAny_loadPart' hl
    repeat (first
      | (refine wpAny_ite_false (decide_eq_false (by rw [c0]; exact Bool.false_ne_true)) ?_; wp_walk using wpAny_loadPart' hl)
      | (refine wpAny_ite_false (decide_eq_false (by rw [c1]; exact Bool.false_ne_true)) ?_; wp_walk using wpAny_loadPart' hl)
      | (refine wpAny_ite_true (decide_eq_true (by rw [c2])) ?_; wp_walk using wpAny_loadPart' hl)
      | (refine wpAny_ite_true c2 ?_; wp_walk using wpAny_loadPart' hl))
    exact ⟨_, rfl, h⟩
def rRepA (K : PySem.W.Frag) : R2 := fun x y H Q => ∃ l k xs, x = .ref l ∧ y = .int k ∧ SqT K H l xs ∧ -(2 ^ 63) ≤ k ∧ k < 2 ^ 63 ∧ (xs = [] ∨ k ≤ 1 ∨ k ≤ 1000 ∧ xs.length ≤ 1000) ∧ (xs = [] ∨ k = 1 → Q (.ref l) H) ∧
  (xs ≠ [] → k ≤ 0 → ∀ p, H p = none → Q (.ref p) (upd H p (.tup []))) ∧ (xs ≠ [] → 2 ≤ k → ∀ p, H p = none → Q (.ref p) (upd H p (.tup (List.replicate k.toNat xs).flatten)))
section
variable {X : Cx}
theorem op_repA : OpR X (binaryOp .Mult) (rRepA X.K) := by
  intro pins s σ H x y v u Q I rx ry h
  obtain ⟨l, k, xs, rfl, rfl, hT, h1, h2, hz, q1, q2, q3⟩ := h
  have c0 : (decide (k < -(2 ^ 63)) || decide (k ≥ 2 ^ 63)) = false := by
    rw [decide_eq_false (by omega), decide_eq_false (by omega)] <;> rfl
  by_cases hb : xs ≠ [] ∧ 2 ≤ k
  · have hz' : k ≤ 1000 ∧ xs.length ≤ 1000 := by
      rcases hz with z | z | z
      · exact absurd z hb.1
      · omega
      · exact z
    exact op_repT pins s σ H _ _ v u Q I rx ry ⟨l, k, xs, rfl, rfl, hT, hb.1, hb.2, hz'.1, hz'.2, q3 hb.1 hb.2⟩
  cases rx
  obtain ⟨t, rfl⟩ := ry
  obtain ⟨its, r, ⟨⟨cls, dd, data, sl⟩, ho, hc, n, hd⟩, hs⟩ := I.tuple hT
  simp only at hc hd
  subst hc hd
  have hle : its.length = xs.length := r.length.symm
  by_cases hs1 : xs = [] ∨ k = 1
  · have c1 : (its.toArray.isEmpty || k == 1) = true := by
      rcases hs1 with e | e
      · subst e
        have : its = [] := List.eq_nil_of_length_eq_zero hle
        subst this; rfl
      · subst e; simp
    refine wpAny_binaryOp_repeat_ref (T := "tuple") (U := "int") (by decide) ⟨_, ho, rfl⟩ (fun s' => typeIs_int s' k t) noFill_tuple_mul F.fills_int_mul F.slot_int_rmul repeat_tuple F.slot_int_index.lookup
      (call_meets F.slot_int_rmul (typeIs_int s k t) F.entry_int_rmul (F.args_int_rmul_2 _ _) (int_rmul_tuple k t l its.toArray n dd sl)
        ⟨ho, rfl, ⟨_, ho, rfl⟩, call_meets F.slot_tuple_mul ⟨_, ho, rfl⟩ F.entry_tuple_mul (F.args_tuple_mul_2 _ _) (tuple_mulS l its.toArray n dd sl k t c0 c1) ⟨ho, ?_⟩⟩)
    exact ⟨.ref l, H, I, rfl, q1 hs1⟩
  · have hne : xs ≠ [] := fun e => hs1 (.inl e)
    have hk : k ≤ 0 := by
      have : ¬ 2 ≤ k := fun z => hb ⟨hne, z⟩
      have : k ≠ 1 := fun z => hs1 (.inr z)
      omega
    have hn : its ≠ [] := fun e => hne (by
      rw [e] at hle
      exact List.eq_nil_of_length_eq_zero hle.symm)
    have hi : its.toArray.isEmpty = false := by
      cases its with
      | nil => exact absurd rfl hn
      | cons a b => rfl
    have c1 : (its.toArray.isEmpty || k == 1) = false := by
      rw [hi, Bool.false_or]
      exact beq_eq_false_iff_ne.mpr (by omega)
    have c2 : (decide (k ≤ 0) || its.toArray.isEmpty) = true := by
      rw [decide_eq_true hk]; rfl
    refine wpAny_binaryOp_repeat_ref (T := "tuple") (U := "int") (by decide) ⟨_, ho, rfl⟩ (fun s' => typeIs_int s' k t) noFill_tuple_mul F.fills_int_mul F.slot_int_rmul repeat_tuple F.slot_int_index.lookup
      (call_meets F.slot_int_rmul (typeIs_int s k t) F.entry_int_rmul (F.args_int_rmul_2 _ _) (int_rmul_tuple k t l its.toArray n dd sl)
        ⟨ho, rfl, ⟨_, ho, rfl⟩, call_meets F.slot_tuple_mul ⟨_, ho, rfl⟩ F.entry_tuple_mul (F.args_tuple_mul_2 _ _) (tuple_mul0 l its.toArray n dd sl k t c0 c1 c2) ⟨ho, ?_⟩⟩)
    refine ⟨.ref s.heap.objs.size, _, I.laid (t' := s.toks) (o := .tup []) (fun b ob q => Heap.get?_push_of_some _ q) (Nat.le_refl _) ?_, rfl, q2 hne hk _ (I.hok.fresh (Nat.le_refl _))⟩
    exact ⟨Nat.zero_le _, [], .nil, IsTup.new _ _⟩
end
def oMulA : Vl → Vl → M Vl
  | .tup a, .int k => if -(2 ^ 63) ≤ k ∧ k < 2 ^ 63 ∧ (a = [] ∨ k ≤ 1 ∨ k ≤ 1000 ∧ a.length ≤ 1000) then ret (.tup (List.replicate k.toNat a).flatten) else stuck
  | x, y => oMul x y
section
variable {G : GG} {X : Cx} {W : WX} {a b : Expr} {fa fb : Ev} {pos : Pos}
theorem om_mulA : OpM G (fun x y H Q => (rI CMulW (fun i j => V.int (i * j)) x y H Q ∨ rRepT G.K x y H Q ∨ rRep x y H Q) ∨ rRepA G.K x y H Q) oMulA := by
  intro μ H S x y v w Q EQ rs rx ry run
  by_cases ht : ∃ xs k, x = .tup xs ∧ y = .int k
  · obtain ⟨xs, k, rfl, rfl⟩ := ht
    cases ry
    cases rx with
    | tup h r =>
      rename_i vs a
      refine .inr ?_
      by_cases hz : -(2 ^ 63) ≤ k ∧ k < 2 ^ 63 ∧ (xs = [] ∨ k ≤ 1 ∨ k ≤ 1000 ∧ xs.length ≤ 1000)
      · replace run : Run G (Rv G) (ret (.tup (List.replicate k.toNat xs).flatten)) μ H S Q EQ := by simpa only [oMulA, if_pos hz] using run
        have hl := r.length
        have e0 : xs = [] ↔ vs = [] := by rw [← List.length_eq_zero_iff, ← List.length_eq_zero_iff, hl]
        refine ⟨a, k, vs, rfl, rfl, h, hz.1, hz.2.1, by rw [← e0, ← hl]; exact hz.2.2, fun q => ?_, fun _ hk p hp => ?_, fun _ _ p hp => ?_⟩
        · have e1 : (List.replicate k.toNat xs).flatten = xs := by
            rcases q with q | q
            · rw [e0.mpr q]; simp
            · rw [q]; simp
          rw [e1] at run
          exact run.ret (.tup h r) rs
        · have e1 : (List.replicate k.toNat xs).flatten = [] := by rw [show k.toNat = 0 by omega]; rfl
          rw [e1] at run
          exact run.end_ rfl μ _ _ (gr_laid hp) (.tup (.of upd_same) .nil) (rs.side hp)
        · exact run.end_ rfl μ _ _ (gr_laid hp) (.tup (.of upd_same) ((r.rep k.toNat).up (gr_laid hp))) (rs.side hp)
      · exact run.no (by simp only [oMulA, if_neg hz]; rfl)
  · have e : oMulA x y = oMul x y := by
      unfold oMulA
      split
      · exact absurd ⟨_, _, rfl, rfl⟩ ht
      · rfl
    rw [e] at run
    exact .inl (om_mul μ H S x y v w Q EQ rs rx ry run)
theorem x_mulA (ha : PE X a (T G W fa)) (hb : PE X b (T G W fb)) (hK : G.K = X.K := by rfl) : PE X (.BinOp a .Mult b pos) (T G W (eOp oMulA fa fb)) :=
  xe_op (by have := om_mulA (G := G); rw [hK] at this; exact this) ((op_mulW.or (op_repT.or op_rep)).or op_repA) ha hb
end
/-! ## 40. What the newest runs come to -/
section
variable {α : Type} {S : Store} {R : Vl → Store → Prop} {E : Str → Store → Prop} {ρ : Rho} {D : Dk}
theorem wp_mulAT {a : List Vl} {k : Int} : Wp (oMulA (.tup a) (.int k)) S R E ↔ (-(2 ^ 63) ≤ k ∧ k < 2 ^ 63 ∧ (a = [] ∨ k ≤ 1 ∨ k ≤ 1000 ∧ a.length ≤ 1000)) ∧ R (.tup (List.replicate k.toNat a).flatten) S := by simp only [oMulA, wp_ifs, wp_ret]
theorem wp_mulAI {i j : Int} : Wp (oMulA (.int i) (.int j)) S R E ↔ i.natAbs.log2 + j.natAbs.log2 < 1000000 ∧ R (.int (i * j)) S := by simp only [oMulA, wp_mul]
theorem wp_star {a : Ev} {r : Evs} {Q : List Vl → Store → Prop} : Wp (aStar a r ρ) S Q E ↔ Wp (a ρ) S (fun x S1 => Wp (seqM x) S1 (fun p S2 => Wp (r ρ) S2 (fun ys S3 => Q (p.2 ++ ys) S3) E) E) E := by simp only [aStar, wp_bnd, wp_ret]
theorem wp_seqT {xs : List Vl} {Q : Itm2 → Store → Prop} : Wp (seqM (.tup xs)) S Q E ↔ Q ([], xs) S := Iff.rfl
theorem wp_seqL {n : Nat} {Q : Itm2 → Store → Prop} : Wp (seqM (.loc n)) S Q E ↔ ∃ xs, S[n]? = some (.lst xs) ∧ Q ([(n, .lst xs)], xs) S := by
  cases h : S[n]? with
  | none => simp [Wp, seqM, h]
  | some o => cases o <;> simp [Wp, seqM, h]
theorem wp_lstM {n : Nat} {Q : List Vl → Store → Prop} : Wp (lstM (.loc n)) S Q E ↔ ∃ xs, S[n]? = some (.lst xs) ∧ Q xs S := by
  cases h : S[n]? with
  | none => simp [Wp, lstM, h]
  | some o => cases o <;> simp [Wp, lstM, h]
theorem wp_boolL {n : Nat} : Wp (bBool [.loc n]) S R E ↔ ∃ xs, S[n]? = some (.lst xs) ∧ R (.bl (!xs.isEmpty)) S := by
  show Wp (bnd (lstM (.loc n)) fun xs => _) S R E ↔ _
  rw [wp_bnd, wp_lstM]; rfl
theorem wp_slL {n : Nat} {l h : Option Int} : Wp (oSl (.loc n) l h) S R E ↔ ∃ xs, S[n]? = some (.lst xs) ∧ (cut xs l h).length ≤ line ∧ R (.loc S.length) (S ++ [.lst (cut xs l h)]) := by
  show Wp (bnd (getL (.loc n)) fun xs => newL (cut xs l h)) S R E ↔ _
  simp only [wp_bnd, wp_getL, wp_newL]
theorem wp_addL {m n : Nat} : Wp (oAdd (.loc m) (.loc n)) S R E ↔ ∃ xs ys, S[m]? = some (.lst xs) ∧ S[n]? = some (.lst ys) ∧ xs.length + ys.length ≤ line ∧ R (.loc S.length) (S ++ [.lst (xs ++ ys)]) := by
  have e0 : oAdd (.loc m) (.loc n) S = match S[m]?, S[n]? with
    | some (.lst a), some (.lst b) => if a.length + b.length ≤ line then newL (a ++ b) S else none
    | _, _ => none := rfl
  unfold Wp
  rw [e0]
  cases h1 : S[m]? with
  | none => simp
  | some o => cases o with
    | dct => simp
    | lst xs => cases h2 : S[n]? with
      | none => simp
      | some o2 => cases o2 with
        | dct => simp
        | lst ys =>
          by_cases hz : xs.length + ys.length ≤ line
          · have hz' : (xs ++ ys).length ≤ line := by simpa using hz
            simp [hz, newL, hz']
          · simp [hz]
theorem ws_chn {is : List Nat} {f : Ev} : Ws (sChn is f ρ S) D ↔ Wp (f ρ) S (fun v S1 => D.nx (setN is v ρ) S1) (fun c S1 => D.er c ρ S1) := by unfold sChn; rw [ws_bnd]; rfl
end
end Tw
end
section
set_option Elab.async false
set_option maxRecDepth 100000
set_option maxHeartbeats 3000000
set_option autoImplicit true
set_option linter.all false
set_option relaxedAutoImplicit true
namespace Tw
open PySem L2
/-! ## 41. Runs that only lay new things -/
/-- m comes to a, with T laid behind the store -/
def Gw {α : Type} (m : M α) (S : Store) (a : α) : Prop := ∃ T, m S = some (.ok a (S ++ T))
theorem Gw.of {α : Type} {m : M α} {S : Store} {a : α} (h : m S = some (.ok a S)) : Gw m S a := ⟨[], by rw [h, List.append_nil]⟩
theorem wpg {α : Type} {m : M α} {S : Store} {a : α} (h : Wp m S (fun b S2 => b = a ∧ ∃ T, S2 = S ++ T) fun _ _ => False) : Gw m S a := by
  unfold Wp at h
  split at h
  · next e => obtain ⟨rfl, T, rfl⟩ := h; exact ⟨T, e⟩
  · exact h.elim
  · exact h.elim
theorem nr_of {α : Type} {m : M α} {S S1 : Store} {a : α} (h : m S = some (.ok a S1)) : nr m S = some (.ok a S1) := by unfold nr; rw [h]
theorem wp_nr {α : Type} {m : M α} {S : Store} {Q : α → Store → Prop} {E : Str → Store → Prop} (h : Wp m S Q fun _ _ => False) : Wp (nr m) S Q E := by
  unfold Wp nr at *
  revert h
  cases m S with
  | none => intro h; exact h
  | some r => cases r with
    | ok a S1 => intro h; exact h
    | er c S1 => intro h; exact h.elim
theorem bnd_of {α β : Type} {m : M α} {f : α → M β} {S S1 : Store} {a : α} (h : m S = some (.ok a S1)) : bnd m f S = f a S1 := by unfold bnd; rw [h]
theorem wp_comp {it : Rho → M Itms} {i : Nat} {tt : Tv} {fe : Ev} {ρ : Rho} {S : Store} {R : Vl → Store → Prop} {E : Str → Store → Prop} : Wp (eComp it i tt fe ρ) S R E ↔ Wp (it ρ) S (fun p S1 => Wp (compL S1.length p.1 i tt fe ρ p.2) (S1 ++ [.lst []]) R E) E := by
  unfold eComp; rw [wp_bnd]; rfl
theorem wp_rg1 {ρ : Rho} {S : Store} {E : Str → Store → Prop} {fi : Ev} {Q : Itms → Store → Prop} : Wp (wRg1 fi ρ) S Q E ↔ Wp (fi ρ) S (fun x S1 => ∃ j, x = .int j ∧ (-(2 ^ 62) ≤ j ∧ j < 2 ^ 62) ∧ Q (none, irange 0 j.toNat) S1) E := by
  unfold wRg1; rw [wp_bnd]
  refine iff_of_eq (congrArg (fun q => Wp (fi ρ) S q _) (funext fun x => funext fun S1 => propext ?_))
  cases x with
  | int j =>
    show Wp (if -(2 ^ 62) ≤ j ∧ j < 2 ^ 62 then ret ((none, irange 0 j.toNat) : Itms) else stuck) S1 Q E ↔ _
    rw [wp_ifs, wp_ret]
    exact ⟨fun ⟨h, z⟩ => ⟨j, rfl, h, z⟩, fun ⟨_, e, h, z⟩ => by cases e; exact ⟨h, z⟩⟩
  | _ => exact ⟨fun z => z.elim, fun ⟨_, e, _⟩ => nomatch e⟩
theorem ap_get {S T : Store} {i : Nat} {o : Ob} (h : S[i]? = some o) : (S ++ T)[i]? = some o := by
  rw [List.getElem?_append_left (List.getElem?_eq_some_iff.mp h).1]; exact h
theorem acc_get {S T : Store} {o : Ob} : (S ++ [o] ++ T)[S.length]? = some o := by simp
theorem acc_set {S T : Store} {o u : Ob} : (S ++ [o] ++ T).set S.length u = S ++ [u] ++ T := by simp
theorem okS_ap {S T : Store} {o : Option (Nat × Ob)} (h : okS o S) : okS o (S ++ T) := by
  cases o with
  | none => trivial
  | some p => exact ap_get h
theorem okL_ap {S T : Store} {o : List (Nat × Ob)} (h : okL o S) : okL o (S ++ T) := fun p hp => ap_get (h p hp)
/-- a comprehension whose parts only lay new things -/
theorem compL_gw {o : Option (Nat × Ob)} {i : Nat} {tt : Tv} {fe : Ev} {ρ : Rho} {p : Vl → Bool} {f : Vl → Vl} {S : Store} (ho : okS o S) :
    ∀ (xs : List Vl) (acc : List Vl) (T : Store), acc.length + xs.length ≤ line → (∀ x ∈ xs, ∀ U, Gw (tt (ρ.set i (some x))) (S ++ U) (p x)) → (∀ x ∈ xs, ∀ U, p x = true → Gw (fe (ρ.set i (some x))) (S ++ U) (f x)) →
    ∃ T', compL S.length o i tt fe ρ xs (S ++ [.lst acc] ++ T) = some (.ok (.loc S.length) (S ++ [.lst (acc ++ (xs.filter p).map f)] ++ T'))
  | [], acc, T, hl, ht, he => by
    refine ⟨T, ?_⟩
    rw [show compL S.length o i tt fe ρ [] (S ++ [.lst acc] ++ T) = some (.ok (.loc S.length) (S ++ [.lst acc] ++ T)) from if_pos (okS_ap (okS_ap ho))]
    simp
  | x :: xs, acc, T, hl, ht, he => by
    have e0 : compL S.length o i tt fe ρ (x :: xs) (S ++ [.lst acc] ++ T) = bnd (nr (tt (ρ.set i (some x)))) (fun b => if b = true then bnd (nr (fe (ρ.set i (some x)))) (fun y => bnd (mAppend (.loc S.length) y) fun _ => compL S.length o i tt fe ρ xs) else compL S.length o i tt fe ρ xs) (S ++ [.lst acc] ++ T) := if_pos (okS_ap (okS_ap ho))
    rw [e0]
    obtain ⟨T1, e1⟩ := ht x List.mem_cons_self ([.lst acc] ++ T)
    rw [← List.append_assoc, List.append_assoc (S ++ [Ob.lst acc]) T T1] at e1
    rw [bnd_of (nr_of e1)]
    have hl' : acc.length + (xs.length + 1) ≤ line := by simpa using hl
    cases hp : p x with
    | false =>
      have := compL_gw (p := p) (f := f) ho xs acc (T ++ T1) (by omega) (fun y hy => ht y (List.mem_cons_of_mem _ hy)) fun y hy => he y (List.mem_cons_of_mem _ hy)
      rw [List.filter_cons_of_neg (by rw [hp]; decide)]
      exact this
    | true =>
      rw [List.filter_cons_of_pos hp, List.map_cons]
      obtain ⟨T2, e2⟩ := he x List.mem_cons_self ([.lst acc] ++ (T ++ T1)) hp
      rw [← List.append_assoc, List.append_assoc (S ++ [Ob.lst acc]) (T ++ T1) T2] at e2
      show ∃ T', bnd (nr (fe (ρ.set i (some x)))) (fun y => bnd (mAppend (.loc S.length) y) fun _ => compL S.length o i tt fe ρ xs) (S ++ [.lst acc] ++ (T ++ T1)) = _
      rw [bnd_of (nr_of e2)]
      have e3 : mAppend (.loc S.length) (f x) (S ++ [.lst acc] ++ (T ++ T1 ++ T2)) = some (.ok .non (S ++ [.lst (acc ++ [f x])] ++ (T ++ T1 ++ T2))) := by
        have hz : acc.length < line := by omega
        unfold mAppend
        simp only [acc_get, if_pos hz, acc_set]
      rw [bnd_of e3]
      obtain ⟨T', e4⟩ := compL_gw (p := p) (f := f) ho xs (acc ++ [f x]) (T ++ T1 ++ T2) (by simp; omega) (fun y hy => ht y (List.mem_cons_of_mem _ hy)) fun y hy => he y (List.mem_cons_of_mem _ hy)
      exact ⟨T', by rw [e4]; simp⟩
theorem compW_gw {o : List (Nat × Ob)} {g : Tg} {r : Vl → Rho} {tt : Tv} {fe : Ev} {ρ : Rho} {p : Vl → Bool} {f : Vl → Vl} {S : Store} (ho : okL o S) :
    ∀ (xs : List Vl) (acc : List Vl) (T : Store), acc.length + xs.length ≤ line → (∀ x ∈ xs, g x ρ = some (r x)) → (∀ x ∈ xs, ∀ U, Gw (tt (r x)) (S ++ U) (p x)) → (∀ x ∈ xs, ∀ U, p x = true → Gw (fe (r x)) (S ++ U) (f x)) →
    ∃ T', compW S.length o g tt fe ρ xs (S ++ [.lst acc] ++ T) = some (.ok (.loc S.length) (S ++ [.lst (acc ++ (xs.filter p).map f)] ++ T'))
  | [], acc, T, hl, hg, ht, he => by
    refine ⟨T, ?_⟩
    rw [show compW S.length o g tt fe ρ [] (S ++ [.lst acc] ++ T) = some (.ok (.loc S.length) (S ++ [.lst acc] ++ T)) from if_pos (okL_ap (okL_ap ho))]
    simp
  | x :: xs, acc, T, hl, hg, ht, he => by
    rw [compW_cons (okL_ap (okL_ap ho)), hg x List.mem_cons_self]
    dsimp only
    obtain ⟨T1, e1⟩ := ht x List.mem_cons_self ([.lst acc] ++ T)
    rw [← List.append_assoc, List.append_assoc (S ++ [Ob.lst acc]) T T1] at e1
    rw [bnd_of (nr_of e1)]
    have hl' : acc.length + (xs.length + 1) ≤ line := by simpa using hl
    cases hp : p x with
    | false =>
      have := compW_gw (p := p) (f := f) ho xs acc (T ++ T1) (by omega) (fun y hy => hg y (List.mem_cons_of_mem _ hy)) (fun y hy => ht y (List.mem_cons_of_mem _ hy)) fun y hy => he y (List.mem_cons_of_mem _ hy)
      rw [List.filter_cons_of_neg (by rw [hp]; decide)]
      exact this
    | true =>
      rw [List.filter_cons_of_pos hp, List.map_cons]
      obtain ⟨T2, e2⟩ := he x List.mem_cons_self ([.lst acc] ++ (T ++ T1)) hp
      rw [← List.append_assoc, List.append_assoc (S ++ [Ob.lst acc]) (T ++ T1) T2] at e2
      show ∃ T', bnd (nr (fe (r x))) (fun y => bnd (mAppend (.loc S.length) y) fun _ => compW S.length o g tt fe ρ xs) (S ++ [.lst acc] ++ (T ++ T1)) = _
      rw [bnd_of (nr_of e2)]
      have e3 : mAppend (.loc S.length) (f x) (S ++ [.lst acc] ++ (T ++ T1 ++ T2)) = some (.ok .non (S ++ [.lst (acc ++ [f x])] ++ (T ++ T1 ++ T2))) := by
        have hz : acc.length < line := by omega
        unfold mAppend
        simp only [acc_get, if_pos hz, acc_set]
      rw [bnd_of e3]
      obtain ⟨T', e4⟩ := compW_gw (p := p) (f := f) ho xs (acc ++ [f x]) (T ++ T1 ++ T2) (by simp; omega) (fun y hy => hg y (List.mem_cons_of_mem _ hy)) (fun y hy => ht y (List.mem_cons_of_mem _ hy)) fun y hy => he y (List.mem_cons_of_mem _ hy)
      exact ⟨T', by rw [e4]; simp⟩
/-- what comes out of a comprehension: a list at the place S1.length -/
theorem comp_gw {it : Rho → M Itms} {o : Option (Nat × Ob)} {i : Nat} {tt : Tv} {fe : Ev} {ρ : Rho} {xs : List Vl} {S S1 : Store} (p : Vl → Bool) (f : Vl → Vl) (hi : it ρ S = some (.ok (o, xs) S1)) (ho : okS o S1) (hl : xs.length ≤ line)
    (ht : ∀ x ∈ xs, ∀ U, Gw (tt (ρ.set i (some x))) (S1 ++ U) (p x)) (he : ∀ x ∈ xs, ∀ U, p x = true → Gw (fe (ρ.set i (some x))) (S1 ++ U) (f x)) : ∃ T, eComp it i tt fe ρ S = some (.ok (.loc S1.length) (S1 ++ [.lst ((xs.filter p).map f)] ++ T)) := by
  obtain ⟨T, e⟩ := compL_gw (p := p) (f := f) ho xs [] [] (by simpa using hl) ht he
  refine ⟨T, ?_⟩
  unfold eComp
  rw [bnd_of hi]
  rw [List.append_nil] at e
  rw [e, List.nil_append]
theorem compw_gw {it : Rho → M Itm2} {o : List (Nat × Ob)} {g : Tg} {tt : Tv} {fe : Ev} {ρ : Rho} {xs : List Vl} {S S1 : Store} (r : Vl → Rho) (p : Vl → Bool) (f : Vl → Vl) (hi : it ρ S = some (.ok (o, xs) S1)) (ho : okL o S1) (hl : xs.length ≤ line)
    (hg : ∀ x ∈ xs, g x ρ = some (r x)) (ht : ∀ x ∈ xs, ∀ U, Gw (tt (r x)) (S1 ++ U) (p x)) (he : ∀ x ∈ xs, ∀ U, p x = true → Gw (fe (r x)) (S1 ++ U) (f x)) : ∃ T, eCompW it g tt fe ρ S = some (.ok (.loc S1.length) (S1 ++ [.lst ((xs.filter p).map f)] ++ T)) := by
  obtain ⟨T, e⟩ := compW_gw (p := p) (f := f) ho xs [] [] (by simpa using hl) hg ht he
  refine ⟨T, ?_⟩
  unfold eCompW
  rw [bnd_of hi]
  rw [List.append_nil] at e
  rw [e, List.nil_append]
theorem gw_true {ρ : Rho} {S : Store} : Gw (tTrue ρ) S true := ⟨[], by rw [List.append_nil]; rfl⟩
theorem filter_true {xs : List Vl} : xs.filter (fun _ => true) = xs := by simp
/-! a comprehension told by what holds at each turn -/
theorem wp_compL {n : Nat} {o : Option (Nat × Ob)} {i : Nat} {tt : Tv} {fe : Ev} {ρ : Rho} {Q : Vl → Store → Prop} {E : Str → Store → Prop} (J : Nat → Store → Prop) : ∀ (xs : List Vl) (k : Nat) (S : Store), J k S →
    (∀ j x S, xs[j]? = some x → J (k + j) S → okS o S ∧ Wp (tt (ρ.set i (some x))) S (fun b S1 => (b = true → Wp (fe (ρ.set i (some x))) S1 (fun y S2 => ∃ acc, S2[n]? = some (.lst acc) ∧ acc.length < line ∧ J (k + j + 1) (S2.set n (.lst (acc ++ [y])))) fun _ _ => False) ∧ (b = false → J (k + j + 1) S1)) fun _ _ => False) →
    (∀ S, J (k + xs.length) S → okS o S ∧ Q (.loc n) S) → Wp (compL n o i tt fe ρ xs) S Q E
  | [], k, S, h0, hs, he => by
    obtain ⟨h1, h2⟩ := he S h0
    have e : compL n o i tt fe ρ [] S = some (.ok (.loc n) S) := if_pos h1
    exact (wp_of e).mpr h2
  | x :: xs, k, S, h0, hs, he => by
    obtain ⟨h1, h2⟩ := hs 0 x S rfl h0
    have go : ∀ S1, J (k + 1) S1 → Wp (compL n o i tt fe ρ xs) S1 Q E := fun S1 h => wp_compL J xs (k + 1) S1 h
      (fun j y S hy hj => by have := hs (j + 1) y S (by simpa using hy) (by rw [show k + (j + 1) = k + 1 + j by omega]; exact hj); rw [show k + (j + 1) = k + 1 + j by omega] at this; exact this)
      (fun S hj => he S (by rw [show k + (x :: xs).length = k + 1 + xs.length by simp; omega]; exact hj))
    have e : compL n o i tt fe ρ (x :: xs) S = bnd (nr (tt (ρ.set i (some x)))) (fun b => if b = true then bnd (nr (fe (ρ.set i (some x)))) (fun y => bnd (mAppend (.loc n) y) fun _ => compL n o i tt fe ρ xs) else compL n o i tt fe ρ xs) S := if_pos h1
    have h3 : Wp (bnd (nr (tt (ρ.set i (some x)))) (fun b => if b = true then bnd (nr (fe (ρ.set i (some x)))) (fun y => bnd (mAppend (.loc n) y) fun _ => compL n o i tt fe ρ xs) else compL n o i tt fe ρ xs)) S Q E := by
      rw [wp_bnd]
      refine wp_nr (h2.imp fun b S1 hb => ?_)
      cases b with
      | false => exact go S1 (hb.2 rfl)
      | true =>
        show Wp (bnd (nr (fe (ρ.set i (some x)))) (fun y => bnd (mAppend (.loc n) y) fun _ => compL n o i tt fe ρ xs)) S1 Q E
        rw [wp_bnd]
        refine wp_nr ((hb.1 rfl).imp fun y S2 ⟨acc, q1, q2, q3⟩ => ?_)
        rw [wp_bnd, wp_append]
        exact ⟨acc, q1, q2, go _ q3⟩
    unfold Wp at h3 ⊢
    rw [e]
    exact h3
/-! a for over what is walked -/
end Tw
end
section
set_option Elab.async false
set_option maxRecDepth 100000
set_option maxHeartbeats 3000000
set_option linter.all false
namespace Tw
open PySem L2
/-! ## 42. More of what runs come to -/
def isSome' : Vl → Bool
  | .non => false
  | _ => true
theorem isS_non : isSome' .non = false := rfl
theorem isS_int {i : Int} : isSome' (.int i) = true := rfl
theorem isS_tup {xs : List Vl} : isSome' (.tup xs) = true := rfl
theorem isS_bl {b : Bool} : isSome' (.bl b) = true := rfl
theorem isS_loc {n : Nat} : isSome' (.loc n) = true := rfl
section
variable {S : Store} {R : Vl → Store → Prop} {E : Str → Store → Prop} {ρ : Rho}
theorem wp_not0' {x : Vl} : Wp (oNot0 x .non) S R E ↔ R (.bl (isSome' x)) S := by cases x <;> exact Iff.rfl
theorem wp_is0' {x : Vl} : Wp (oIs0 x .non) S R E ↔ R (.bl (!isSome' x)) S := by cases x <;> exact Iff.rfl
theorem wseq_L {fi : Ev} {n : Nat} {S1 : Store} {vs : List Vl} (h : fi ρ S = some (.ok (.loc n) S1)) (hn : S1[n]? = some (.lst vs)) : wSeq fi ρ S = some (.ok (some (n, .lst vs), vs) S1) := by
  unfold wSeq; rw [bnd_of h]; simp only [hn]
theorem wseq_T {fi : Ev} {S1 : Store} {vs : List Vl} (h : fi ρ S = some (.ok (.tup vs) S1)) : wSeq fi ρ S = some (.ok (none, vs) S1) := by
  unfold wSeq; rw [bnd_of h]; rfl
theorem okL_one {S : Store} {n : Nat} {o : Ob} (h : S[n]? = some o) : okL [(n, o)] S := fun p hp => by
  simp only [List.mem_singleton] at hp; subst hp; exact h
theorem wp_comp_gw {it : Rho → M Itms} {o : Option (Nat × Ob)} {i : Nat} {tt : Tv} {fe : Ev} {xs : List Vl} {S1 : Store} (p : Vl → Bool) (f : Vl → Vl) (hi : it ρ S = some (.ok (o, xs) S1)) (ho : okS o S1) (hl : xs.length ≤ line)
    (ht : ∀ x ∈ xs, ∀ U, Gw (tt (ρ.set i (some x))) (S1 ++ U) (p x)) (he : ∀ x ∈ xs, ∀ U, p x = true → Gw (fe (ρ.set i (some x))) (S1 ++ U) (f x)) (q : ∀ T, R (.loc S1.length) (S1 ++ [.lst ((xs.filter p).map f)] ++ T)) : Wp (eComp it i tt fe ρ) S R E := by
  obtain ⟨T, e⟩ := comp_gw p f hi ho hl ht he
  exact (wp_of e).mpr (q T)
theorem wp_comp_map {it : Rho → M Itms} {o : Option (Nat × Ob)} {i : Nat} {fe : Ev} {xs : List Vl} {S1 : Store} (f : Vl → Vl) (hi : it ρ S = some (.ok (o, xs) S1)) (ho : okS o S1) (hl : xs.length ≤ line)
    (he : ∀ x ∈ xs, ∀ U, Gw (fe (ρ.set i (some x))) (S1 ++ U) (f x)) (q : ∀ T, R (.loc S1.length) (S1 ++ [.lst (xs.map f)] ++ T)) : Wp (eComp it i tTrue fe ρ) S R E :=
  wp_comp_gw (fun _ => true) f hi ho hl (fun x hx U => gw_true) (fun x hx U _ => he x hx U) (by rw [filter_true]; exact q)
theorem wp_compw_gw {it : Rho → M Itm2} {o : List (Nat × Ob)} {g : Tg} {tt : Tv} {fe : Ev} {xs : List Vl} {S1 : Store} (r : Vl → Rho) (p : Vl → Bool) (f : Vl → Vl) (hi : it ρ S = some (.ok (o, xs) S1)) (ho : okL o S1) (hl : xs.length ≤ line)
    (hg : ∀ x ∈ xs, g x ρ = some (r x)) (ht : ∀ x ∈ xs, ∀ U, Gw (tt (r x)) (S1 ++ U) (p x)) (he : ∀ x ∈ xs, ∀ U, p x = true → Gw (fe (r x)) (S1 ++ U) (f x)) (q : ∀ T, R (.loc S1.length) (S1 ++ [.lst ((xs.filter p).map f)] ++ T)) : Wp (eCompW it g tt fe ρ) S R E := by
  obtain ⟨T, e⟩ := compw_gw r p f hi ho hl hg ht he
  exact (wp_of e).mpr (q T)
theorem wp_compw_map {it : Rho → M Itm2} {o : List (Nat × Ob)} {g : Tg} {fe : Ev} {xs : List Vl} {S1 : Store} (r : Vl → Rho) (f : Vl → Vl) (hi : it ρ S = some (.ok (o, xs) S1)) (ho : okL o S1) (hl : xs.length ≤ line)
    (hg : ∀ x ∈ xs, g x ρ = some (r x)) (he : ∀ x ∈ xs, ∀ U, Gw (fe (r x)) (S1 ++ U) (f x)) (q : ∀ T, R (.loc S1.length) (S1 ++ [.lst (xs.map f)] ++ T)) : Wp (eCompW it g tTrue fe ρ) S R E :=
  wp_compw_gw r (fun _ => true) f hi ho hl hg (fun x hx U => gw_true) (fun x hx U _ => he x hx U) (by rw [filter_true]; exact q)
end
theorem ws_loopL {n : Nat} {o : Ob} {g : Tg} {b : Sv} {D : Dk} (J : Nat → Rho → Store → Prop) : ∀ (xs : List Vl) (k : Nat) (ρ : Rho) (S : Store), J k ρ S →
    (∀ i x ρ S, xs[i]? = some x → J (k + i) ρ S → S[n]? = some o ∧ ∃ ρ0, g x ρ = some ρ0 ∧ Ws (b ρ0 S) ⟨J (k + i + 1), D.rt, D.nx, J (k + i + 1), D.er⟩) → (∀ ρ S, J (k + xs.length) ρ S → S[n]? = some o ∧ D.nx ρ S) → Ws (loopL n o g b xs ρ S) D
  | [], k, ρ, S, h0, hs, he => by
    obtain ⟨h1, h2⟩ := he ρ S h0
    have e : loopL n o g b [] ρ S = some (.ok (.nx ρ) S) := if_pos h1
    rw [e]; exact h2
  | x :: xs, k, ρ, S, h0, hs, he => by
    obtain ⟨h1, ρ0, e, h⟩ := hs 0 x ρ S rfl h0
    have go : ∀ ρ1 S1, J (k + 1) ρ1 S1 → Ws (loopL n o g b xs ρ1 S1) D := fun ρ1 S1 h1 => ws_loopL J xs (k + 1) ρ1 S1 h1
      (fun i y ρ S hy hj => by have := hs (i + 1) y ρ S (by simpa using hy) (by rw [show k + (i + 1) = k + 1 + i by omega]; exact hj); rw [show k + (i + 1) = k + 1 + i by omega] at this; exact this)
      (fun ρ S hj => he ρ S (by rw [show k + (x :: xs).length = k + 1 + xs.length by simp; omega]; exact hj))
    have e1 : loopL n o g b (x :: xs) ρ S = match g x ρ with
      | none => none
      | some ρ0 => match b ρ0 S with
        | some (.ok (.nx ρ1) S1) => loopL n o g b xs ρ1 S1
        | some (.ok (.ct ρ1) S1) => loopL n o g b xs ρ1 S1
        | some (.ok (.bk ρ1) S1) => some (.ok (.nx ρ1) S1)
        | some (.ok (.rt v) S1) => some (.ok (.rt v) S1)
        | some (.er c ρ1 S1) => some (.er c ρ1 S1)
        | none => none := if_pos h1
    rw [e1]
    simp only [e]
    revert h
    cases b ρ0 S with
    | none => intro h; exact h
    | some r => cases r with
      | ok f S1 => cases f with
        | nx ρ1 => exact go ρ1 S1
        | ct ρ1 => exact go ρ1 S1
        | bk ρ1 => intro h; exact h
        | rt v => intro h; exact h
      | er c ρ1 S1 => intro h; exact h
theorem ws_forL {f : Ev} {g : Tg} {b : Sv} {ρ : Rho} {S S1 : Store} {n : Nat} {xs : List Vl} {D : Dk} (h : f ρ S = some (.ok (.loc n) S1)) (hn : S1[n]? = some (.lst xs)) : Ws (sFor f g b ρ S) D ↔ Ws (loopL n (.lst xs) g b xs ρ S1) D := by
  unfold sFor
  rw [ws_bnd, wp_of h]
  simp only [hn]
end Tw
end
section
set_option Elab.async false
set_option maxRecDepth 100000
set_option maxHeartbeats 3000000
set_option linter.all false
namespace Tw
open PySem L2
theorem kq_NoneType_list : kitB "NoneType" "list" = some false := by decide +kernel
theorem kq_NoneType_tuple : kitB "NoneType" "tuple" = some false := by decide +kernel
theorem kq_NoneType_bool : kitB "NoneType" "bool" = some false := by decide +kernel
theorem kq_NoneType_int : kitB "NoneType" "int" = some false := by decide +kernel
theorem kq_NoneType_str : kitB "NoneType" "str" = some false := by decide +kernel
theorem kq_bool_list : kitB "bool" "list" = some false := by decide +kernel
theorem kq_bool_tuple : kitB "bool" "tuple" = some false := by decide +kernel
theorem kq_bool_bool : kitB "bool" "bool" = some true := by decide +kernel
theorem kq_int_list : kitB "int" "list" = some false := by decide +kernel
theorem kq_int_tuple : kitB "int" "tuple" = some false := by decide +kernel
theorem kq_int_bool : kitB "int" "bool" = some false := by decide +kernel
theorem kq_int_int : kitB "int" "int" = some true := by decide +kernel
theorem kq_str_list : kitB "str" "list" = some false := by decide +kernel
theorem kq_str_tuple : kitB "str" "tuple" = some false := by decide +kernel
theorem kq_str_bool : kitB "str" "bool" = some false := by decide +kernel
theorem kq_str_int : kitB "str" "int" = some false := by decide +kernel
theorem kq_str_str : kitB "str" "str" = some true := by decide +kernel
theorem kq_tuple_list : kitB "tuple" "list" = some false := by decide +kernel
theorem kq_tuple_tuple : kitB "tuple" "tuple" = some true := by decide +kernel
theorem kq_list_list : kitB "list" "list" = some true := by decide +kernel
/-! ## 43. The laws' own equality -/
noncomputable def lawAllB (f : List Vl → M Vl) : Sv :=
  sSeq (sForR1 (eCall bLen (aCons (eVar 1) (aNil))) (gSlot 2) (sIf (tNot (tVal (eCall f (aCons (eOp oIx (eVar 0) (eVar 2)) (aCons (eOp oIx (eVar 1) (eVar 2)) (aNil)))))) (sRet (eC (.bl false))) (sNext)))
  (sRet (eC (.bl true)))
noncomputable def lawAll (f : List Vl → M Vl) : List Vl → M Vl := fnM 2 3 (lawAllB f)
def atomV : Vl → Bool
  | .non => true
  | .int _ => true
  | .bl _ => true
  | .str _ => true
  | _ => false
/-- alike, as data -/
def Alk (S : Store) : Nat → Vl → Vl → Prop
  | 0, v, w => v = w ∧ atomV v = true
  | k + 1, v, w => (v = w ∧ atomV v = true) ∨ (∃ xs ys, v = .tup xs ∧ w = .tup ys ∧ xs.length = ys.length ∧ ys.length ≤ line ∧ ∀ (i : Nat) (x y : Vl), xs[i]? = some x → ys[i]? = some y → Alk S k x y) ∨
    ∃ m n xs ys, v = .loc m ∧ w = .loc n ∧ S[m]? = some (.lst xs) ∧ S[n]? = some (.lst ys) ∧ xs.length = ys.length ∧ ys.length ≤ line ∧ ∀ (i : Nat) (x y : Vl), xs[i]? = some x → ys[i]? = some y → Alk S k x y
theorem isi_q {S : Store} {v : Vl} {n t : String} {b : Bool} (h : tyN S v = some t) (k : kitB t n = some b) : bIsi [v, .ty n] S = some (.ok (.bl b) S) := by simp [bIsi, h, k]
theorem wpe' {α : Type} {m : M α} {S : Store} {a : α} (h : Wp m S (fun b S2 => b = a ∧ S2 = S) fun _ _ => False) : m S = some (.ok a S) := wp_eq h fun _ _ z => z
theorem wp_ite' {α : Type} {c : Bool} {a b : M α} {S : Store} {Q : α → Store → Prop} {E : Str → Store → Prop} : Wp (if c = true then a else b) S Q E ↔ (c = true → Wp a S Q E) ∧ (c = false → Wp b S Q E) := by cases c <;> simp
theorem ws_ite' {c : Bool} {a b : Option SR} {D : Dk} : Ws (if c = true then a else b) D ↔ (c = true → Ws a D) ∧ (c = false → Ws b D) := by cases c <;> simp
theorem eqD_b (b : Bool) (S : Store) : oEq (.bl b) (.bl b) S = some (.ok (.bl true) S) := by
  show bnd (eqD (.bl b) (.bl b)) (fun b => ret (Vl.bl b)) S = _
  have h1 : pd S (.bl b) = some (.bool b) := rfl
  have h3 : PyData.eqv (.bool b) (.bool b) = true := by cases b <;> rfl
  unfold bnd eqD
  rw [h1]
  simp only [if_pos (show SeqAt.shaped (.bool b) = true ∧ SeqAt.shaped (.bool b) = true from ⟨rfl, rfl⟩), h3]
  rfl
theorem atI_off {xs : List Vl} {i : Nat} (h : i < xs.length) : atI xs (0 + (i : Int)) = some xs[i] := by
  unfold atI ixN
  rw [if_pos (by omega), if_pos (by omega)]
  have e : (0 + (i : Int)).toNat = i := by omega
  rw [e]
  simp [List.getElem?_eq_getElem h]
theorem all_tup {f : List Vl → M Vl} {xs ys : List Vl} {S : Store} (hl : xs.length = ys.length) (hz : ys.length ≤ line) (h : ∀ (i : Nat) (x y : Vl), xs[i]? = some x → ys[i]? = some y → f [x, y] S = some (.ok (.bl true) S)) : lawAll f [.tup xs, .tup ys] S = some (.ok (.bl true) S) := by
  have hline : 16777216 = line := rfl
  refine wpe' ?_
  unfold lawAll lawAllB
  rw [wp_fn]
  simp only [wp_ret, wp_stuck, wp_ifs, wp_newL, wp_var, wp_c, wp_op, wp_un, wp_tval, wp_tnot, wp_not, wp_nil, wp_cons, wp_tup, wp_lst, wp_dct, wp_call, wp_app, wp_append, wp_ixT, wp_ixL, wp_put, wp_sl, wp_pn, wp_ps, wp_slT, wp_addI, wp_addT, wp_sub, wp_mulAI, wp_mulAT, wp_mul, wp_div, wp_mod, wp_pow, wp_neg, wp_cmp, wp_eqI, wp_neI, wp_eqS, wp_neS, wp_is0', wp_not0', wp_isB, wp_notB, wp_lenT, wp_lenL, wp_tupT, wp_tupL, wp_lstT, ws_next, ws_brk, ws_cont, ws_seq, ws_expr, ws_ret, ws_retN, ws_set, ws_asg, ws_put, ws_raise, ws_if, ws_for1, wp_and, wp_or, wp_tand, wp_tor, wp_ifE, wp_chain, gSlot, wp_tru, wp_truI, wp_truB, wp_truT, wp_intB, wp_max, wp_min, ws_par2, ws_par3, ws_aug, wp_iadd, ws_chn, setN, wp_star, wp_seqT, wp_seqL, wp_slL, wp_addL, wp_boolL, List.getElem?_cons_succ, List.getElem?_cons_zero, List.map_cons, List.map_nil, List.length_cons, List.length_nil, List.replicate_succ, List.replicate_zero, List.cons_append, List.nil_append, List.set_cons_succ, List.set_cons_zero, Option.some.injEq, exists_eq_left', Nat.reduceAdd, Nat.reduceSub, Nat.zero_add, Nat.add_zero, true_and, and_true, Vl.int.injEq, Vl.bl.injEq, Vl.loc.injEq, Vl.tup.injEq, exists_eq', exists_eq_left, Ob.lst.injEq, isS_non, isS_int, isS_tup, isS_bl, isS_loc, Bool.not_true, Bool.not_false]
  refine ⟨hz, ⟨by omega, by omega⟩, ?_⟩
  refine ws_range (fun i ρ S' => ∃ k, ρ = [some (.tup xs), some (.tup ys), k] ∧ S' = S) ⟨_, rfl, rfl⟩ ?_ ?_
  · rintro i ρ S' hi ⟨k, rfl, rfl⟩
    refine ⟨_, rfl, ?_⟩
    have hi' : i < ys.length := by omega
    have hx : i < xs.length := by omega
    simp only [wp_ret, wp_stuck, wp_ifs, wp_newL, wp_var, wp_c, wp_op, wp_un, wp_tval, wp_tnot, wp_not, wp_nil, wp_cons, wp_tup, wp_lst, wp_dct, wp_call, wp_app, wp_append, wp_ixT, wp_ixL, wp_put, wp_sl, wp_pn, wp_ps, wp_slT, wp_addI, wp_addT, wp_sub, wp_mulAI, wp_mulAT, wp_mul, wp_div, wp_mod, wp_pow, wp_neg, wp_cmp, wp_eqI, wp_neI, wp_eqS, wp_neS, wp_is0', wp_not0', wp_isB, wp_notB, wp_lenT, wp_lenL, wp_tupT, wp_tupL, wp_lstT, ws_next, ws_brk, ws_cont, ws_seq, ws_expr, ws_ret, ws_retN, ws_set, ws_asg, ws_put, ws_raise, ws_if, ws_for1, wp_and, wp_or, wp_tand, wp_tor, wp_ifE, wp_chain, gSlot, wp_tru, wp_truI, wp_truB, wp_truT, wp_intB, wp_max, wp_min, ws_par2, ws_par3, ws_aug, wp_iadd, ws_chn, setN, wp_star, wp_seqT, wp_seqL, wp_slL, wp_addL, wp_boolL, List.getElem?_cons_succ, List.getElem?_cons_zero, List.map_cons, List.map_nil, List.length_cons, List.length_nil, List.replicate_succ, List.replicate_zero, List.cons_append, List.nil_append, List.set_cons_succ, List.set_cons_zero, Option.some.injEq, exists_eq_left', Nat.reduceAdd, Nat.reduceSub, Nat.zero_add, Nat.add_zero, true_and, and_true, Vl.int.injEq, Vl.bl.injEq, Vl.loc.injEq, Vl.tup.injEq, exists_eq', exists_eq_left, Ob.lst.injEq, isS_non, isS_int, isS_tup, isS_bl, isS_loc, Bool.not_true, Bool.not_false, atI_off hi', atI_off hx, wp_of (h i _ _ (List.getElem?_eq_getElem hx) (List.getElem?_eq_getElem hi')), ws_ite']
    exact ⟨fun z => (nomatch z), fun _ => ⟨_, rfl⟩⟩
  · rintro ρ S' ⟨k, rfl, rfl⟩
    simp only [wp_ret, wp_stuck, wp_ifs, wp_newL, wp_var, wp_c, wp_op, wp_un, wp_tval, wp_tnot, wp_not, wp_nil, wp_cons, wp_tup, wp_lst, wp_dct, wp_call, wp_app, wp_append, wp_ixT, wp_ixL, wp_put, wp_sl, wp_pn, wp_ps, wp_slT, wp_addI, wp_addT, wp_sub, wp_mulAI, wp_mulAT, wp_mul, wp_div, wp_mod, wp_pow, wp_neg, wp_cmp, wp_eqI, wp_neI, wp_eqS, wp_neS, wp_is0', wp_not0', wp_isB, wp_notB, wp_lenT, wp_lenL, wp_tupT, wp_tupL, wp_lstT, ws_next, ws_brk, ws_cont, ws_seq, ws_expr, ws_ret, ws_retN, ws_set, ws_asg, ws_put, ws_raise, ws_if, ws_for1, wp_and, wp_or, wp_tand, wp_tor, wp_ifE, wp_chain, gSlot, wp_tru, wp_truI, wp_truB, wp_truT, wp_intB, wp_max, wp_min, ws_par2, ws_par3, ws_aug, wp_iadd, ws_chn, setN, wp_star, wp_seqT, wp_seqL, wp_slL, wp_addL, wp_boolL, List.getElem?_cons_succ, List.getElem?_cons_zero, List.map_cons, List.map_nil, List.length_cons, List.length_nil, List.replicate_succ, List.replicate_zero, List.cons_append, List.nil_append, List.set_cons_succ, List.set_cons_zero, Option.some.injEq, exists_eq_left', Nat.reduceAdd, Nat.reduceSub, Nat.zero_add, Nat.add_zero, true_and, and_true, Vl.int.injEq, Vl.bl.injEq, Vl.loc.injEq, Vl.tup.injEq, exists_eq', exists_eq_left, Ob.lst.injEq, isS_non, isS_int, isS_tup, isS_bl, isS_loc, Bool.not_true, Bool.not_false]
theorem all_lst {f : List Vl → M Vl} {xs ys : List Vl} {S : Store} {m n : Nat} (hm : S[m]? = some (.lst xs)) (hn : S[n]? = some (.lst ys)) (hl : xs.length = ys.length) (hz : ys.length ≤ line) (h : ∀ (i : Nat) (x y : Vl), xs[i]? = some x → ys[i]? = some y → f [x, y] S = some (.ok (.bl true) S)) : lawAll f [.loc m, .loc n] S = some (.ok (.bl true) S) := by
  have hline : 16777216 = line := rfl
  refine wpe' ?_
  unfold lawAll lawAllB
  rw [wp_fn]
  simp only [wp_ret, wp_stuck, wp_ifs, wp_newL, wp_var, wp_c, wp_op, wp_un, wp_tval, wp_tnot, wp_not, wp_nil, wp_cons, wp_tup, wp_lst, wp_dct, wp_call, wp_app, wp_append, wp_ixT, wp_ixL, wp_put, wp_sl, wp_pn, wp_ps, wp_slT, wp_addI, wp_addT, wp_sub, wp_mulAI, wp_mulAT, wp_mul, wp_div, wp_mod, wp_pow, wp_neg, wp_cmp, wp_eqI, wp_neI, wp_eqS, wp_neS, wp_is0', wp_not0', wp_isB, wp_notB, wp_lenT, wp_lenL, wp_tupT, wp_tupL, wp_lstT, ws_next, ws_brk, ws_cont, ws_seq, ws_expr, ws_ret, ws_retN, ws_set, ws_asg, ws_put, ws_raise, ws_if, ws_for1, wp_and, wp_or, wp_tand, wp_tor, wp_ifE, wp_chain, gSlot, wp_tru, wp_truI, wp_truB, wp_truT, wp_intB, wp_max, wp_min, ws_par2, ws_par3, ws_aug, wp_iadd, ws_chn, setN, wp_star, wp_seqT, wp_seqL, wp_slL, wp_addL, wp_boolL, List.getElem?_cons_succ, List.getElem?_cons_zero, List.map_cons, List.map_nil, List.length_cons, List.length_nil, List.replicate_succ, List.replicate_zero, List.cons_append, List.nil_append, List.set_cons_succ, List.set_cons_zero, Option.some.injEq, exists_eq_left', Nat.reduceAdd, Nat.reduceSub, Nat.zero_add, Nat.add_zero, true_and, and_true, Vl.int.injEq, Vl.bl.injEq, Vl.loc.injEq, Vl.tup.injEq, exists_eq', exists_eq_left, Ob.lst.injEq, isS_non, isS_int, isS_tup, isS_bl, isS_loc, Bool.not_true, Bool.not_false, hn]
  refine ⟨⟨by omega, by omega⟩, ?_⟩
  refine ws_range (fun i ρ S' => ∃ k, ρ = [some (.loc m), some (.loc n), k] ∧ S' = S) ⟨_, rfl, rfl⟩ ?_ ?_
  · rintro i ρ S' hi ⟨k, rfl, rfl⟩
    refine ⟨_, rfl, ?_⟩
    have hi' : i < ys.length := by omega
    have hx : i < xs.length := by omega
    simp only [wp_ret, wp_stuck, wp_ifs, wp_newL, wp_var, wp_c, wp_op, wp_un, wp_tval, wp_tnot, wp_not, wp_nil, wp_cons, wp_tup, wp_lst, wp_dct, wp_call, wp_app, wp_append, wp_ixT, wp_ixL, wp_put, wp_sl, wp_pn, wp_ps, wp_slT, wp_addI, wp_addT, wp_sub, wp_mulAI, wp_mulAT, wp_mul, wp_div, wp_mod, wp_pow, wp_neg, wp_cmp, wp_eqI, wp_neI, wp_eqS, wp_neS, wp_is0', wp_not0', wp_isB, wp_notB, wp_lenT, wp_lenL, wp_tupT, wp_tupL, wp_lstT, ws_next, ws_brk, ws_cont, ws_seq, ws_expr, ws_ret, ws_retN, ws_set, ws_asg, ws_put, ws_raise, ws_if, ws_for1, wp_and, wp_or, wp_tand, wp_tor, wp_ifE, wp_chain, gSlot, wp_tru, wp_truI, wp_truB, wp_truT, wp_intB, wp_max, wp_min, ws_par2, ws_par3, ws_aug, wp_iadd, ws_chn, setN, wp_star, wp_seqT, wp_seqL, wp_slL, wp_addL, wp_boolL, List.getElem?_cons_succ, List.getElem?_cons_zero, List.map_cons, List.map_nil, List.length_cons, List.length_nil, List.replicate_succ, List.replicate_zero, List.cons_append, List.nil_append, List.set_cons_succ, List.set_cons_zero, Option.some.injEq, exists_eq_left', Nat.reduceAdd, Nat.reduceSub, Nat.zero_add, Nat.add_zero, true_and, and_true, Vl.int.injEq, Vl.bl.injEq, Vl.loc.injEq, Vl.tup.injEq, exists_eq', exists_eq_left, Ob.lst.injEq, isS_non, isS_int, isS_tup, isS_bl, isS_loc, Bool.not_true, Bool.not_false, hm, hn, atI_off hi', atI_off hx, wp_of (h i _ _ (List.getElem?_eq_getElem hx) (List.getElem?_eq_getElem hi')), ws_ite']
    exact ⟨fun z => (nomatch z), fun _ => ⟨_, rfl⟩⟩
  · rintro ρ S' ⟨k, rfl, rfl⟩
    simp only [wp_ret, wp_stuck, wp_ifs, wp_newL, wp_var, wp_c, wp_op, wp_un, wp_tval, wp_tnot, wp_not, wp_nil, wp_cons, wp_tup, wp_lst, wp_dct, wp_call, wp_app, wp_append, wp_ixT, wp_ixL, wp_put, wp_sl, wp_pn, wp_ps, wp_slT, wp_addI, wp_addT, wp_sub, wp_mulAI, wp_mulAT, wp_mul, wp_div, wp_mod, wp_pow, wp_neg, wp_cmp, wp_eqI, wp_neI, wp_eqS, wp_neS, wp_is0', wp_not0', wp_isB, wp_notB, wp_lenT, wp_lenL, wp_tupT, wp_tupL, wp_lstT, ws_next, ws_brk, ws_cont, ws_seq, ws_expr, ws_ret, ws_retN, ws_set, ws_asg, ws_put, ws_raise, ws_if, ws_for1, wp_and, wp_or, wp_tand, wp_tor, wp_ifE, wp_chain, gSlot, wp_tru, wp_truI, wp_truB, wp_truT, wp_intB, wp_max, wp_min, ws_par2, ws_par3, ws_aug, wp_iadd, ws_chn, setN, wp_star, wp_seqT, wp_seqL, wp_slL, wp_addL, wp_boolL, List.getElem?_cons_succ, List.getElem?_cons_zero, List.map_cons, List.map_nil, List.length_cons, List.length_nil, List.replicate_succ, List.replicate_zero, List.cons_append, List.nil_append, List.set_cons_succ, List.set_cons_zero, Option.some.injEq, exists_eq_left', Nat.reduceAdd, Nat.reduceSub, Nat.zero_add, Nat.add_zero, true_and, and_true, Vl.int.injEq, Vl.bl.injEq, Vl.loc.injEq, Vl.tup.injEq, exists_eq', exists_eq_left, Ob.lst.injEq, isS_non, isS_int, isS_tup, isS_bl, isS_loc, Bool.not_true, Bool.not_false]
theorem Alk.atom {S : Store} {k : Nat} {v : Vl} (h : atomV v = true) : Alk S k v v := by
  cases k with
  | zero => exact ⟨rfl, h⟩
  | succ k => exact .inl ⟨rfl, h⟩
theorem Alk.tup {S : Store} {k : Nat} {xs : List Vl} (hz : xs.length ≤ line) (h : ∀ x ∈ xs, Alk S k x x) : Alk S (k + 1) (.tup xs) (.tup xs) :=
  .inr (.inl ⟨xs, xs, rfl, rfl, rfl, hz, fun i x y hx hy => by rw [hx] at hy; cases hy; exact h x (List.mem_of_getElem? hx)⟩)
theorem Alk.lst {S : Store} {k m n : Nat} {xs : List Vl} (hm : S[m]? = some (.lst xs)) (hn : S[n]? = some (.lst xs)) (hz : xs.length ≤ line) (h : ∀ x ∈ xs, Alk S k x x) : Alk S (k + 1) (.loc m) (.loc n) :=
  .inr (.inr ⟨m, n, xs, xs, rfl, rfl, hm, hn, rfl, hz, fun i x y hx hy => by rw [hx] at hy; cases hy; exact h x (List.mem_of_getElem? hx)⟩)
end Tw
end
section
set_option Elab.async false
set_option maxRecDepth 100000
set_option maxHeartbeats 3000000
set_option linter.all false
namespace Tw
open PySem L2
/-! ## 44. == of data made of ints -/
def itr : Nat → Vl → Bool
  | 0, _ => false
  | _ + 1, .int _ => true
  | k + 1, .tup xs => xs.all (itr k)
  | _, _ => false
theorem itr_cases {k : Nat} {x : Vl} (h : itr k x = true) : (∃ i, x = .int i) ∨ ∃ j xs, k = j + 1 ∧ x = .tup xs ∧ ∀ y ∈ xs, itr j y = true := by
  cases k with
  | zero => cases h
  | succ k =>
    cases x with
    | int i => exact .inl ⟨i, rfl⟩
    | tup xs => exact .inr ⟨k, xs, rfl, rfl, List.all_eq_true.mp h⟩
    | _ => cases h
theorem itr_all {k : Nat} (P : ∀ x y : Vl, itr k x = true → itr k y = true → ∃ d e, pd0 x = some d ∧ pd0 y = some e ∧ d.canLay0 = true ∧ e.canLay0 = true ∧ d.depth ≤ k ∧ e.depth ≤ k ∧ (PyData.eqv d e = true ↔ x = y)) :
    ∀ xs ys : List Vl, (∀ x ∈ xs, itr k x = true) → (∀ y ∈ ys, itr k y = true) → ∃ ds es, pds0 xs = some ds ∧ pds0 ys = some es ∧ PyData.canLayAll0 ds = true ∧ PyData.canLayAll0 es = true ∧ PyData.depthAll ds ≤ k ∧ PyData.depthAll es ≤ k ∧ (PyData.eqvAll ds es = true ↔ xs = ys)
  | [], [], _, _ => ⟨[], [], rfl, rfl, rfl, rfl, Nat.zero_le _, Nat.zero_le _, by simp [PyData.eqvAll]⟩
  | [], y :: ys, _, hy => by
    obtain ⟨d, e, a1, a2, a3, a4, a5, a6, a7⟩ := P y y (hy y List.mem_cons_self) (hy y List.mem_cons_self)
    obtain ⟨ds, es, b1, b2, b3, b4, b5, b6, b7⟩ := itr_all P [] ys (fun x h => by cases h) (fun z hz => hy z (List.mem_cons_of_mem _ hz))
    refine ⟨[], e :: es, rfl, by simp [pds0, a2, b2], rfl, by simp [PyData.canLayAll0, a4, b4], Nat.zero_le _, by simp only [PyData.depthAll]; omega, by simp [PyData.eqvAll]⟩
  | x :: xs, [], hx, _ => by
    obtain ⟨d, e, a1, a2, a3, a4, a5, a6, a7⟩ := P x x (hx x List.mem_cons_self) (hx x List.mem_cons_self)
    obtain ⟨ds, es, b1, b2, b3, b4, b5, b6, b7⟩ := itr_all P xs [] (fun z hz => hx z (List.mem_cons_of_mem _ hz)) (fun x h => by cases h)
    refine ⟨d :: ds, [], by simp [pds0, a1, b1], rfl, by simp [PyData.canLayAll0, a3, b3], rfl, by simp only [PyData.depthAll]; omega, Nat.zero_le _, by simp [PyData.eqvAll]⟩
  | x :: xs, y :: ys, hx, hy => by
    obtain ⟨d, e, a1, a2, a3, a4, a5, a6, a7⟩ := P x y (hx x List.mem_cons_self) (hy y List.mem_cons_self)
    obtain ⟨ds, es, b1, b2, b3, b4, b5, b6, b7⟩ := itr_all P xs ys (fun z hz => hx z (List.mem_cons_of_mem _ hz)) (fun z hz => hy z (List.mem_cons_of_mem _ hz))
    refine ⟨d :: ds, e :: es, by simp [pds0, a1, b1], by simp [pds0, a2, b2], by simp [PyData.canLayAll0, a3, b3], by simp [PyData.canLayAll0, a4, b4], by simp only [PyData.depthAll]; omega, by simp only [PyData.depthAll]; omega, ?_⟩
    simp only [PyData.eqvAll, Bool.and_eq_true, a7, b7, List.cons.injEq]
theorem itr_ok : ∀ (k : Nat) (x y : Vl), itr k x = true → itr k y = true → ∃ d e, pd0 x = some d ∧ pd0 y = some e ∧ d.canLay0 = true ∧ e.canLay0 = true ∧ d.depth ≤ k ∧ e.depth ≤ k ∧ (PyData.eqv d e = true ↔ x = y)
  | 0, _, _, h, _ => by cases h
  | k + 1, x, y, hx, hy => by
    have tupd : ∀ xs : List Vl, (∀ z ∈ xs, itr k z = true) → ∃ ds, pd0 (.tup xs) = some (.tuple ds) ∧ PyData.canLayAll0 ds = true ∧ (PyData.tuple ds).depth ≤ k + 1 := fun xs h => by
      obtain ⟨ds, es, b1, b2, b3, b4, b5, b6, b7⟩ := itr_all (itr_ok k) xs xs h h
      exact ⟨ds, by simp [pd0, b1], b3, by simp only [PyData.depth]; omega⟩
    rcases itr_cases hx with ⟨i, rfl⟩ | ⟨j1, xs, hk1, rfl, hxs⟩
    · rcases itr_cases hy with ⟨i2, rfl⟩ | ⟨j2, ys, hk2, rfl, hys⟩
      · refine ⟨.int i, .int i2, rfl, rfl, rfl, rfl, Nat.zero_le _, Nat.zero_le _, ?_⟩
        show (i == i2) = true ↔ _
        simp
      · cases hk2
        obtain ⟨ds, c1, c2, c3⟩ := tupd ys hys
        exact ⟨.int i, .tuple ds, rfl, c1, rfl, c2, Nat.zero_le _, c3, ⟨fun z => (by cases z), fun z => (by cases z)⟩⟩
    · cases hk1
      rcases itr_cases hy with ⟨i2, rfl⟩ | ⟨j2, ys, hk2, rfl, hys⟩
      · obtain ⟨ds, c1, c2, c3⟩ := tupd xs hxs
        exact ⟨.tuple ds, .int i2, c1, rfl, c2, rfl, c3, Nat.zero_le _, ⟨fun z => (by cases z), fun z => (by cases z)⟩⟩
      · cases hk2
        obtain ⟨ds, es, b1, b2, b3, b4, b5, b6, b7⟩ := itr_all (itr_ok k) xs ys hxs hys
        refine ⟨.tuple ds, .tuple es, by simp [pd0, b1], by simp [pd0, b2], b3, b4, by simp only [PyData.depth]; omega, by simp only [PyData.depth]; omega, ?_⟩
        show PyData.eqvAll ds es = true ↔ _
        rw [b7]; simp
theorem shaped_of {d : PyData} (h : d.canLay0 = true) (hd : d.depth ≤ 64) : SeqAt.shaped d = true := by
  unfold SeqAt.shaped
  rw [h, decide_eq_true hd]; rfl
theorem eqD_lst {k m n : Nat} {xs ys : List Vl} {S : Store} (hm : S[m]? = some (.lst xs)) (hn : S[n]? = some (.lst ys)) (hx : ∀ x ∈ xs, itr k x = true) (hy : ∀ y ∈ ys, itr k y = true) (hk : k ≤ 63) : ∃ b, eqD (.loc m) (.loc n) S = some (.ok b S) ∧ (b = true ↔ xs = ys) := by
  obtain ⟨ds, es, b1, b2, b3, b4, b5, b6, b7⟩ := itr_all (itr_ok k) xs ys hx hy
  refine ⟨PyData.eqvAll ds es, ?_, b7⟩
  have p1 : pd S (.loc m) = some (.list ds) := by show (match S[m]? with | some (.lst xs) => (match pds0 xs with | some ds => some (PyData.list ds) | none => none) | _ => none) = _; rw [hm]; simp [b1]
  have p2 : pd S (.loc n) = some (.list es) := by show (match S[n]? with | some (.lst xs) => (match pds0 xs with | some ds => some (PyData.list ds) | none => none) | _ => none) = _; rw [hn]; simp [b2]
  unfold eqD
  rw [p1, p2]
  have s1 : SeqAt.shaped (.list ds) = true := shaped_of b3 (by simp only [PyData.depth]; omega)
  have s2 : SeqAt.shaped (.list es) = true := shaped_of b4 (by simp only [PyData.depth]; omega)
  simp only [if_pos (And.intro s1 s2)]
  rfl
theorem oEq_lst {k m n : Nat} {xs ys : List Vl} {S : Store} (hm : S[m]? = some (.lst xs)) (hn : S[n]? = some (.lst ys)) (hx : ∀ x ∈ xs, itr k x = true) (hy : ∀ y ∈ ys, itr k y = true) (hk : k ≤ 63) : ∃ b, oEq (.loc m) (.loc n) S = some (.ok (.bl b) S) ∧ (b = true ↔ xs = ys) := by
  obtain ⟨b, e, hb⟩ := eqD_lst hm hn hx hy hk
  exact ⟨b, by show bnd (eqD (.loc m) (.loc n)) (fun b => ret (Vl.bl b)) S = _; rw [bnd_of e]; rfl, hb⟩
/-! a list so many times; range from .. to -/
section
variable {S : Store} {R : Vl → Store → Prop} {E : Str → Store → Prop} {ρ : Rho} {D : Dk}
theorem wp_mulAL {m : Nat} {k : Int} : Wp (oMulA (.loc m) (.int k)) S R E ↔ ∃ xs, S[m]? = some (.lst xs) ∧ (-(2 ^ 63) ≤ k ∧ k < 2 ^ 63 ∧ xs.length * k.toNat ≤ line) ∧ R (.loc S.length) (S ++ [.lst (List.replicate k.toNat xs).flatten]) := by
  have e0 : oMulA (.loc m) (.int k) S = match S[m]? with
    | some (.lst a) => if -(2 ^ 63) ≤ k ∧ k < 2 ^ 63 ∧ a.length * k.toNat ≤ line then newL (List.replicate k.toNat a).flatten S else none
    | _ => none := rfl
  unfold Wp
  rw [e0]
  cases h1 : S[m]? with
  | none => simp
  | some o => cases o with
    | dct => simp
    | lst xs =>
      by_cases hz : -(2 ^ 63) ≤ k ∧ k < 2 ^ 63 ∧ xs.length * k.toNat ≤ line
      · have hz' : ((List.replicate k.toNat xs).flatten).length ≤ line := by
          rw [List.length_flatten, List.map_replicate, List.sum_replicate_nat, Nat.mul_comm]; exact hz.2.2
        simp only [if_pos hz, newL, if_pos hz']
        exact ⟨fun q => ⟨xs, rfl, hz, q⟩, fun ⟨_, e, _, q⟩ => by cases e; exact q⟩
      · simp only [if_neg hz]
        exact ⟨fun z => z.elim, fun ⟨_, e, q, _⟩ => by cases e; exact hz q⟩
end
end Tw
end
section
set_option Elab.async false
set_option maxRecDepth 100000
set_option maxHeartbeats 4000000
set_option autoImplicit true
set_option linter.all false
set_option relaxedAutoImplicit true
namespace Tw
open PySem L2 PySem.Spec PyProof.Rows
/-! ## 45. any, all, sum of tuples and lists, of ints and bools -/
def tbs : List Vl → Option (List Bool)
  | [] => some []
  | .bl b :: t => match tbs t with
    | some r => some (b :: r)
    | none => none
  | .int i :: t => match tbs t with
    | some r => some ((i != 0) :: r)
    | none => none
  | _ => none
def bAnyG : List Vl → M Vl
  | [x] => bnd (seqM x) fun p => match tbs p.2 with
    | some bs => ret (.bl (bs.any id))
    | none => stuck
  | _ => stuck
/-! ## 46. == of lists of lists -/
/-! ## 47. range downwards -/
/-! ## 48. What these come to -/
section
variable {S : Store} {R : Vl → Store → Prop} {E : Str → Store → Prop} {ρ : Rho} {D : Dk}
theorem wp_anyT {xs : List Vl} {bs : List Bool} (h : tbs xs = some bs) : Wp (bAnyG [.tup xs]) S R E ↔ R (.bl (bs.any id)) S := by
  show Wp (bnd (seqM (.tup xs)) fun p => _) S R E ↔ _
  rw [wp_bnd, wp_seqT]; show Wp (match tbs xs with | some bs => ret (Vl.bl (bs.any id)) | none => stuck) S R E ↔ _; rw [h]; rfl
end
end Tw
end
section
set_option Elab.async false
set_option maxRecDepth 100000
set_option maxHeartbeats 3000000
set_option autoImplicit true
set_option linter.all false
set_option relaxedAutoImplicit true
namespace Tw
open PySem L2
/-! ## 50. while -/
noncomputable def sWhile (t : Tv) (b : Sv) : Nat → Sv
  | 0, _, _ => none
  | n + 1, ρ, S => sBnd (t ρ) ρ (fun c => if c = true then (fun S1 => match b ρ S1 with
      | some (.ok (.nx ρ1) S2) => sWhile t b n ρ1 S2
      | some (.ok (.ct ρ1) S2) => sWhile t b n ρ1 S2
      | some (.ok (.bk ρ1) S2) => some (.ok (.nx ρ1) S2)
      | some (.ok (.rt v) S2) => some (.ok (.rt v) S2)
      | some (.er c ρ1 S2) => some (.er c ρ1 S2)
      | none => none) else fun S1 => some (.ok (.nx ρ) S1)) S
section
variable {X : Cx} {G : GG} {W : WX} {k : Nat} {pos : Pos} {b : Sv} {t : Tv}
theorem xs_while {c : Expr} {bs : List Stmt} (n : Nat) (at_ : At X G W k) (hc : PT X c (TTs G W t)) (hb : PSs X bs (TSt G W b)) : PS X (.While c bs [] pos) (TSt G W (sWhile t b n)) := by
  refine PS.imp (ps_while at_.own hc hb) ?_
  intro D σ H h
  refine ⟨fun m σ H => TSt G W (sWhile t b m) D σ H, ⟨n, h⟩, fun m σ1 H1 h1 => ?_⟩
  obtain ⟨μ, ρ, S, rs, rr, run⟩ := h1
  cases m with
  | zero => exact run.no rfl
  | succ m =>
    refine ⟨μ, ρ, S, rs, rr, (Run.sbnd (Rel := fun _ _ a b => a = b) rr run).imp (fun c2 H2 ⟨μ1, c', S1, g, rc, rs1, rr1, run1⟩ => ?_) fun _ _ _ _ z => z⟩
    subst rc
    cases c' with
    | false =>
      obtain ⟨r, e, hr⟩ := run1
      cases e
      exact hr μ1 H2 σ1 .refl rs1 rr1
    | true =>
      refine ⟨TSt G W (sWhile t b m) D, fun σ' H' z => ⟨m, Nat.lt_succ_self m, z⟩, μ1, ρ, S1, rs1, rr1, ?_⟩
      obtain ⟨r, e, hr⟩ := run1
      replace e : (match b ρ S1 with
        | some (.ok (.nx ρ1) S2) => sWhile t b m ρ1 S2
        | some (.ok (.ct ρ1) S2) => sWhile t b m ρ1 S2
        | some (.ok (.bk ρ1) S2) => some (.ok (.nx ρ1) S2)
        | some (.ok (.rt v) S2) => some (.ok (.rt v) S2)
        | some (.er c ρ1 S2) => some (.er c ρ1 S2)
        | none => none) = some r := e
      cases q : b ρ S1 with
      | none => rw [q] at e; cases e
      | some r1 =>
        refine ⟨r1, q, ?_⟩
        rw [q] at e
        cases r1 with
        | er c3 ρ3 S3 => cases e; exact hr
        | ok fl S3 =>
          cases fl with
          | nx ρ3 => exact fun μ3 H3 σ3 g3 rs3 rr3 => ⟨μ3, ρ3, S3, rs3, rr3, RunS.later ⟨r, e, hr⟩ g3⟩
          | ct ρ3 => exact fun μ3 H3 σ3 g3 rs3 rr3 => ⟨μ3, ρ3, S3, rs3, rr3, RunS.later ⟨r, e, hr⟩ g3⟩
          | bk ρ3 => cases e; exact hr
          | rt v3 => cases e; exact hr
theorem ws_while {ρ : Rho} {S : Store} {D : Dk} {n0 n : Nat} (J : Nat → Rho → Store → Prop) (h0 : J n0 ρ S) (hn : n0 < n)
    (hs : ∀ m ρ S, J m ρ S → Wp (t ρ) S (fun c S1 => if c = true then Ws (b ρ S1) ⟨fun ρ1 S2 => ∃ m', m' < m ∧ J m' ρ1 S2, D.rt, D.nx, fun ρ1 S2 => ∃ m', m' < m ∧ J m' ρ1 S2, D.er⟩ else D.nx ρ S1) fun c S1 => D.er c ρ S1) :
    Ws (sWhile t b n ρ S) D := by
  induction n generalizing n0 ρ S with
  | zero => exact absurd hn (Nat.not_lt_zero _)
  | succ n ih =>
    unfold sWhile
    rw [ws_bnd]
    refine (hs n0 ρ S h0).imp fun c S1 h1 => ?_
    cases c with
    | false => exact h1
    | true =>
      rw [if_pos rfl] at h1 ⊢
      unfold Ws at h1
      cases q : b ρ S1 with
      | none => rw [q] at h1; exact h1.elim
      | some r1 =>
        rw [q] at h1
        cases r1 with
        | er c3 ρ3 S3 => simp only [q]; exact h1
        | ok fl S3 =>
          cases fl with
          | nx ρ3 => obtain ⟨m', hm, hJ⟩ := h1; simp only [q]; exact ih hJ (by omega)
          | ct ρ3 => obtain ⟨m', hm, hJ⟩ := h1; simp only [q]; exact ih hJ (by omega)
          | bk ρ3 => simp only [q]; exact h1
          | rt v3 => simp only [q]; exact h1
end
/-! ## 51. xs.pop(), xs.extend(ys) -/
/-! ## 52. x in ys, of flat items; is True, is False of anything -/
/-! ## 53. gcd, lcm -/
def bGcd : List Vl → M Vl
  | [.int a, .int b] => ret (.int ((Nat.gcd a.natAbs b.natAbs : Nat) : Int))
  | _ => stuck
def bLcm : List Vl → M Vl
  | [.int a, .int b] => if a.natAbs < 2 ^ 64 ∧ b.natAbs < 2 ^ 64 then ret (.int ((Nat.lcm a.natAbs b.natAbs : Nat) : Int)) else stuck
  | _ => stuck
def rLcm : List V → Hp → VK → Prop := fun vs H Q => ∃ a b : Int, vs = [.int a, .int b] ∧ a.natAbs < 2 ^ 64 ∧ b.natAbs < 2 ^ 64 ∧ Q (.int ((Nat.lcm a.natAbs b.natAbs : Nat) : Int)) H
section
variable {X : Cx} {G : GG} {W : WX} {k : Nat} {pos p : Pos} {e : Expr} {es : List Expr} {fs : Evs}
theorem cr_lcm : CallR X (.builtin "math.lcm") rLcm := by
  intro pins s σ H vs us Q I r ⟨a, b, e1, ha, hb, q⟩; subst e1
  obtain ⟨t, u, rfl⟩ := Vals.int2 r
  exact PySem.W.mc_lcm ha hb fun _ => ⟨.int _, H, I.tok _, ⟨_, rfl⟩, q⟩
theorem am_gcd : AsM G rGcd bGcd := by
  intro μ H S x v Q EQ rs rx run
  rcases rx with _ | ⟨r1, _ | ⟨r2, _ | ⟨r3, t⟩⟩⟩
  · exact run.no rfl
  · cases r1 <;> exact run.no rfl
  · cases r1 <;> cases r2 <;> first | exact run.no rfl | exact ⟨_, _, rfl, run.ret (.int _) rs⟩
  · cases r1 <;> cases r2 <;> exact run.no rfl
theorem am_lcm : AsM G rLcm bLcm := by
  intro μ H S x v Q EQ rs rx run
  rcases rx with _ | ⟨r1, _ | ⟨r2, _ | ⟨r3, t⟩⟩⟩
  · exact run.no rfl
  · cases r1 <;> exact run.no rfl
  · cases r1 <;> cases r2 <;> first | exact run.no rfl | skip
    rename_i i j
    by_cases hz : i.natAbs < 2 ^ 64 ∧ j.natAbs < 2 ^ 64
    · have run' : Run G (Rv G) (ret (.int ((Nat.lcm i.natAbs j.natAbs : Nat) : Int))) μ H S Q EQ := by simpa only [bLcm, if_pos hz] using run
      exact ⟨_, _, rfl, hz.1, hz.2, run'.ret (.int _) rs⟩
    · exact run.no (by simp only [bLcm, if_neg hz]; rfl)
  · cases r1 <;> cases r2 <;> exact run.no rfl
theorem xe_callF {x : Str} {id : String} {r : List V → Hp → VK → Prop} {g : List Vl → M Vl} (hg : AsM G r g) (hc : CallR X (.builtin id) r) (hm : X.mg x = some (.builtin id)) (ha : PA X (e :: es) (TAs G W fs))
    (hgl : Gl X x := by rfl) (hdb : (x == ("__debug__" : Str)) = false := by decide) (he : starEach (e :: es) X.env = (false, eval e X.env) :: starEach es X.env := by rfl)
    (hpl : (backTo pos (starEach es X.env)).any (·.1) = false := by rfl) : PE X (.Call (.Name x p) (e :: es) [] pos) (T G W (eCall g fs)) := by
  refine PE.imp (pe_callBfun hc hgl hm ha hdb he hpl) ?_
  rintro σ H Q ⟨μ, ρ, S, rs, rr, run⟩
  exact TA_bnd rs rr run fun vs H1 μ1 xs S1 g1 rx rs1 rr1 run1 => hg μ1 H1 S1 xs vs Q _ rs1 rx run1
theorem x_gcd (hm : X.mg "gcd" = some (.builtin "math.gcd")) (ha : PA X (e :: es) (TAs G W fs)) (hgl : Gl X "gcd" := by rfl) (he : starEach (e :: es) X.env = (false, eval e X.env) :: starEach es X.env := by rfl)
    (hpl : (backTo pos (starEach es X.env)).any (·.1) = false := by rfl) : PE X (.Call (.Name "gcd" p) (e :: es) [] pos) (T G W (eCall bGcd fs)) := xe_callF am_gcd cr_gcd hm ha hgl (by decide) he hpl
theorem x_lcm (hm : X.mg "lcm" = some (.builtin "math.lcm")) (ha : PA X (e :: es) (TAs G W fs)) (hgl : Gl X "lcm" := by rfl) (he : starEach (e :: es) X.env = (false, eval e X.env) :: starEach es X.env := by rfl)
    (hpl : (backTo pos (starEach es X.env)).any (·.1) = false := by rfl) : PE X (.Call (.Name "lcm" p) (e :: es) [] pos) (T G W (eCall bLcm fs)) := xe_callF am_lcm cr_lcm hm ha hgl (by decide) he hpl
end
end Tw
end
section
set_option Elab.async false
set_option maxRecDepth 100000
set_option maxHeartbeats 3000000
set_option autoImplicit true
set_option linter.all false
set_option relaxedAutoImplicit true
namespace Tw
open PySem L2 PyProof.Rows
/-! ### min(xs, default=d) of a list or a tuple of ints -/
/-! ### max(xs, default=d) of a list or a tuple of ints -/
theorem ints_at {its : List Value} {ns : List Int} {i : Nat} {v : Value} (hi : IntsAre its ns) (h : its.toArray[i]? = some v) : ∃ t, v = .int (ns.getD i 0) t := by
  rw [List.getElem?_toArray] at h
  induction hi generalizing i with
  | nil => cases h
  | cons n t hi ih =>
    cases i with
    | zero => cases h; exact ⟨_, rfl⟩
    | succ i => exact ih h
theorem getD_in {ns : List Int} {i : Nat} (h : i < ns.length) : ns.getD i 0 ∈ ns := by
  rw [List.getD_eq_getElem?_getD, List.getElem?_eq_getElem h]; exact List.getElem_mem h
theorem in_getD {ns : List Int} {y : Int} (h : y ∈ ns) : ∃ j, j < ns.length ∧ ns.getD j 0 = y := by
  obtain ⟨j, hj, e⟩ := List.getElem_of_mem h
  exact ⟨j, hj, by rw [List.getD_eq_getElem?_getD, List.getElem?_eq_getElem hj]; exact e⟩
theorem tup_push {h : Heap} {a : Addr} {its : Array Value} {o : Obj} (q : h.IsTuple a its) : (h.push o).IsTuple a its := by
  obtain ⟨u, e, r⟩ := q
  exact ⟨u, Heap.get?_push_of_some _ e, r⟩
section
variable {X : Cx}
def rMaxS (K : PySem.W.Frag) : List V → Hp → VK → Prop := fun vs H Q => ∃ (a : Addr) (ns : List Int), vs = [V.ref a] ∧ (SqL K H a (ns.map V.int) ∨ SqT K H a (ns.map V.int)) ∧ 0 < ns.length ∧ ∀ m, m ∈ ns → (∀ y, y ∈ ns → y ≤ m) → Q (.int m) H
theorem cr_maxS (hc : X.calm = true) : CallR X (.builtin "max") (rMaxS X.K) := by
  intro pins s σ H vs us Q I r ⟨a, ns, e1, hs, h0, q⟩; subst e1
  rw [Vals.ref1 r]
  have hh := I.ok.hd hc
  rcases hs with hs | hs
  · exact cr_max hc pins s σ H _ _ Q I (.cons (show RelV (V.ref a) (Value.ref a) from rfl) .nil) ⟨a, ns, rfl, hs, h0, q⟩
  · obtain ⟨its, rv, hl, _⟩ := I.tuple hs
    have hi := rv.ints; have hl' : s.heap.IsTuple a its.toArray := hl
    have hlt : a < s.heap.objs.size := by obtain ⟨_, e, _⟩ := hl'; exact Heap.lt_size e
    refine call_max_walk (wpAny_pyIter_tuple hl' ⟨s.heap.objs.size, _, _, _, _, _, (fun i j => decide (ns.getD i 0 > ns.getD j 0)), rfl, Walks.tuple (A := X.A.in1) hh _ a (Nat.ne_of_lt hlt) its.toArray, ⟨⟨_, Heap.get?_push_size _ rfl, rfl, rfl⟩, tup_push hl'⟩, ?_, by have := hi.length; rw [List.size_toArray]; omega, CmpOf.ints_gt (fun i => ns.getD i 0) (fun i v h => ints_at hi h), fun v h' tk hP hk => ?_⟩)
    · intro b hb; show b < (s.heap.push _).objs.size; rw [Heap.size_push]; simp only [List.mem_cons, List.not_mem_nil, or_false] at hb; rcases hb with rfl | rfl; exact Nat.lt_succ_self _; exact Nat.lt_succ_of_lt hlt
    · have hn : 0 < its.toArray.size := by have := hi.length; rw [List.size_toArray]; omega
      exact by
        obtain ⟨t, rfl⟩ := ints_at hi hP
        have hsz : its.toArray.size = ns.length := by rw [List.size_toArray, hi.length]
        have h1 : argBest (fun i j => decide (ns.getD i 0 > ns.getD j 0)) (its.toArray.size - 1) ≤ its.toArray.size - 1 := (argBest_gt (fun i => ns.getD i 0) (its.toArray.size - 1)).1
        have h2 := (argBest_gt (fun i => ns.getD i 0) (its.toArray.size - 1)).2
        refine ⟨.int _, H, (I.kept (t' := tk) (fun b o e => hk b o (fun m => by simp only [List.mem_singleton] at m; subst m; exact Nat.lt_irrefl _ (Heap.lt_size e)) (Heap.get?_push_of_some _ e))), ⟨_, rfl⟩, q _ (getD_in (by omega)) fun y hy => ?_⟩
        obtain ⟨j, hj, rfl⟩ := in_getD hy
        exact h2 j (by omega)
end
/-! ### the runs -/
def maxL : List Int → Int
  | [] => 0
  | n :: ns => ns.foldl max n
theorem foldl_max : ∀ (ns : List Int) (n : Int), (∀ y ∈ n :: ns, y ≤ ns.foldl max n) ∧ ns.foldl max n ∈ n :: ns
  | [], n => ⟨fun y hy => by simp at hy; subst hy; exact Int.le_refl _, List.mem_cons_self⟩
  | m :: ns, n => by
    obtain ⟨h1, h2⟩ := foldl_max ns (max n m)
    have h3 : max n m ≤ ns.foldl max (max n m) := h1 _ List.mem_cons_self
    refine ⟨fun y hy => ?_, ?_⟩
    · show y ≤ ns.foldl max (max n m)
      simp only [List.mem_cons] at hy
      rcases hy with rfl | rfl | hy
      · omega
      · omega
      · exact h1 y (List.mem_cons_of_mem _ hy)
    · show ns.foldl max (max n m) ∈ _
      rcases List.mem_cons.mp h2 with h | h
      · rw [h]
        rcases Int.le_total m n with q | q
        · rw [Int.max_eq_left q]; exact List.mem_cons_self
        · rw [Int.max_eq_right q]; exact List.mem_cons_of_mem _ List.mem_cons_self
      · exact List.mem_cons_of_mem _ (List.mem_cons_of_mem _ h)
theorem maxL_mem {ns : List Int} (h : ns ≠ []) : maxL ns ∈ ns := by
  cases ns with
  | nil => exact absurd rfl h
  | cons n ns => exact (foldl_max ns n).2
theorem maxL_le {ns : List Int} {y : Int} (h : y ∈ ns) : y ≤ maxL ns := by
  cases ns with
  | nil => cases h
  | cons n ns => exact (foldl_max ns n).1 y h
/-- the items of a list or tuple, as ints -/
def itsM (x : Vl) : M (List Vl) := match x with
  | .tup xs => ret xs
  | x => getL x
def bBestS (f : List Int → Int) : List Vl → M Vl
  | [x] => bnd (itsM x) fun xs => match intsM xs with
    | some ns => if ns.isEmpty then stuck else ret (.int (f ns))
    | none => stuck
  | _ => stuck
section
variable {G : GG} {X : Cx} {W : WX} {k : Nat} {pos p kp : Pos} {e e2 : Expr} {fa fb : Ev} {es : List Expr} {fs : Evs}
theorem intsM_map {μ : List Addr} {H : Hp} : ∀ {xs : List Vl} {vs : List V} {ns : List Int}, Rvs G μ H xs vs → intsM xs = some ns → vs = ns.map V.int
  | _, _, _, .nil, e => by cases e; rfl
  | x :: xs, _, ns, .cons h t, e => by
    cases h <;> first | (unfold intsM at e; cases e; done) | skip
    unfold intsM at e
    revert e
    cases q : intsM xs with
    | none => intro e; cases e
    | some ms => intro e; cases e; rw [intsM_map t q]; rfl
theorem itsM_ok {μ H S} (rs : RS G μ H S) {x : Vl} {v : V} (rx : Rv G μ H x v) : itsM x S = none ∨ ∃ xs a vs, itsM x S = some (.ok xs S) ∧ v = .ref a ∧ (SqL G.K H a vs ∨ SqT G.K H a vs) ∧ Rvs G μ H xs vs := by
  by_cases hx : ∃ xs, x = .tup xs
  · obtain ⟨xs, rfl⟩ := hx
    cases rx with
    | tup h r => exact .inr ⟨xs, _, _, rfl, rfl, .inr h, r⟩
  · have e0 : itsM x = getL x := by
      cases x <;> first | rfl | exact absurd ⟨_, rfl⟩ hx
    rw [e0]
    rcases getL_cases x S with h | ⟨xs, h⟩
    · exact .inl h
    · obtain ⟨_, a, vs, e1, h1, r1⟩ := getL_ok rs rx h
      exact .inr ⟨xs, a, vs, h, e1, .inl h1, r1⟩
theorem am_maxS : AsM G (rMaxS G.K) (bBestS maxL) := by
  intro μ H S x v Q EQ rs rx run
  match x, v, rx with
  | [], _, _ => exact run.no rfl
  | _ :: _ :: _, _, _ => exact run.no rfl
  | [x], [v], .cons r .nil =>
    rcases itsM_ok rs r with h | ⟨xs, a, vs, h, rfl, hs, rv⟩
    · exact run.no (by simp only [bBestS, bnd, h])
    · cases q : intsM xs with
      | none => exact run.no (by simp only [bBestS, bnd, h, q]; rfl)
      | some ns =>
        rw [intsM_map rv q] at hs
        cases ns with
        | nil => exact run.no (by simp only [bBestS, bnd, h, q]; rfl)
        | cons n ns =>
          refine ⟨a, n :: ns, rfl, hs, Nat.succ_pos _, fun m h1 h2 => ?_⟩
          have : m = maxL (n :: ns) := Int.le_antisymm (maxL_le h1) (h2 _ (maxL_mem (by simp)))
          subst this
          exact run.end_ (a := .int (maxL (n :: ns))) (S1 := S) (by simp only [bBestS, bnd, h, q]; rfl) μ H _ .refl (.int _) rs
theorem x_maxS (at_ : At X G W k) (hm : X.mg "max" = none) (ha : PA X (e :: es) (TAs G W fs)) (hgl : Gl X "max" := by rfl) (he : starEach (e :: es) X.env = (false, eval e X.env) :: starEach es X.env := by rfl)
    (hpl : (backTo pos (starEach es X.env)).any (·.1) = false := by rfl) : PE X (.Call (.Name "max" p) (e :: es) [] pos) (T G W (eCall (bBestS maxL) fs)) := xe_callB (by have := am_maxS (G := G); rw [at_.K] at this; exact this) (cr_maxS at_.calm) hm (by decide +kernel) ha hgl (by decide) (by decide) he hpl
end
end Tw
end
section
set_option Elab.async false
set_option maxRecDepth 100000
set_option maxHeartbeats 3000000
set_option autoImplicit true
set_option linter.all false
set_option relaxedAutoImplicit true
namespace Tw
open PySem L2
/-! ## 54. What these come to -/
section
variable {α : Type} {S : Store} {Q : α → Store → Prop} {R : Vl → Store → Prop} {E : Str → Store → Prop} {ρ : Rho}
theorem wp_gcd {i j : Int} : Wp (bGcd [.int i, .int j]) S R E ↔ R (.int ((Nat.gcd i.natAbs j.natAbs : Nat) : Int)) S := Iff.rfl
theorem wp_lcm {i j : Int} : Wp (bLcm [.int i, .int j]) S R E ↔ (i.natAbs < 2 ^ 64 ∧ j.natAbs < 2 ^ 64) ∧ R (.int ((Nat.lcm i.natAbs j.natAbs : Nat) : Int)) S := by simp only [bLcm, wp_ifs, wp_ret]
theorem wp_itsT {xs : List Vl} {Q : List Vl → Store → Prop} : Wp (itsM (.tup xs)) S Q E ↔ Q xs S := Iff.rfl
theorem wp_itsL {n : Nat} {Q : List Vl → Store → Prop} : Wp (itsM (.loc n)) S Q E ↔ ∃ xs, S[n]? = some (.lst xs) ∧ Q xs S := wp_getL
theorem wp_bestST {f : List Int → Int} {xs : List Vl} {ns : List Int} (e : intsM xs = some ns) (h0 : ns ≠ []) : Wp (bBestS f [.tup xs]) S R E ↔ R (.int (f ns)) S := by
  show Wp (bnd (itsM (.tup xs)) fun xs => match intsM xs with | some ns => if ns.isEmpty then stuck else ret (.int (f ns)) | none => stuck) S R E ↔ _
  rw [wp_bnd, wp_itsT, e]; cases ns with
  | nil => exact absurd rfl h0
  | cons => exact Iff.rfl
theorem wp_bestSL {f : List Int → Int} {n : Nat} {xs : List Vl} {ns : List Int} (h : S[n]? = some (.lst xs)) (e : intsM xs = some ns) (h0 : ns ≠ []) : Wp (bBestS f [.loc n]) S R E ↔ R (.int (f ns)) S := by
  show Wp (bnd (itsM (.loc n)) fun xs => match intsM xs with | some ns => if ns.isEmpty then stuck else ret (.int (f ns)) | none => stuck) S R E ↔ _
  rw [wp_bnd, wp_itsL]
  have go : ∀ xs, intsM xs = some ns → (Wp (match intsM xs with | some ns => if ns.isEmpty then stuck else ret (.int (f ns)) | none => stuck) S R E ↔ R (.int (f ns)) S) := by
    intro xs e; rw [e]; cases ns with
    | nil => exact absurd rfl h0
    | cons => exact Iff.rfl
  exact ⟨fun ⟨ys, e1, q⟩ => by rw [h] at e1; cases e1; exact (go _ e).mp q, fun q => ⟨xs, h, (go _ e).mpr q⟩⟩
end
end Tw
end
section
set_option Elab.async false
set_option maxRecDepth 100000
set_option maxHeartbeats 3000000
set_option autoImplicit true
set_option linter.all false
set_option relaxedAutoImplicit true
namespace Tw
open PySem L2 PySem.Spec PyProof.Rows
/-! ## 55. A clause that names several classes -/
/-- a handler's test, told by f -/
def TestR (X : Cx) (t : Expr) (f : Value → Option Bool) : Prop := ∀ (cls : Value) (b : Bool) (a : Addr) (oe : Obj) (pn pins : List (Addr × Obj)) (s : Shared) (σ : L2.St) (H : Hp) (Q : Bool → Shared → Prop) (E : Value → Shared → Prop), f cls = some b →
  Inv (X.suite a ((a, oe) :: pn)) pins σ H s → PySem.W.Looks (model X.prog X.w) s.heap (typeOf (.ref a)) cls → (∀ h', (∀ q o, s.heap.get? q = some o → h'.get? q = some o) → Q b { s with heap := h' }) →
  wpAny (model X.prog X.w) (X.A.mark (some (.ref a))) (eval t X.env) (fun c s1 => wpAny (model X.prog X.w) (X.A.mark (some (.ref a))) (excMatches (.ref a) c) Q E s1) E s
def wTold (Wout : WX) (D : Ends) : List ((Value → Option Bool) × (Addr → Value → Option Addr → TS)) → WX
  | [] => Wout
  | (f, ts) :: r => fun cls d σ H => ∃ b, f cls = some b ∧ (b = true → ∀ a, H a = none → ts a cls d D σ H) ∧ (b = false → wTold Wout D r cls d σ H)
inductive HdsT (X : Cx) : List ExceptHandler → List ((Value → Option Bool) × (Addr → Value → Option Addr → TS)) → Prop
  | nil : HdsT X [] []
  | cons {t : Expr} {f : Value → Option Bool} {ts : Addr → Value → Option Addr → TS} {b0 : Stmt} {suite : List Stmt} {pos' : Pos} {hds : List ExceptHandler} {l : List ((Value → Option Bool) × (Addr → Value → Option Addr → TS))} (ht : TestR X t f)
      (hsu : ∀ (a : Addr) (oe : Obj) (cls : Value) (d : Option Addr) (pn : List (Addr × Obj)), Zc cls d oe → (∃ vs, oe.data = .fields vs) → PSs (X.suite a ((a, oe) :: pn)) (b0 :: suite) (ts a cls d)) (r : HdsT X hds l) : HdsT X (.ExceptHandler (some t) none (b0 :: suite) pos' :: hds) ((f, ts) :: l)
/-- what a test takes, of the text's own classes -/
def ClauseT (G : GG) (f : Value → Option Bool) (t : Str → Option Bool) : Prop := ∀ x b, t x = some b → ∃ C, G.mg x = some (.ref C) ∧ f (.ref C) = some b
inductive XHt (X : Cx) (G : GG) : List ExceptHandler → List ((Str → Option Bool) × Sv) → Prop
  | nil : XHt X G [] []
  | cons {e : Expr} {f : Value → Option Bool} {t : Str → Option Bool} {fh : Sv} {b0 : Stmt} {suite : List Stmt} {pos' : Pos} {hds : List ExceptHandler} {cs : List ((Str → Option Bool) × Sv)} (ht : TestR X e f) (hc : ClauseT G f t)
      (hsu : ∀ (a : Addr) (pn : List (Addr × Obj)), PSs (X.suite a pn) (b0 :: suite) (TSt G (fun _ _ _ _ => False) fh)) (r : XHt X G hds cs) : XHt X G (.ExceptHandler (some e) none (b0 :: suite) pos' :: hds) ((t, fh) :: cs)
theorem XHt.ok {X : Cx} {G : GG} {hds : List ExceptHandler} {cs : List ((Str → Option Bool) × Sv)} (h : XHt X G hds cs) : ∃ l, HdsT X hds l ∧
    ∀ (W : WX) (D : Ends) (c : Str) (μ : List Addr) (ρ : Rho) (S : Store) (σ : L2.St) (H : Hp), RS G μ H S → RR G μ H ρ σ → RunS G W (hand cs c ρ) μ H S D → ∃ C, G.mg c = some (.ref C) ∧ wTold W D l (.ref C) none σ H := by
  induction h with
  | nil =>
    refine ⟨[], .nil, fun W D c μ ρ S σ H rs rr run => ?_⟩
    obtain ⟨r, e, h⟩ := run; cases e
    exact h μ H σ .refl rs rr
  | cons ht hc hsu r ih =>
    rename_i e f t fh b0 suite pos' hds cs
    obtain ⟨l, h1, h2⟩ := ih
    refine ⟨(f, fun _ _ _ => TSt G (fun _ _ _ _ => False) fh) :: l, .cons ht (fun a oe _ _ pn _ _ => hsu a ((a, oe) :: pn)) h1, fun W D c μ ρ S σ H rs rr run => ?_⟩
    cases tc : t c with
    | none => exact run.no (by simp only [hand, tc])
    | some bb =>
      obtain ⟨C, h3, h4⟩ := hc c bb tc
      cases bb with
      | true => exact ⟨C, h3, true, h4, fun _ _ _ => ⟨μ, ρ, S, rs, rr, RunS.noEr (run.cong (by simp only [hand, tc]))⟩, fun z => Bool.noConfusion z⟩
      | false =>
        obtain ⟨C', h5, h6⟩ := h2 W D c μ ρ S σ H rs rr (run.cong (by simp only [hand, tc])); rw [h3] at h5; cases h5
        exact ⟨C, h3, false, h4, fun z => Bool.noConfusion z, fun _ => h6⟩
end Tw
end
section
set_option Elab.async false
set_option maxRecDepth 100000
set_option maxHeartbeats 3000000
set_option autoImplicit true
set_option linter.all false
set_option relaxedAutoImplicit true
namespace Tw
open PySem L2 PySem.Spec PyProof.Rows
/-! ## 57. A list comprehension of any number of clauses: the interpreter's side -/
/-- what a clause is to its own loop: its target, source, tests, and the slots that it and the clauses behind it fill -/
structure Cl where
  tg : Expr
  iter : Expr
  ifs : List Expr
  wi : TI
  g : TG
  tt : TT
  vs : List Nat
def Cl.gen (c : Cl) : Comprehension := ⟨c.tg, c.iter, c.ifs, 0⟩
structure Cl.In (X : Cx) (c : Cl) : Prop where
  pg : PG X c.tg c.g
  pt : PTs X c.ifs c.tt
end Tw
end
section
set_option Elab.async false
set_option maxRecDepth 100000
set_option maxHeartbeats 3000000
set_option autoImplicit true
set_option linter.all false
set_option relaxedAutoImplicit true
namespace Tw
open PySem L2 PyProof.Rows
/-! ## 70. a call of what an expression tells -/
def eCallE (ff : Ev) (g : Str → List Vl → M Vl) (names : List Str) (fs : Evs) : Ev := fun ρ => bnd (ff ρ) fun y => match y with
  | .fn x => if x ∈ names then eCall (g x) fs ρ else stuck
  | _ => stuck
section
variable {G : GG} {W : WX} {X : Cx} {k : Nat} {e fe : Expr} {ff : Ev} {fs : Evs} {pos : Pos}
theorem gg_eq (at_ : At X G W k) : (⟨X.K, X.mg, G.tabs⟩ : GG) = G := by
  obtain ⟨K, mg, tabs⟩ := G
  have e1 : K = X.K := at_.K
  have e2 : mg = X.mg := at_.mg
  rw [e1, e2]
theorem xe_callE {g : Str → List Vl → M Vl} {es : List Expr} {names : List Str} (at_ : At X G W k) (D : ∀ y ∈ names, ∃ ps j, j ≤ k ∧ Def X.prog X.w X.K X.mg X.base G.tabs j y ps (g y))
    (hf : PE X fe (T G W ff)) (ha : PA X (e :: es) (TAs G W fs)) (he : starEach (e :: es) X.env = (false, eval e X.env) :: starEach es X.env := by rfl) (hpl : (backTo pos (starEach es X.env)).any (·.1) = false := by rfl)
    (hc : eval (.Call fe (e :: es) [] pos) X.env = (do callWith pos (← eval fe X.env) [] (backTo pos (starEach (e :: es) X.env)) (backToKw pos (keywordEach [] X.env))) := by rfl) : PE X (.Call fe (e :: es) [] pos) (T G W (eCallE ff g names fs)) := by
  refine ⟨fun pins s σ H Q I h => Call_ ?_ hc⟩
  obtain ⟨μ, ρ, S, rs, rr, run⟩ := h
  refine thn (hf.run pins s σ H _ I (T_bnd (P := fun v H1 => ∃ x f0, v = .ref f0 ∧ X.mg x = some (.ref f0) ∧ x ∈ names ∧ TAs G W fs σ H1 (fun vs H2 => spM G (g x) vs H2 Q (WE W σ))) rs rr run fun v H1 μ1 y S1 g1 ry rs1 rr1 run1 => ?_)) fun u s1 hu => ?_
  · cases ry <;> first | exact run1.no rfl | skip
    rename_i x f1 hf1
    by_cases hy : x ∈ names
    · replace run1 : Run G (Rv G) (eCall (g x) fs ρ) μ1 H1 S1 Q (EW G W σ) := run1.cong (by show _ = (if x ∈ names then eCall (g x) fs ρ else stuck) S1; rw [if_pos hy])
      refine ⟨x, f1, rfl, by rw [← at_.mg]; exact hf1, hy, ?_⟩
      exact TA_bnd rs1 rr1 run1 fun vs H2 μ2 xs S2 g2 rx rs2 rr2 run2 => ⟨μ2, xs, S2, rs2, rx, run2⟩
    · exact run1.no (by show (if x ∈ names then eCall (g x) fs ρ else stuck) S1 = none; rw [if_neg hy]; rfl)
  · obtain ⟨v, H1, I1, r1, x, f1, rfl, hm1, hy, hargs⟩ := hu
    cases r1
    obtain ⟨ps, j, hj, f0, fd, hm, hk, hb, F⟩ := D x hy
    rw [gg_eq at_] at F
    rw [hm] at hm1; cases hm1
    refine PySem.W.callWith_K (h₀ := X.base) I1.ok.mod.kin hk (thn (ha.run pos pins s1 σ H1 _ I1 hargs) fun us s2 hv => ?_) he hpl
    obtain ⟨vs, H2, I2, r, q⟩ := hv
    exact ⟨I2.kIn, run_def at_ F hj hb I2 r q⟩
end
/-! ## 71. a function of one tuple of ints, called by a builtin: all else stays -/
/-- what is known and cannot be changed: tuples, tables -/
def immH (H : Hp) : Hp := fun b => match H b with
  | some (.tup xs) => some (.tup xs)
  | some (.frz o (.tup xs)) => some (.frz o (.tup xs))
  | some (.tbl ps) => some (.tbl ps)
  | _ => none
def onH (H0 H : Hp) : Hp := fun b => match H0 b with
  | some o => some o
  | none => H b
theorem immH_tup {H : Hp} {b : Addr} {xs : List V} (h : H b = some (.tup xs)) : immH H b = some (.tup xs) := by unfold immH; rw [h]
theorem immH_frz {H : Hp} {b : Addr} {o : Obj} {xs : List V} (h : H b = some (.frz o (.tup xs))) : immH H b = some (.frz o (.tup xs)) := by unfold immH; rw [h]
theorem immH_tbl {H : Hp} {b : Addr} {ps : _} (h : H b = some (.tbl ps)) : immH H b = some (.tbl ps) := by unfold immH; rw [h]
theorem immH_none {H : Hp} {b : Addr} (h : H b = none) : immH H b = none := by unfold immH; rw [h]
theorem immH_some {H : Hp} {b : Addr} {u : HO} (h : immH H b = some u) : H b = some u ∧ ((∃ xs, u = .tup xs) ∨ (∃ o xs, u = .frz o (.tup xs)) ∨ ∃ ps, u = .tbl ps) := by
  unfold immH at h
  split at h <;> first | (cases h; done) | skip
  · cases h; exact ⟨by assumption, .inl ⟨_, rfl⟩⟩
  · cases h; exact ⟨by assumption, .inr (.inl ⟨_, _, rfl⟩)⟩
  · cases h; exact ⟨by assumption, .inr (.inr ⟨_, rfl⟩)⟩
theorem onH_some {H0 H : Hp} {b : Addr} {u : HO} (h : H0 b = some u) : onH H0 H b = some u := by unfold onH; rw [h]
theorem onH_none {H0 H : Hp} {b : Addr} (h : H0 b = none) : onH H0 H b = H b := by unfold onH; rw [h]
theorem imm_ok {P : Program} {w : PySem.World} {H : Hp} {h : Heap} (ok : HOk P w H h) : HOk P w (immH H) h := fun b u e => by
  obtain ⟨e1, q⟩ := immH_some e
  have o := ok b u e1
  rcases q with ⟨xs, rfl⟩ | ⟨ob, xs, rfl⟩ | ⟨ps, rfl⟩
  · exact o
  · exact o
  · exact o
theorem obj_there {P : Program} {w : PySem.World} {H : Hp} {h : Heap} {a : Addr} {u : HO} (x : ObjOk P w H h a u) : ∃ o, h.get? a = some o := by
  cases u with
  | lst xs => obtain ⟨_, _, _, _, e⟩ := x; exact ⟨_, e⟩
  | tup xs => obtain ⟨_, _, _, o, e, _⟩ := x; exact ⟨_, e⟩
  | dK kvs => obtain ⟨_, _, _, _, o, _, _, e, _⟩ := x; exact ⟨_, e⟩
  | dT kvs => obtain ⟨_, _, _, _, o, _, _, e, _⟩ := x; exact ⟨_, e⟩
  | set T n => obtain ⟨o, _, _, _, e, _⟩ := x; exact ⟨_, e⟩
  | ins C dx fs => obtain ⟨_, _, _, e, _⟩ := x; exact ⟨_, e⟩
  | own y => exact x
  | xd fs => obtain ⟨_, ⟨_, _, _, e, _⟩, _⟩ := x; exact ⟨_, e⟩
  | rng lo hi => obtain ⟨_, _, _, e⟩ := x; exact ⟨_, e⟩
  | frz o v => exact ⟨_, x.1⟩
  | tbl ps => exact ⟨_, x⟩
  | met f y => exact ⟨_, x⟩
  | ext φ => exact x.2.1
section
variable {G : GG} {W : WX} {X : Cx} {k : Nat}
/-- what a function of one tuple of ints tells, run where nothing else stands -/
def keyF (r : List Vl → M Vl) : Vl → Option (List Int)
  | .tup xs => match r [.tup xs] [] with
    | some (.ok (.tup ys) []) => if (intsM xs).isSome then intsM ys else none
    | _ => none
  | _ => none
theorem rvs_ofI {μ : List Addr} {H : Hp} : ∀ {xs : List Vl} {ns : List Int}, intsM xs = some ns → Rvs G μ H xs (ns.map V.int)
  | [], _, e => by cases e; exact .nil
  | x :: xs, ns, e => by
    cases x <;> first | (unfold intsM at e; cases e; done) | skip
    unfold intsM at e
    revert e
    cases q : intsM xs with
    | none => intro e; cases e
    | some ms => intro e; cases e; exact .cons (.int _) (rvs_ofI q)
theorem imm_sqt {K : PySem.W.Frag} {H : Hp} {a : Addr} {vs : List V} (h : SqT K H a vs) : SqT K (immH H) a vs := by
  rcases h with (h | ⟨o, h⟩) | h
  · exact .inl (.inl (immH_tup h))
  · exact .inl (.inr ⟨o, immH_frz h⟩)
  · exact .inr h
theorem on_sqt {K : PySem.W.Frag} {H0 H : Hp} {a : Addr} {vs : List V} (h : SqT K H0 a vs) : SqT K (onH H0 H) a vs := by
  rcases h with (h | ⟨o, h⟩) | h
  · exact .inl (.inl (onH_some h))
  · exact .inl (.inr ⟨o, onH_some h⟩)
  · exact .inr h
theorem imm_rs {μ : List Addr} {H : Hp} {S : Store} (rs : RS G μ H S) : RS G [] (immH H) [] :=
  ⟨rfl, List.nodup_nil, fun n o e => by simp at e, fun P hP => by
    obtain ⟨ps, e, t⟩ := rs.tab P hP
    exact ⟨ps, immH_tbl e, t⟩⟩
/-- all that was known, behind it -/
structure Aft (X : Cx) (G : GG) (μ : List Addr) (pins : List (Addr × Obj)) (σ : L2.St) (H : Hp) (S : Store) (s : Shared) (H1 : Hp) (s1 : Shared) : Prop where
  inv : Inv X pins σ H1 s1
  un : Un (frs X.stack) [] H H1 s.heap s1.heap
  rs : RS G μ H1 S
  gr : Gr μ H μ H1
  keep : ∀ c u o, H c = some u → immH H c = none → s.heap.get? c = some o → s1.heap.get? c = some o
  old : ∀ c u, H c = some u → immH H c = none → H1 c = some u
theorem call_pure {pins : List (Addr × Obj)} {σ : L2.St} {H : Hp} {s : Shared} {μ : List Addr} {S : Store} {r : List Vl → M Vl} {j : Nat} {f0 : Addr} {fd : FuncData} {p : Str} {x : Vl} {v : V} {u : Value} {ks : List Int} {Q : Value → Shared → Prop} {E : Value → Shared → Prop}
    (at_ : At X G W (k + 1)) (F : FnG X.prog X.w X.K X.mg X.base j f0 fd [p] (spM G r)) (hj : j ≤ k) (hb : Binds X.K fd [p] []) (I : Inv X pins σ H s) (rs : RS G μ H S) (rx : Rv G μ H x v) (ru : RelV v u) (hx : keyF r x = some ks)
    (h : ∀ b s1 H1, Aft X G μ pins σ H S s H1 s1 → SqT X.K H1 b (ks.map V.int) → Q (.ref b) s1) : wpAny (model X.prog X.w) X.A.in1 (call (.ref f0) [u]) Q E s := by
  unfold keyF at hx
  cases rx <;> first | (simp at hx; done) | skip
  rename_i xs vs a hv rv
  dsimp only at hx
  split at hx
  case h_2 => cases hx
  rename_i ys hr
  split at hx
  case isFalse => cases hx
  rename_i hz
  obtain ⟨ns, hns⟩ := Option.isSome_iff_exists.mp hz
  have evs : vs = ns.map V.int := intsM_map rv hns
  subst evs
  cases ru
  have E0 := I.env0
  have hE0 : Env0 X.prog X.w X.K X.mg X.base X.A.in1 X.stack s (immH H) :=
    ⟨E0.frames, E0.mod, fun b o e => ⟨(E0.bs b o e).1, immH_none (E0.bs b o e).2⟩, E0.bsz, E0.funs, fun b hb => immH_none (E0.frf b hb), imm_ok E0.hok, E0.bare⟩
  have hbt := hb s [.ref a] I.kIn rfl
  rw [List.append_nil] at hbt
  refine wpAny_call (codeAny_mono (F.run X.A.in1 X.stack s (immH H) ⟨[.ref a], []⟩ [.ref a] [V.ref a] (fun v1 H1 => RS G [] H1 [] ∧ Rv G [] H1 (.tup ys) v1) (fun _ _ _ => False) (at_.room.in1.mono hj) at_.gd hE0 hbt (.cons rfl .nil)
    ⟨[], [.tup xs], [], imm_rs rs, .cons (.tup (by rw [← at_.K] at *; exact imm_sqt hv) (rvs_ofI hns)) .nil, _, hr, fun μ1 H1 v1 g1 r1 rs1 => ?_⟩) fun res s1 hq => ?_)
  · have : μ1 = [] := List.eq_nil_of_length_eq_zero rs1.len
    subst this
    exact ⟨rs1, r1⟩
  · cases res with
    | error e =>
      obtain ⟨_, _, _, _, _, _, _, _, _, _, _, _, z⟩ := (show L2.CX X.prog X.w X.stack (immH H) s (fun _ _ _ => False) e s1 from hq)
      exact z.elim
    | ok fl =>
      cases fl with
      | next => exact False.elim hq
      | brk => exact False.elim hq
      | cont => exact False.elim hq
      | ret u1 =>
        obtain ⟨v1, H1, os, bare, un, hok, ru1, rs1, rv1⟩ := (show CE X.stack X.prog X.w (immH H) s _ u1 s1 from hq)
        cases rv1 with
        | tup ht rt =>
          rename_i ws b
          have e2 := intsM_map rt hx
          subst e2
          cases ru1
          have there : ∀ c u2, H c = some u2 → ∃ o, s.heap.get? c = some o := fun c u2 e1 => obj_there (I.hok c u2 e1)
          have fresh : ∀ c u2, H c = some u2 → immH H c = none → H1 c = none := fun c u2 e1 e2 => by
            obtain ⟨o, ho⟩ := there c u2 e1
            exact un.free c o ho e2 (by simp)
          have nfr : ∀ c u2, H c = some u2 → c ∉ frs X.stack := fun c u2 e1 hm => by rw [I.stkFree c hm] at e1; cases e1
          have keep : ∀ c u2 o, H c = some u2 → immH H c = none → s.heap.get? c = some o → s1.heap.get? c = some o := fun c u2 o e1 e2 e3 => un.keep c o e3 e2 (nfr c u2 e1) (by simp)
          have old : ∀ c u2, H c = some u2 → immH H c = none → onH H1 H c = some u2 := fun c u2 e1 e2 => by rw [onH_none (fresh c u2 e1 e2)]; exact e1
          have tups : ∀ c xs, H c = some (.tup xs) → onH H1 H c = some (.tup xs) := fun c xs e => onH_some (un.tups c xs (immH_tup e))
          have frzs : ∀ c o u2, H c = some (.frz o u2) → onH H1 H c = some (.frz o u2) := fun c o u2 e => by
            by_cases hz : ∃ xs, u2 = .tup xs
            · obtain ⟨xs, rfl⟩ := hz
              exact onH_some (un.frzs c o _ (immH_frz e))
            · refine old c _ e ?_
              unfold immH
              rw [e]
              split <;> first | rfl | (rename_i q; cases q; exact absurd ⟨_, rfl⟩ hz) | (rename_i q; cases q)
          have own : ∀ c y, H c = some (.own y) → immH H c = none := fun c y e => by unfold immH; rw [e]
          have hok2 : HOk X.prog X.w (onH H1 H) s1.heap := fun c u2 e => by
            cases q : H1 c with
            | some u3 =>
              rw [onH_some q] at e; cases e
              exact (hok c _ q).stay (fun _ _ _ z => z) (fun _ z => onH_some z) fun _ _ z => onH_some z
            | none =>
              rw [onH_none q] at e
              have hn : immH H c = none := by
                cases qi : immH H c with
                | none => rfl
                | some u4 =>
                  exfalso
                  obtain ⟨_, z⟩ := immH_some qi
                  rcases z with ⟨xs, rfl⟩ | ⟨o, xs, rfl⟩ | ⟨ps, rfl⟩
                  · rw [un.tups c xs qi] at q; cases q
                  · rw [un.frzs c o _ qi] at q; cases q
                  · obtain ⟨_, z⟩ := un.tbls c ps qi
                    rw [z] at q; cases q
              refine (I.hok c u2 e).stay (fun d o hd z => ?_) (fun d z => old d _ z (own d _ z)) tups
              rcases hd with rfl | hd
              · exact keep _ _ _ e hn z
              · exact keep _ _ _ hd (own d _ hd) z
          have un2 : Un (frs X.stack) [] H (onH H1 H) s.heap s1.heap :=
            ⟨fun c o e n f x => un.keep c o e (immH_none n) f x, fun c o e n f x => un.slot c o e (immH_none n) f x,
              fun c o e n x => by rw [onH_none (un.free c o e (immH_none n) x)]; exact n, un.there, tups, frzs,
              fun c ps e => by obtain ⟨m, z⟩ := un.tbls c ps (immH_tbl e); exact ⟨m, onH_some z⟩⟩
          have gr : Gr μ H μ (onH H1 H) := ⟨fun _ _ z => z, tups, frzs⟩
          refine h b s1 (onH H1 H) ⟨I.call' os un2 hok2 bare (fun _ z => absurd z (by simp)), un2, ⟨rs.len, rs.nd, fun n ob e => ?_, fun P hP => ?_⟩, gr, keep, old⟩ (on_sqt (by rw [← at_.K]; exact ht))
          · obtain ⟨c, h1, h2⟩ := rs.ob n ob e
            obtain ⟨u3, hu, n1, n2, n3⟩ := h2.some
            refine ⟨c, h1, h2.up gr ?_⟩
            rw [hu]
            refine old c _ hu ?_
            unfold immH
            rw [hu]
            split <;> first | rfl | (rename_i q; cases q; exact absurd rfl (n1 _)) | (rename_i q; cases q; exact absurd rfl (n2 _ _)) | (rename_i q; cases q; exact absurd rfl (n3 _))
          · obtain ⟨ps, e, t⟩ := rs1.tab P hP
            exact ⟨ps, onH_some e, t⟩
end
end Tw
end
section
set_option Elab.async false
set_option maxRecDepth 100000
set_option maxHeartbeats 3000000
set_option autoImplicit true
set_option linter.all false
set_option relaxedAutoImplicit true
namespace Tw
open PySem L2 PyProof.Rows
/-! ## 72. min of a list with a key that tells tuples of ints -/
def keysF (r : List Vl → M Vl) : List Vl → Option (List (List Int))
  | [] => some []
  | x :: xs => match keyF r x, keysF r xs with
    | some k, some ks => some (k :: ks)
    | _, _ => none
def ltI (xs ys : List Int) : Bool := SeqAt.firstLt (fun j => decide (xs.getD j 0 = ys.getD j 0)) (fun j => decide (xs.getD j 0 < ys.getD j 0)) (decide (xs.length < ys.length)) (List.range (min xs.length ys.length))
def bestAt (ks : List (List Int)) : Nat := argBest (fun i j => ltI (ks.getD i []) (ks.getD j [])) (ks.length - 1)
def bMinK (r : List Vl → M Vl) (x d : Vl) : M Vl := bnd (getL x) fun xs => match keysF r xs with
  | some ks => if xs.isEmpty = true then ret d else ret (xs.getD (bestAt ks) .non)
  | none => stuck
def eMinK (r : List Vl → M Vl) (a b : Ev) : Ev := fun ρ => bnd (a ρ) fun x => bnd (b ρ) fun d => bMinK r x d
theorem keysF_get {r : List Vl → M Vl} : ∀ {xs : List Vl} {ks : List (List Int)}, keysF r xs = some ks → xs.length = ks.length ∧ ∀ (i : Nat) (x : Vl), xs[i]? = some x → ∃ k, ks[i]? = some k ∧ keyF r x = some k
  | [], _, e => by cases e; exact ⟨rfl, fun i x h => by simp at h⟩
  | x :: xs, _, e => by
    unfold keysF at e
    split at e
    case h_2 => cases e
    rename_i k ks h1 h2
    cases e
    obtain ⟨q1, q2⟩ := keysF_get h2
    refine ⟨by simp [q1], fun i y hi => ?_⟩
    cases i with
    | zero => simp at hi; subst hi; exact ⟨k, by simp, h1⟩
    | succ i => simpa using q2 i y (by simpa using hi)
section
variable {G : GG} {W : WX} {X : Cx} {k : Nat}
theorem relV_int {v : V} {i : Int} {t : Tok} (h : RelV v (.int i t)) : v = .int i := by
  cases v <;> first | (obtain ⟨t', e⟩ := h; cases e; rfl) | (cases h; done) | (obtain ⟨_, e⟩ := h; cases e; done)
theorem vals_intsAre : ∀ {us : List Value} {ks : List Int} {xs : List V}, IntsAre us ks → Vals xs us → xs = ks.map V.int
  | _, _, _, .nil, .nil => rfl
  | _, _, _, .cons k t h, .cons q r => by rw [relV_int q, vals_intsAre h r]; rfl
/-- a tuple of ints stays one -/
theorem tupI_after {pins : List (Addr × Obj)} {σ : L2.St} {H H1 : Hp} {s s1 : Shared} {μ : List Addr} {S : Store} {u : Value} {ns : List Int} (I : Inv X pins σ H s) (A : Aft X G μ pins σ H S s H1 s1) (h : TS.TupInts s.heap u ns) : TS.TupInts s1.heap u ns := by
  obtain ⟨a, xs, rfl, ht, hi⟩ := h
  obtain ⟨o, ho, hc, n, hd⟩ := id ht
  cases q : H a with
  | none =>
    obtain ⟨sl, e⟩ := A.un.any ho q (by simp)
    exact ⟨a, xs, rfl, ⟨_, e, hc, n, hd⟩, hi⟩
  | some u2 =>
    cases qi : immH H a with
    | none => exact ⟨a, xs, rfl, ⟨o, A.keep a u2 o q qi ho, hc, n, hd⟩, hi⟩
    | some u3 =>
      obtain ⟨e1, z⟩ := immH_some qi
      have ok := I.hok a _ e1
      have ok1 : ∀ u4, H1 a = some u4 → ObjOk X.prog X.w H1 s1.heap a u4 := fun u4 e => A.inv.hok a u4 e
      rcases z with ⟨vs, rfl⟩ | ⟨ob, vs, rfl⟩ | ⟨ps, rfl⟩
      · obtain ⟨_, its, rv, o2, ho2, hc2, n2, hd2⟩ := ok
        rw [ho] at ho2; cases ho2
        rw [hd] at hd2; cases hd2
        obtain ⟨_, its1, rv1, t1⟩ := ok1 _ (A.un.tups a vs e1)
        refine ⟨a, its1.toArray, rfl, t1, ?_⟩
        have := vals_intsAre hi (by simpa using rv)
        rw [this] at rv1
        simpa using rv1.ints
      · obtain ⟨e2, _⟩ := ok
        rw [ho] at e2; cases e2
        obtain ⟨e3, _⟩ := ok1 _ (A.un.frzs a _ _ e1)
        exact ⟨a, xs, rfl, ⟨o, e3, hc, n, hd⟩, hi⟩
      · have e2 : s.heap.get? a = some _ := ok
        rw [ho] at e2; cases e2
        cases hc
theorem rcLt_ints {A : Around} {s : Shared} {u v : Value} {xs ys : List Int} (hx : TS.TupInts s.heap u xs) (hy : TS.TupInts s.heap v ys) (hu : A.units < cLine) : SeqAt.RcLt A s u v (ltI xs ys) := by
  obtain ⟨a, its, rfl, ha, ia⟩ := hx
  obtain ⟨b, jts, rfl, hb, ib⟩ := hy
  have la : its.size = xs.length := by have := ia.length; simpa using this
  have lb : jts.size = ys.length := by have := ib.length; simpa using this
  have ga : ∀ j (h : j < its.size), ∃ t, its[j] = .int (xs.getD j 0) t := fun j h => ints_at ia (i := j) (by simp [h])
  have gb : ∀ j (h : j < jts.size), ∃ t, jts[j] = .int (ys.getD j 0) t := fun j h => ints_at ib (i := j) (by simp [h])
  have := SeqAt.RcLt.tuples (A := A) (e := fun j => decide (xs.getD j 0 = ys.getD j 0)) (r := fun j => decide (xs.getD j 0 < ys.getD j 0)) ha hb hu (fun j h1 h2 => by
    obtain ⟨t, e1⟩ := ga j h1
    obtain ⟨t2, e2⟩ := gb j h2
    rw [e1, e2]
    exact SeqAt.EqAt.int_int _ _ _ _) fun j h1 h2 _ => by
    obtain ⟨t, e1⟩ := ga j h1
    obtain ⟨t2, e2⟩ := gb j h2
    rw [e1, e2]
    exact fun prog w E Q q => HT.rcLt_int _ s _ _ _ _ prog w E Q q
  rw [la, lb] at this
  exact this
end
end Tw
end
section
set_option Elab.async false
set_option maxRecDepth 100000
set_option maxHeartbeats 3000000
set_option autoImplicit true
set_option linter.all false
set_option relaxedAutoImplicit true
namespace Tw
open PySem L2 PyProof.Rows
theorem argBest_le (bt : Nat → Nat → Bool) : ∀ k, argBest bt k ≤ k
  | 0 => Nat.le_refl _
  | k + 1 => by
    have ih := argBest_le bt k
    show (if bt (k + 1) (argBest bt k) = true then k + 1 else argBest bt k) ≤ k + 1
    split <;> omega
section
variable {G : GG} {W : WX} {X : Cx} {k : Nat}
/-- all that stays while min goes on: its own list at C, the walk's iterator at I -/
structure WkJ (X : Cx) (G : GG) (μ : List Addr) (pins : List (Addr × Obj)) (σ : L2.St) (H0 : Hp) (S : Store) (a : Addr) (vs : List V) (C I : Addr) (s : Shared) (H : Hp) : Prop where
  inv : Inv X pins σ H s
  rs : RS G μ H S
  gr : Gr μ H0 μ H
  sq : SqL X.K H a vs
  fc : FpOk X pins H C
  fi : FpOk X pins H I
theorem WkJ.moved {μ : List Addr} {pins : List (Addr × Obj)} {σ : L2.St} {H0 H : Hp} {S : Store} {a C I : Addr} {vs : List V} {s s1 : Shared} (J : WkJ X G μ pins σ H0 S a vs C I s H) (hb : X.s_0.heap.objs.size ≤ C ∧ X.s_0.heap.objs.size ≤ I) (m : Moved (C :: [I]) (fun a b => b = a) s s1) : WkJ X G μ pins σ H0 S a vs C I s1 H := by
  have kp : ∀ b o, b ≠ C → b ≠ I → s.heap.get? b = some o → s1.heap.get? b = some o := fun b o h1 h2 => m.heap b o (by simp [h1, h2])
  have ne : ∀ b u, H b = some u → b ≠ C ∧ b ≠ I := fun b u e => ⟨(fun z => by rw [z, J.fc.1] at e; exact nomatch e), (fun z => by rw [z, J.fi.1] at e; exact nomatch e)⟩
  have nm : ∀ b, b ∉ [C, I] → b ≠ C ∧ b ≠ I := fun b h => by simpa using h
  refine ⟨J.inv.call' (ch := [C, I]) m.os ⟨fun b o e _ _ x => kp b o (nm b x).1 (nm b x).2 e, fun b o e _ _ x => ⟨o.slots, kp b o (nm b x).1 (nm b x).2 e⟩, fun _ _ _ z _ => z, fun b o e x => ⟨o, kp b o (nm b x).1 (nm b x).2 e⟩, fun _ _ z => z, fun _ _ _ z => z, fun _ _ z => ⟨#[], by simpa using z⟩⟩ (fun b u e => ?_) (by rw [show s1.gens = s.gens from m.gens]; exact J.inv.bare) (fun b hb2 => ?_), J.rs, J.gr, J.sq, J.fc, J.fi⟩
  · refine (J.inv.hok b u e).stay (fun c o hc z => ?_) (fun _ z => z) fun _ _ z => z
    rcases hc with rfl | hc
    · exact kp _ o (ne _ _ e).1 (ne _ _ e).2 z
    · exact kp c o (ne _ _ hc).1 (ne _ _ hc).2 z
  · have f : ∀ c, FpOk X pins H c → (c ∈ X.ex ∨ X.s_0.heap.objs.size ≤ c) ∧ c ≠ X.env.locals ∧ (∀ x d, X.env.cells.lookup x = some d → d ≠ c) ∧ ∀ p ∈ X.pn ++ pins, p.1 ≠ c := fun c h => ⟨h.2.2.2.1, h.2.1, h.2.2.2.2.1, h.2.2.2.2.2⟩
    rcases List.mem_cons.mp hb2 with rfl | h
    · exact f _ J.fc
    · obtain rfl : b = I := by simpa using h
      exact f _ J.fi
theorem sql_old {pins : List (Addr × Obj)} {σ : L2.St} {H : Hp} {s : Shared} {a : Addr} {vs : List V} (I : Inv X pins σ H s) (h : SqL X.K H a vs) : immH H a = none ∧ (∀ u, H a = some u → (∃ xs, u = .lst xs) ∨ ∃ o xs, u = .frz o (.lst xs)) := by
  rcases h with (h | ⟨o, h⟩) | ⟨o, its, n, h1, h2⟩
  · exact ⟨by unfold immH; rw [h], fun u e => by rw [h] at e; cases e; exact .inl ⟨_, rfl⟩⟩
  · exact ⟨by unfold immH; rw [h], fun u e => by rw [h] at e; cases e; exact .inr ⟨_, _, rfl⟩⟩
  · have hn : H a = none := (I.bs a o (I.ok.mod.kin _ _ h1)).2
    exact ⟨immH_none hn, fun u e => by rw [hn] at e; cases e⟩
theorem rMinK_run {pins : List (Addr × Obj)} {σ : L2.St} {H : Hp} {s : Shared} {μ : List Addr} {S : Store} {r : List Vl → M Vl} {j : Nat} {f0 a : Addr} {fd : FuncData} {p : Str} {d : V} {dv : Value} {xs : List Vl} {vs : List V} {ks : List (List Int)} {Q : VK}
    (at_ : At X G W (k + 2)) (F : FnG X.prog X.w X.K X.mg X.base j f0 fd [p] (spM G r)) (hj : j ≤ k) (hb : Binds X.K fd [p] []) (I : Inv X pins σ H s) (rs : RS G μ H S) (hs : SqL X.K H a vs) (rx : Rvs G μ H xs vs) (rd : RelV d dv) (hk : keysF r xs = some ks)
    (h0 : xs = [] → ∀ H1, Gr μ H μ H1 → RS G μ H1 S → Q d H1) (h1 : 0 < xs.length → ∀ v H1, Gr μ H μ H1 → RS G μ H1 S → Rv G μ H1 (xs.getD (bestAt ks) .non) v → Q v H1) :
    wpAny (model X.prog X.w) X.A (call (.builtin "min") [.ref a] [(Str.ofString "key", .ref f0), (Str.ofString "default", dv)]) (EP X pins σ Q) X.xe s := by
  have hh := I.ok.hd at_.calm
  obtain ⟨its, rv, hl, _⟩ := I.list hs
  have hl' := hl.isList
  have hlt : a < s.heap.objs.size := by obtain ⟨_, e, _⟩ := hl'; exact Heap.lt_size e
  obtain ⟨hlen, hget⟩ := keysF_get hk
  have hn : its.toArray.size = ks.length := by rw [List.size_toArray, ← rv.length, ← rx.length, hlen]
  have I2 : Inv X pins σ H { s with heap := s.heap.push { cls := .type "list_iterator", data := .fields #[.ref a, .int 0 0] }, toks := s.toks } := I.kept fun b o e => Heap.get?_push_of_some _ e
  have hz : (s.heap.push { cls := .type "list_iterator", data := .fields #[.ref a, .int 0 0] }).objs.size = s.heap.objs.size + 1 := Heap.size_push ..
  have b0 : X.s_0.heap.objs.size ≤ s.heap.objs.size := I.sz
  have hfr : ∀ {s1 : Shared} {H1 : Hp}, Inv X pins σ H1 s1 → ∀ c, FpOk X pins H1 c → c ∉ frs X.stack := fun {s1 H1} J c f m => by
    rcases List.mem_cons.mp (J.stkSub c m) with q | q
    · exact f.2.1 q
    · exact f.2.2.1 q
  refine call_min_walkKD (wpAny_pyIter_list hl' ⟨s.heap.objs.size, [s.heap.objs.size, a], [s.heap.objs.size], _, its.toArray.size, fun i v => its.toArray[i]? = some v, _, fun s1 => ∃ H1, WkJ X G μ pins σ H S a vs (s.heap.objs.size + 1) s.heap.objs.size s1 H1,
    fun i q s1 => ∃ b ns, q = .ref b ∧ ks[i]? = some ns ∧ TS.TupInts s1.heap q ns ∧ b ≠ s.heap.objs.size + 1 ∧ b ≠ s.heap.objs.size, fun i j => ltI (ks.getD i []) (ks.getD j []), rfl, (Walks.list (A := X.A.in1) hh s.heap.objs.size a (Nat.ne_of_lt hlt) its.toArray).toS, ⟨⟨_, Heap.get?_push_size _ rfl, rfl, rfl⟩, hl'.push _⟩, ?hb, ?K, ?J, ?z, ?q⟩)
  case hb =>
    intro b hb
    show b < (s.heap.push _).objs.size
    rw [Heap.size_push]
    rcases List.mem_cons.mp hb with rfl | hb
    · exact Nat.lt_succ_self _
    · obtain rfl : b = a := by simpa using hb
      exact Nat.lt_succ_of_lt hlt
  case J =>
    refine ⟨H, I2, rs, .refl, hs, I2.fpOk (by show (s.heap.push _).objs.size ≤ _; rw [hz]; exact Nat.le_refl _) (I.hok.fresh (Nat.le_succ _)), ?_⟩
    exact I.fpOk (Nat.le_refl _) (I.hok.fresh (Nat.le_refl _))
  case z =>
    intro hz s1 ⟨H1, J⟩
    have : xs = [] := List.eq_nil_of_length_eq_zero (by rw [hlen, ← hn, hz])
    exact ⟨d, H1, J.inv, rd, h0 this H1 J.gr J.rs⟩
  case q =>
    intro hz v s1 hP ⟨H1, J⟩
    rw [hn] at hP hz
    have hi : bestAt ks < ks.length := by
      have := argBest_le (fun i j => ltI (ks.getD i []) (ks.getD j [])) (ks.length - 1)
      unfold bestAt
      omega
    replace hP : its[bestAt ks]? = some v := List.getElem?_toArray.symm.trans hP
    obtain ⟨x, ex⟩ : ∃ x, xs[bestAt ks]? = some x := ⟨_, List.getElem?_eq_getElem (by rw [hlen]; exact hi)⟩
    obtain ⟨v1, e1, r1⟩ := rx.get ex
    obtain ⟨v2, e2, r2⟩ := rv.get e1
    rw [hP] at e2; cases e2
    refine ⟨v1, H1, J.inv, r2, h1 (by omega) v1 H1 J.gr J.rs ?_⟩
    rw [List.getD_eq_getElem?_getD, ex]
    exact r1.up J.gr
  case K =>
    have hsz : (s.heap.push { cls := .type "list_iterator", data := .fields #[.ref a, .int 0 0] }).objs.size = s.heap.objs.size + 1 := hz
    show KeyRun X.prog X.w X.A.in1 (.ref f0) .Lt (s.heap.push { cls := .type "list_iterator", data := .fields #[.ref a, .int 0 0] }).objs.size _ _ _ _ _ _ _ _
    rw [hsz]
    refine ⟨fun s1 s2 ⟨H1, J⟩ m => ⟨H1, J.moved ⟨Nat.le_succ_of_le b0, b0⟩ m⟩, fun i q s1 s2 ⟨b, ns, e, e2, t, n1, n2⟩ m => ?_, fun i v s1 o Q1 E1 hi hP ⟨H1, J⟩ hst hC hQ => ?_, fun i i2 q q2 s1 Q1 E1 ⟨H1, J⟩ ⟨b, ns, e, e2, t, _, _⟩ ⟨b2, ns2, e3, e4, t2, _, _⟩ hq => ?_⟩
    · refine ⟨b, ns, e, e2, ?_, n1, n2⟩
      subst e
      obtain ⟨b', its2, e, ⟨ob, ho, hc, hd⟩, hi⟩ := t
      cases e
      exact ⟨b, its2, rfl, ⟨ob, m.heap b ob (by simp [n1, n2]) ho, hc, hd⟩, hi⟩
    · replace hP : its[i]? = some v := by simpa using hP
      obtain ⟨v1, e1⟩ : ∃ v1, vs[i]? = some v1 := ⟨_, List.getElem?_eq_getElem (by rw [rv.length]; exact (List.getElem?_eq_some_iff.mp hP).1)⟩
      obtain ⟨v9, e9, r1⟩ := rv.get e1
      rw [hP] at e9; cases e9
      obtain ⟨x, ex, r2⟩ := rx.get' e1
      obtain ⟨ns, en, kf⟩ := hget i x ex
      refine call_pure (show At X G W ((k + 1) + 1) from at_) F (by omega) hb J.inv J.rs (r2.up J.gr) r1 kf fun b s2 H2 A hbt => ?_
      obtain ⟨⟨oi, hoi, q1⟩, ol, hol, q2⟩ := hst
      have fC : H2 (s.heap.objs.size + 1) = none := A.un.free _ o hC J.fc.1 (by simp)
      have fI : H2 s.heap.objs.size = none := A.un.free _ oi hoi J.fi.1 (by simp)
      have kC : s2.heap.get? (s.heap.objs.size + 1) = some o := A.un.keep _ o hC J.fc.1 (hfr J.inv _ J.fc) (by simp)
      have kI : s2.heap.get? s.heap.objs.size = some oi := A.un.keep _ oi hoi J.fi.1 (hfr J.inv _ J.fi) (by simp)
      obtain ⟨im, il⟩ := sql_old J.inv J.sq
      have kL : s2.heap.get? a = some ol := by
        cases q : H1 a with
        | none =>
          rcases J.sq with (h | ⟨o2, h⟩) | ⟨o2, its2, n, h1, h2⟩
          · rw [q] at h; cases h
          · rw [q] at h; cases h
          · have z := I.ok.mod.kin _ _ h1
            have z1 := J.inv.bk a o2 z
            rw [hol] at z1; cases z1
            exact A.inv.bk a ol z
        | some u => exact A.keep a u ol q im hol
      have sq2 : SqL X.K H2 a vs := by
        rcases J.sq with (h | ⟨o2, h⟩) | h
        · exact .inl (.inl (A.old a _ h im))
        · exact .inl (.inr ⟨o2, A.old a _ h im⟩)
        · exact .inr h
      have nb : ∀ c, H2 c = none → X.s_0.heap.objs.size ≤ c → b ≠ c := fun c hc hs z => by
        subst z
        rcases hbt with (h | ⟨o2, h⟩) | ⟨o2, its2, n, h1, h2⟩
        · rw [hc] at h; cases h
        · rw [hc] at h; cases h
        · have := (I.ok.bs b o2 (I.ok.mod.kin _ _ h1)).1
          exact absurd (Nat.lt_of_lt_of_le (Heap.lt_size this) hs) (Nat.lt_irrefl _)
      refine hQ (.ref b) s2 ⟨H2, A.inv, A.rs, J.gr.trans A.gr, sq2, ⟨fC, J.fc.2⟩, ⟨fI, J.fi.2⟩⟩ ⟨⟨oi, kI, q1⟩, ol, kL, q2⟩ kC ⟨b, ns, rfl, en, tupI_raw A.inv hbt, nb _ fC (Nat.le_succ_of_le b0), nb _ fI b0⟩ fun i3 q3 ⟨b3, n3, e3, e4, t3, m1, m2⟩ => ⟨b3, n3, e3, e4, tupI_after J.inv A t3, m1, m2⟩
    · have := rcLt_ints (A := X.A.in1) t t2 (by have := at_.room.un; show X.A.units + 1 < _; omega)
      rw [List.getD_eq_getElem?_getD, List.getD_eq_getElem?_getD, e2, e4] at hq
      exact this X.prog X.w E1 Q1 hq
end
section
variable {G : GG} {W : WX} {X : Cx} {k : Nat} {p pos kp kp2 : Pos} {e ek e2 : Expr} {fa fb : Ev}
def rMinKD (X : Cx) (G : GG) (r : List Vl → M Vl) (f : Str) : List V → List V → Hp → VK → Prop := fun vs zs H Q => ∃ (a f0 : Addr) (d : V) (μ : List Addr) (S : Store) (xs : List Vl) (us : List V) (ks : List (List Int)),
  vs = [V.ref a] ∧ zs = [V.ref f0, d] ∧ X.mg f = some (.ref f0) ∧ RS G μ H S ∧ SqL X.K H a us ∧ Rvs G μ H xs us ∧ keysF r xs = some ks ∧ (xs = [] → ∀ H1, Gr μ H μ H1 → RS G μ H1 S → Q d H1) ∧
  (0 < xs.length → ∀ v H1, Gr μ H μ H1 → RS G μ H1 S → Rv G μ H1 (xs.getD (bestAt ks) .non) v → Q v H1)
theorem cr_minKD {r : List Vl → M Vl} {f q : Str} {j : Nat} (at_ : At X G W (k + 2)) (D : Def X.prog X.w X.K X.mg X.base G.tabs j f [q] r) (hj : j ≤ k) : CallRK X (.builtin "min") [Str.ofString "key", Str.ofString "default"] (rMinKD X G r f) := by
  intro pins s σ H vs zs us ws Q I rv rz h
  obtain ⟨a, f0, d, μ, S, xs, ys, ks, rfl, rfl, hf, rs, hs, rx, hk, h0, h1⟩ := h
  obtain ⟨f1, fd, hm, hkp, hb, F⟩ := D
  rw [gg_eq at_] at F
  rw [hm] at hf; cases hf
  rw [Vals.ref1 rv]
  cases rz with
  | cons r1 t =>
    cases r1
    cases t with
    | cons r2 t2 =>
      cases t2
      exact rMinK_run at_ F hj hb I rs hs rx r2 hk h0 h1
theorem x_minK {r : List Vl → M Vl} {f q : Str} {j : Nat} {pf : Pos} (at_ : At X G W (k + 2)) (D : Def X.prog X.w X.K X.mg X.base G.tabs j f [q] r) (hj : j ≤ k) (hm : X.mg "min" = none) (ha : PE X e (T G W fa)) (hkey : PE X (.Name f pf) (T G W (eC (.fn f)))) (hb : PE X e2 (T G W fb)) (hgl : Gl X "min" := by rfl)
    (he0 : starEach [e] X.env = (false, eval e X.env) :: starEach [] X.env := by rfl)
    (he : backTo pos (starEach [e] X.env) = (false, eval e X.env) :: backTo pos (starEach [] X.env) := by rfl) (hpl : (backTo pos (starEach [e] X.env)).any (·.1) = false := by rfl)
    (hall : (backToKw pos (keywordEach [⟨some "key", .Name f pf, kp⟩, ⟨some "default", e2, kp2⟩] X.env)).all (·.1.isSome) = true := by rfl) (hnone : (backToKw pos (keywordEach [⟨some "key", .Name f pf, kp⟩, ⟨some "default", e2, kp2⟩] X.env)).any (·.1.isNone) = false := by rfl)
    (hks : (backToKw pos (keywordEach [⟨some "key", .Name f pf, kp⟩, ⟨some "default", e2, kp2⟩] X.env)).filterMap (·.1) = [Str.ofString "key", Str.ofString "default"] := by rfl) :
    PE X (.Call (.Name "min" p) [e] [⟨some "key", .Name f pf, kp⟩, ⟨some "default", e2, kp2⟩] pos) (T G W (eMinK r fa fb)) := by
  refine PE.imp (pe_callBK (cr_minKD at_ D hj) hgl hm (by decide +kernel) (pa_cons ha pa_nil he0) (pk_cons hkey (pk_cons hb pk_nil)) (by decide) (by decide) he hpl hall hnone hks) ?_
  rintro σ H Q ⟨μ, ρ, S, rs, rr, run⟩
  refine T_bnd rs rr run fun v H1 μ1 x S1 g1 rx rs1 rr1 run1 => ?_
  have run1' : Run G (Rv G) (bnd (eC (.fn f) ρ) fun y => match y with | .fn g => if g = f then bnd (fb ρ) fun d => bMinK r x d else stuck | _ => stuck) μ1 H1 S1 Q (EW G W σ) := run1.cong (by show (if f = f then bnd (fb ρ) fun d => bMinK r x d else stuck) S1 = _; rw [if_pos rfl])
  refine T_bnd rs1 rr1 run1' fun w H2 μ2 y S2 g2 ry rs2 rr2 run2 => ?_
  cases ry with
  | fn hf =>
    rename_i g f1
    by_cases hy : g = f
    case neg => exact run2.no (by show (if g = f then bnd (fb ρ) fun d => bMinK r x d else stuck) S2 = none; rw [if_neg hy]; rfl)
    subst hy
    replace run2 : Run G (Rv G) (bnd (fb ρ) fun d => bMinK r x d) μ2 H2 S2 Q (EW G W σ) := run2.cong (by show _ = (if g = g then bnd (fb ρ) fun d => bMinK r x d else stuck) S2; rw [if_pos rfl])
    refine T_bnd rs2 rr2 run2 fun u H3 μ3 d S3 g3 rd rs3 rr3 run3 => ?_
    rcases getL_cases x S3 with h | ⟨xs, h⟩
    · exact run3.no (by simp only [bMinK, bnd, h])
    · obtain ⟨_, a, vs, e1, h1, r1⟩ := getL_ok rs3 ((rx.up g2).up g3) h
      subst e1
      cases hk : keysF r xs with
      | none => exact run3.no (by simp only [bMinK, bnd, h, hk]; rfl)
      | some ks =>
        refine ⟨a, f1, u, μ3, S3, xs, vs, ks, rfl, rfl, by rw [← at_.mg]; exact hf, rs3, by rw [← at_.K]; exact h1, r1, hk, fun e H4 g4 rs4 => ?_, fun hz v2 H4 g4 rs4 r4 => ?_⟩
        · subst e
          exact run3.end_ (a := d) (S1 := S3) (by simp only [bMinK, bnd, h, hk]; rfl) μ3 H4 u g4 (rd.up g4) rs4
        · have : xs.isEmpty = false := by cases xs with | nil => simp at hz | cons _ _ => rfl
          exact run3.end_ (a := xs.getD (bestAt ks) .non) (S1 := S3) (by simp only [bMinK, bnd, h, hk, this]; rfl) μ3 H4 v2 g4 r4 rs4
  | _ => exact run2.no rfl
end
end Tw
end
section
set_option Elab.async false
set_option maxRecDepth 100000
set_option maxHeartbeats 3000000
set_option autoImplicit true
set_option linter.all false
set_option relaxedAutoImplicit true
namespace Tw
open PySem L2 PyProof.Rows
/-! ## 73. sorted of a list of triples of small whole numbers -/
def tupV (ns : List Int) : Vl := .tup (ns.map .int)
def tupG : Vl → List Int
  | .tup xs => xs.map fun | .int i => i | _ => 0
  | _ => []
theorem tupG_V (ns : List Int) : tupG (tupV ns) = ns := by
  unfold tupG tupV
  dsimp only
  rw [List.map_map]
  have : ((fun x : Vl => match x with | .int i => i | _ => 0) ∘ Vl.int) = id := rfl
  exact (congrFun (congrArg List.map this) ns).trans (List.map_id ns)
def isV : Vl → Bool
  | .tup xs => (intsM xs).isSome
  | _ => false
theorem intsM_eq : ∀ {xs : List Vl} {ns : List Int}, intsM xs = some ns → xs = ns.map .int
  | [], _, e => by cases e; rfl
  | x :: xs, ns, e => by
    cases x <;> first | (unfold intsM at e; cases e; done) | skip
    unfold intsM at e
    revert e
    cases q : intsM xs with
    | none => intro e; cases e
    | some ms => intro e; cases e; rw [intsM_eq q]; rfl
theorem isV_eq {x : Vl} (h : isV x = true) : x = tupV (tupG x) := by
  cases x <;> first | (exact Bool.noConfusion h) | skip
  rename_i xs
  obtain ⟨ns, e⟩ := Option.isSome_iff_exists.mp (show (intsM xs).isSome = true from h)
  have := intsM_eq e
  subst this
  rw [show (Vl.tup (ns.map .int)) = tupV ns from rfl, tupG_V]
def insC (k : List Int) : List (List Int) → List (List Int)
  | [] => [k]
  | y :: ys => if TS.code 64 k ≤ TS.code 64 y then k :: y :: ys else y :: insC k ys
def sortC : List (List Int) → List (List Int)
  | [] => []
  | k :: ks => insC k (sortC ks)
theorem insC_perm (k : List Int) : ∀ l, (insC k l).Perm (k :: l)
  | [] => .refl _
  | y :: ys => by
    unfold insC
    split
    · exact .refl _
    · exact ((insC_perm k ys).cons y).trans (.swap k y ys)
theorem sortC_perm : ∀ l, (sortC l).Perm l
  | [] => .refl _
  | k :: ks => (insC_perm k _).trans ((sortC_perm ks).cons k)
theorem insC_pw (k : List Int) : ∀ l, l.Pairwise (fun a b => TS.code 64 a ≤ TS.code 64 b) → (insC k l).Pairwise (fun a b => TS.code 64 a ≤ TS.code 64 b)
  | [], _ => by simp [insC]
  | y :: ys, h => by
    obtain ⟨h1, h2⟩ := List.pairwise_cons.mp h
    unfold insC
    split
    · rename_i q
      refine List.pairwise_cons.mpr ⟨fun z hz => ?_, h⟩
      rcases List.mem_cons.mp hz with rfl | hz
      · exact q
      · exact Int.le_trans q (h1 z hz)
    · rename_i q
      refine List.pairwise_cons.mpr ⟨fun z hz => ?_, insC_pw k ys h2⟩
      rcases List.mem_cons.mp ((insC_perm k ys).mem_iff.mp hz) with rfl | hz
      · omega
      · exact h1 z hz
theorem sortC_pw : ∀ l, (sortC l).Pairwise (fun a b => TS.code 64 a ≤ TS.code 64 b)
  | [] => .nil
  | k :: ks => insC_pw k _ (sortC_pw ks)
def ok3 (ns : List Int) : Bool := decide (ns.length = 3) && ns.all fun m => decide (0 ≤ m ∧ m < 64)
theorem ok3_inj {a b : List Int} (ha : ok3 a = true) (hb : ok3 b = true) (e : TS.code 64 a = TS.code 64 b) : a = b := by
  unfold ok3 at ha hb
  simp only [Bool.and_eq_true, decide_eq_true_eq, List.all_eq_true] at ha hb
  obtain ⟨la, ba⟩ := ha
  obtain ⟨lb, bb⟩ := hb
  match a, b, la, lb with
  | [a1, a2, a3], [b1, b2, b3], _, _ =>
    have := ba a1 (by simp); have := ba a2 (by simp); have := ba a3 (by simp)
    have := bb b1 (by simp); have := bb b2 (by simp); have := bb b3 (by simp)
    simp only [TS.code, List.length_cons, List.length_nil] at e
    have h1 : a1 = b1 := by omega
    have h2 : a2 = b2 := by omega
    have h3 : a3 = b3 := by omega
    rw [h1, h2, h3]
def bSort3 : List Vl → M Vl
  | [x] => bnd (getL x) fun xs => if xs.all isV = true ∧ (xs.map tupG).all ok3 = true ∧ xs.length < 64 then newL ((sortC (xs.map tupG)).map tupV) else stuck
  | _ => stuck
section
variable {G : GG} {W : WX} {X : Cx} {k : Nat} {p pos : Pos} {e : Expr} {es : List Expr} {fs : Evs}
theorem perm_rvs {μ : List Addr} {H : Hp} {ys vs : List V} (h : ys.Perm vs) : ∀ {xs : List Vl}, Rvs G μ H xs vs → ∃ zs, zs.Perm xs ∧ Rvs G μ H zs ys := by
  induction h with
  | nil => intro xs r; exact ⟨xs, .refl _, r⟩
  | cons v _ ih =>
    intro xs r
    cases r with
    | cons q t =>
      obtain ⟨zs, h1, h2⟩ := ih t
      exact ⟨_ :: zs, h1.cons _, .cons q h2⟩
  | swap v w l =>
    intro xs r
    cases r with
    | cons q t =>
      cases t with
      | cons q2 t2 => exact ⟨_, .swap _ _ _, .cons q2 (.cons q t2)⟩
  | trans _ _ ih1 ih2 =>
    intro xs r
    obtain ⟨zs, h1, h2⟩ := ih2 r
    obtain ⟨ws, h3, h4⟩ := ih1 h2
    exact ⟨ws, h3.trans h1, h4⟩
theorem rvs_tupI {μ : List Addr} {H : Hp} : ∀ {zs : List Vl} {ys : List V}, Rvs G μ H zs ys → (∀ z ∈ zs, isV z = true) → ys.Pairwise (fun x y => ∀ n m, TupI G.K H x n → TupI G.K H y m → TS.code 64 n ≤ TS.code 64 m) → (zs.map tupG).Pairwise (fun a b => TS.code 64 a ≤ TS.code 64 b) ∧ ∀ y ∈ ys, ∃ z ∈ zs, TupI G.K H y (tupG z)
  | _, _, .nil, _, _ => ⟨.nil, fun y hy => by cases hy⟩
  | z :: zs, y :: ys, .cons q t, hz, hp => by
    obtain ⟨p1, p2⟩ := List.pairwise_cons.mp hp
    obtain ⟨h1, h2⟩ := rvs_tupI t (fun z h => hz z (List.mem_cons_of_mem _ h)) p2
    have tI : ∀ {z : Vl} {y : V}, Rv G μ H z y → isV z = true → TupI G.K H y (tupG z) := fun {z y} r h => by
      have e := isV_eq h
      rw [e] at r
      cases r with
      | tup h1 r1 =>
        rename_i vs a
        have := intsM_map r1 (show intsM ((tupG z).map .int) = some (tupG z) from by
          generalize tupG z = l
          induction l with
          | nil => rfl
          | cons i l ih => unfold intsM; rw [List.map_cons]; dsimp only; rw [ih])
        subst this
        exact ⟨a, rfl, h1⟩
    have ty := tI q (hz z List.mem_cons_self)
    refine ⟨List.pairwise_cons.mpr ⟨fun n hn => ?_, h1⟩, fun y2 hy => ?_⟩
    · obtain ⟨z2, hz2, rfl⟩ := List.mem_map.mp hn
      obtain ⟨i, hi, e⟩ := List.getElem_of_mem hz2
      obtain ⟨y2, e2, r2⟩ := t.get (List.getElem?_eq_getElem hi)
      rw [e] at r2
      exact p1 y2 (List.mem_of_getElem? e2) _ _ ty (tI r2 (hz z2 (List.mem_cons_of_mem _ hz2)))
    · rcases List.mem_cons.mp hy with rfl | hy
      · exact ⟨z, List.mem_cons_self, ty⟩
      · obtain ⟨z2, a, b⟩ := h2 y2 hy
        exact ⟨z2, List.mem_cons_of_mem _ a, b⟩
theorem am_sort3 : AsM G (rSortU G.K 3 64) bSort3 := by
  intro μ H S x v Q EQ rs rx run
  match x, v, rx with
  | [], _, _ => exact run.no rfl
  | _ :: _ :: _, _, _ => exact run.no rfl
  | [x], [v], .cons r .nil =>
    rcases getL_cases x S with h | ⟨xs, h⟩
    · exact run.no (by simp only [bSort3, bnd, h])
    · obtain ⟨_, a, vs, e1, h1, r1⟩ := getL_ok rs r h
      subst e1
      by_cases hz : xs.all isV = true ∧ (xs.map tupG).all ok3 = true ∧ xs.length < 64
      case neg => exact run.no (by simp only [bSort3, bnd, h, if_neg hz]; rfl)
      obtain ⟨z1, z2, z3⟩ := hz
      have run' : Run G (Rv G) (newL ((sortC (xs.map tupG)).map tupV)) μ H S Q EQ := run.cong (by simp only [bSort3, bnd, h]; rw [if_pos ⟨z1, z2, z3⟩])
      rw [List.all_eq_true] at z1 z2
      obtain ⟨_, tI⟩ := rvs_tupI (ys := []) (H := H) (μ := μ) (G := G) .nil (by simp) .nil
      have mem : ∀ x ∈ vs, ∃ z ∈ xs, Rv G μ H z x := fun x hx => by
        obtain ⟨i, hi, e⟩ := List.getElem_of_mem hx
        obtain ⟨z, e2, r2⟩ := r1.get' (List.getElem?_eq_getElem hi)
        rw [e] at r2
        exact ⟨z, List.mem_of_getElem? e2, r2⟩
      refine ⟨a, vs, rfl, h1, by rw [← r1.length]; exact z3, fun x hx => ?_, fun ys p hp hpw hn => ?_⟩
      · obtain ⟨z, hz, r2⟩ := mem x hx
        obtain ⟨_, q⟩ := rvs_tupI (.cons r2 .nil) (by simpa using z1 z hz) (List.pairwise_singleton _ _)
        obtain ⟨z', h1', h2'⟩ := q x (by simp)
        obtain rfl : z' = z := by simpa using h1'
        have o := z2 (tupG z') (List.mem_map_of_mem hz)
        unfold ok3 at o
        simp only [Bool.and_eq_true, decide_eq_true_eq, List.all_eq_true] at o
        exact ⟨_, h2', o.1, o.2⟩
      · obtain ⟨zs, pz, rz⟩ := perm_rvs hp r1
        have vz : ∀ z ∈ zs, isV z = true := fun z hz => z1 z (pz.mem_iff.mp hz)
        obtain ⟨w1, _⟩ := rvs_tupI rz vz hpw
        have e : zs = (sortC (xs.map tupG)).map tupV := by
          have e1 : zs = (zs.map tupG).map tupV := by
            rw [List.map_map]
            conv => lhs; rw [← List.map_id zs]
            exact List.map_congr_left fun z hz => isV_eq (vz z hz)
          rw [e1]
          congr 1
          have p3 : (zs.map tupG).Perm (sortC (xs.map tupG)) := (pz.map tupG).trans (sortC_perm _).symm
          refine List.Perm.eq_of_pairwise (le := fun a b => TS.code 64 a ≤ TS.code 64 b) (fun a b ha hb h1 h2 => ok3_inj (z2 a ?_) (z2 b ?_) (Int.le_antisymm h1 h2)) w1 (sortC_pw _) p3
          · exact (pz.map tupG).mem_iff.mp ha
          · exact (sortC_perm _).mem_iff.mp hb
        rw [← e] at run'
        exact (Run.newL rs rz run').2 p hn
theorem x_sort3 (at_ : At X G W k) (hm : X.mg "sorted" = none) (ha : PA X (e :: es) (TAs G W fs)) (hgl : Gl X "sorted" := by rfl) (he : starEach (e :: es) X.env = (false, eval e X.env) :: starEach es X.env := by rfl)
    (hpl : (backTo pos (starEach es X.env)).any (·.1) = false := by rfl) : PE X (.Call (.Name "sorted" p) (e :: es) [] pos) (T G W (eCall bSort3 fs)) := xe_callB (by have := am_sort3 (G := G); rw [at_.K] at this; exact this) (cr_sortT (by decide)) hm (by decide +kernel) ha hgl (by decide) (by decide) he hpl
end
end Tw
end
section
set_option Elab.async false
set_option maxRecDepth 100000
set_option maxHeartbeats 3000000
set_option autoImplicit true
set_option linter.all false
set_option relaxedAutoImplicit true
namespace Tw
namespace Sn
open PySem L2 PyProof.Rows
/-! ## 74. sets of few nested tuples -/
/-- nothing but ints, within tuples -/
inductive Pl (h : Heap) : Nat → Value → Prop
  | int {n : Nat} (i : Int) (t : Tok) : Pl h n (.int i t)
  | tup {n : Nat} {a : Addr} {o : Obj} {vs : Array Value} {m : Nat} : h.get? a = some o → o.cls = .type "tuple" → o.data = .seq vs m → (∀ v ∈ vs.toList, Pl h n v) → Pl h (n + 1) (.ref a)
theorem Pl.at {h h' : Heap} {n : Nat} {v : Value} (x : Pl h n v) (k : ∀ (a : Addr) o, h.get? a = some o → (∃ vs m, o.data = .seq vs m) → h'.get? a = some o) : Pl h' n v := by
  induction x with
  | int i t => exact .int i t
  | tup h1 h2 h3 _ ih => exact .tup (k _ _ h1 ⟨_, _, h3⟩) h2 h3 ih
section
variable {P : Program} {w : World} {A : Around} {E : Value → Shared → Prop} {s : Shared}
theorem pl_class : ∀ (n f : Nat) (v : Value) (Q : Bool → Shared → Prop), Pl s.heap n v → n ≤ f → Q false s → wpAny (model P w) A (ofAClassStatement f v) Q E s := by
  intro n
  induction n with
  | zero =>
    intro f v Q h hf q
    cases h
    rw [ofAClass_int]; exact wpAny_pure q
  | succ n ih =>
    intro f v Q h hf q
    cases h with
    | int i t => rw [ofAClass_int]; exact wpAny_pure q
    | tup ho hc hd hi =>
      rename_i b o vs m
      cases f with
      | zero => omega
      | succ f =>
          unfold ofAClassStatement
          refine wpAny_bind (wpAny_typeOf ⟨o, ho, hc⟩ ?_)
          dsimp only
          simp only [show (("tuple" : String) == "tuple") = true by decide, if_true, Bool.not_true, Bool.false_eq_true, if_false]
          try refine wpAny_bind (wpAny_pure ?_)
          try simp only [Bool.not_true, Bool.false_eq_true, if_false]
          show wpAny _ _ (seqItems? (Value.ref b) >>= _) _ _ s
          refine wpAny_bind (wpAny_seqItems ho hd (wpAny_bind ?_))
          show wpAny _ _ (forIn vs _ _) _ _ s
          rw [← Array.forIn_toList]
          refine wpAny_forIn_list _ (fun l r z => r.1 = none ∧ z = s ∧ ∀ v ∈ l, Pl s.heap n v) _ (fun v l r z hz => ?_) (fun r z hz => ?_) _ _ ⟨rfl, rfl, hi⟩
          · obtain ⟨h1, rfl, h3⟩ := hz
            refine wpAny_bind (ih f v _ (h3 v List.mem_cons_self) (by omega) ?_)
            simp only [Bool.false_eq_true, if_false]
            exact wpAny_pure ⟨rfl, rfl, fun u hu => h3 u (List.mem_cons_of_mem _ hu)⟩
          · obtain ⟨h1, rfl, _⟩ := hz
            obtain ⟨r1, r2⟩ := r
            simp only at h1
            subst h1
            exact wpAny_pure q
theorem pl_byVal : ∀ (n f : Nat) (v : Value) (Q : Bool → Shared → Prop), Pl s.heap n v → n ≤ f → Q true s → wpAny (model P w) A (hashByValue f v) Q E s := by
  intro n
  induction n with
  | zero =>
    intro f v Q h hf q
    cases h
    rw [hashBy_int]; exact wpAny_pure q
  | succ n ih =>
    intro f v Q h hf q
    cases h with
    | int i t => rw [hashBy_int]; exact wpAny_pure q
    | tup ho hc hd hi =>
      rename_i b o vs m
      cases f with
      | zero => omega
      | succ f =>
          unfold hashByValue
          refine wpAny_bind (wpAny_specialOf (T := "tuple") ⟨o, ho, hc⟩ F.slot_tuple_hash.lookup ?_)
          show wpAny _ _ (seqItems? (Value.ref b) >>= _) _ _ s
          refine wpAny_bind (wpAny_seqItems ho hd (wpAny_bind ?_))
          show wpAny _ _ (forIn vs _ _) _ _ s
          rw [← Array.forIn_toList]
          refine wpAny_forIn_list _ (fun l r z => r.1 = none ∧ z = s ∧ ∀ v ∈ l, Pl s.heap n v) _ (fun v l r z hz => ?_) (fun r z hz => ?_) _ _ ⟨rfl, rfl, hi⟩
          · obtain ⟨h1, rfl, h3⟩ := hz
            refine wpAny_bind (ih f v _ (h3 v List.mem_cons_self) (by omega) ?_)
            simp only [Bool.not_true, Bool.false_eq_true, if_false]
            exact wpAny_pure ⟨rfl, rfl, fun u hu => h3 u (List.mem_cons_of_mem _ hu)⟩
          · obtain ⟨h1, rfl, _⟩ := hz
            obtain ⟨r1, r2⟩ := r
            simp only at h1
            subst h1
            exact wpAny_pure q
/-- the key at b -/
structure NK (h : Heap) (k : NestedKey) (b : Addr) : Prop where
  is : NestedIs h k (.ref b)
  dp : k.depth ≤ 8
  pl : Pl h 8 (.ref b)
theorem NK.at {h h' : Heap} {k : NestedKey} {b : Addr} (x : NK h k b) (q : ∀ (a : Addr) o, h.get? a = some o → (∃ vs m, o.data = .seq vs m) → h'.get? a = some o) : NK h' k b :=
  ⟨NestedIs.at (fun a o vs n h1 h2 => q a o h1 ⟨vs, n, h2⟩) k _ x.is, x.dp, x.pl.at q⟩
theorem NK.same {h h' : Heap} {k : NestedKey} {a b : Addr} {o : Obj} {es : Array (Int × Value)} {ep : Nat} {t : SetTable} (x : NK h k b) (ho : h.get? a = some o) (hd : o.data = .set es ep t) (hs : Heap.SameBut a h h') : NK h' k b :=
  x.at fun c u hc ⟨vs, m, hu⟩ => (hs.2 c fun e => by rw [e, ho] at hc; cases hc; rw [hd] at hu; cases hu).trans hc
theorem nk_seen {k : NestedKey} {b : Addr} {Q : Bool → Shared → Prop} (hk : NK s.heap k b) {ys : List Value} (hy : ∀ y ∈ ys, ∃ m c, y = Value.ref c ∧ NK s.heap m c) (q : Q false s) : wpAny (model P w) A (searchCouldBeSeen (.ref b) ys) Q E s := by
  unfold searchCouldBeSeen
  refine wpAny_bind (wpAny_forIn_list _ (fun l r z => r.1 = none ∧ z = s ∧ ∀ y ∈ l, ∃ m c, y = Value.ref c ∧ NK s.heap m c) _ (fun v l r z hz => ?_) (fun r z hz => ?_) _ _ ⟨rfl, rfl, hy⟩)
  · obtain ⟨h1, rfl, h3⟩ := hz
    obtain ⟨m, c, rfl, hc⟩ := h3 v List.mem_cons_self
    have h4 : ∀ y ∈ l, ∃ m c, y = Value.ref c ∧ NK z.heap m c := fun u hu => h3 u (List.mem_cons_of_mem _ hu)
    dsimp only
    by_cases hv : (b == c || (carriedByValue (.ref b) && carriedByValue (.ref c))) = true
    · exact wp_if_pos hv (wpAny_pure ⟨rfl, rfl, h4⟩)
    · refine wp_if_neg hv (wpAny_bind ((nestedKind P w).quiet ⟨hk.is, hk.dp⟩ ?_))
      simp only [Bool.not_true, Bool.false_eq_true, if_false]
      refine wpAny_bind ((nestedKind P w).quiet ⟨hc.is, hc.dp⟩ ?_)
      simp only [Bool.not_true, Bool.false_eq_true, if_false]
      refine wpAny_bind (pl_class 8 8 _ _ hk.pl (Nat.le_refl _) ?_)
      simp only [Bool.false_eq_true, if_false]
      refine wpAny_bind (pl_class 8 8 _ _ hc.pl (Nat.le_refl _) ?_)
      simp only [Bool.false_eq_true, if_false]
      exact wpAny_pure ⟨rfl, rfl, h4⟩
  · obtain ⟨h1, rfl, _⟩ := hz
    obtain ⟨r1, r2⟩ := r
    simp only at h1
    subst h1
    exact wpAny_pure q
abbrev Lk := List (Addr × NestedKey)
def rows (w : World) (L : Lk) : List (Int × Value) := L.map fun p => (p.2.hash w, .ref p.1)
/-- a set of at most four keys, eight slots -/
structure St (w : World) (h : Heap) (a : Addr) (L : Lk) (es : Array (Int × Value)) (ep : Nat) (t : SetTable) : Prop where
  ob : ∃ o, h.get? a = some o ∧ o.ExactSet ∧ o.data = .set es ep t
  rw_ : es.toList = rows w L
  tab : TabOk t (L.map fun p => p.2.hash w)
  nd : (L.map (·.2)).Nodup
  is : ∀ p ∈ L, NK h p.2 p.1
  plain : t.plain = true
  led : w.params.followText "set-order" = true ∨ t.led = true
  mask : t.mask = 7
  few : L.length ≤ 4
variable {a : Addr} {L : Lk} {es : Array (Int × Value)} {ep : Nat} {t : SetTable}
theorem St.size (R : St w s.heap a L es ep t) : es.size = L.length := by
  have := congrArg List.length R.rw_
  simpa [rows] using this
theorem St.fits (R : St w s.heap a L es ep t) : t.fits es.size = true := by
  have h1 := R.tab.sz
  have h2 := R.size
  have h3 := R.few
  have h4 := R.mask
  simp only [List.length_map] at h1
  unfold SetTable.fits SetTable.fill
  rw [R.tab.dm, Bool.and_eq_true, beq_iff_eq, decide_eq_true_eq]
  refine ⟨by omega, ?_⟩
  show t.place.size + 0 ≤ t.mask
  omega
theorem St.entry (R : St w s.heap a L es ep t) {i : Nat} {p : Addr × NestedKey} (h : L[i]? = some p) : es[i]? = some (p.2.hash w, Value.ref p.1) := by
  rw [← Array.getElem?_toList, R.rw_, rows, List.getElem?_map, h]; rfl
theorem St.gw (R : St w s.heap a L es ep t) : ¬ t.gaveWay = true := by
  unfold SetTable.gaveWay
  rw [mask_odd R.tab.mok]
  decide
end
end Sn
end Tw
end
section
set_option Elab.async false
set_option maxRecDepth 100000
set_option maxHeartbeats 3000000
set_option autoImplicit true
set_option linter.all false
set_option relaxedAutoImplicit true
namespace Tw
namespace Sn
open PySem L2 PyProof.Rows
section
variable {P : Program} {w : World} {A : Around} {E : Value → Shared → Prop} {s : Shared} {a : Addr} {L : Lk} {es : Array (Int × Value)} {ep : Nat} {t : SetTable}
/-- the c-th step of the search for what has the hash h -/
abbrev pr (t : SetTable) (h : Int) (c : Nat) : SetTable.Probe := nth t.mask (runAt t.mask (SetTable.bits h % (t.mask + 1)) (SetTable.bits h)) c
theorem pr_j (t : SetTable) (h : Int) (c : Nat) : (pr t h c).j = way t.mask h c := rfl
theorem pr_add (t : SetTable) (h : Int) (c q : Nat) : nth t.mask (pr t h c) q = pr t h (c + q) := (nth_add t.mask c _ q).symm
theorem pr_dummy (t : SetTable) (h : Int) (c : Nat) : (pr t h c).dummy = none := by
  have : ∀ (n : Nat) (p : SetTable.Probe), p.dummy = none → (nth t.mask p n).dummy = none := fun n => by
    induction n with
    | zero => exact fun p z => z
    | succ n ih => exact fun p z => ih (adv t.mask p) (by unfold adv; split <;> exact z)
  exact this c _ rfl
theorem search (R : St w s.heap a L es ep t) {x : Addr} {k : NestedKey} (hx : NK s.heap k x) (hu : A.units + 8 < cLine) {K : Nat} (hf : K < 10 * SetTable.turns t.mask) (hK : way t.mask (k.hash w) K ∉ t.place.toList) (hb : ∀ c, c < K → way t.mask (k.hash w) c ∈ t.place.toList)
    {Q : SetFound → Shared → Prop} (yes : k ∈ L.map (·.2) → Q (.there none) s) (no : k ∉ L.map (·.2) → Q (.free (way t.mask (k.hash w) K) false) s) : ∀ (n c : Nat) (st : Option SetTable.Probe), st.getD (t.probeStart (k.hash w)) = pr t (k.hash w) c → c ≤ K → K - c < n →
      (∀ (i : Nat) p, L[i]? = some p → p.2 = k → ∃ d, c ≤ d ∧ d < K ∧ t.place.toList[i]? = some (way t.mask (k.hash w) d)) → wpAny (model P w) A (setSearchFrom a (.ref x) (k.hash w) true n st) Q E s := by
  intro n
  induction n with
  | zero => intro c st _ _ h; exact absurd h (Nat.not_lt_zero _)
  | succ n ih =>
    intro c st hst hc hn hre
    obtain ⟨o, ho, hex, hd⟩ := R.ob
    rw [setSearchFrom_succ]
    refine wpAny_bind (wpAny_setState_of ho hd R.fits (wp_if_neg R.gw ?_))
    try refine wpAny_bind (wpAny_pure ?_)
    have hAt : ∀ (i : Nat) p, L[i]? = some p → (es[i]?.map (·.1)).getD 0 = p.2.hash w := fun i p hp => by rw [R.entry hp]; rfl
    rcases go_spec t R.tab.ris R.tab.dm (fun i => (es[i]?.map (·.1)).getD 0) (k.hash w) (10 * SetTable.turns t.mask) (K - c) (pr t (k.hash w) c) (pr_dummy t _ c) (by omega)
      (fun q hq => by rw [pr_add]; exact hb (c + q) (by omega)) (by rw [pr_add, show c + (K - c) = K by omega]; exact hK) with ⟨q, i, hq, hi, hh, hno, hp⟩ | ⟨hno, hp⟩
    · rw [pr_add, pr_j] at hi
      rw [pr_add, pr_add, pr_j] at hp
      rw [show t.probe (fun i => (es[i]?.map (·.1)).getD 0) (k.hash w) (st.getD (t.probeStart (k.hash w))) = some (.candidate (way t.mask (k.hash w) (c + q)) i (pr t (k.hash w) (c + (q + 1)))) by rw [hst]; exact hp]
      dsimp only
      obtain ⟨p, hpi⟩ : ∃ p, L[i]? = some p := by
        have h1 := (List.getElem?_eq_some_iff.mp hi).1
        have h2 := R.tab.sz
        rw [List.length_map] at h2
        rw [Array.length_toList] at h1
        exact ⟨_, List.getElem?_eq_getElem (by omega)⟩
      have hm := List.mem_of_getElem? hpi
      have hkp := R.is p hm
      have hs := slot_live R.tab.ris hi
      have tail : wpAny (model P w) A (searchRest a (.ref x) (k.hash w) true n es t (way t.mask (k.hash w) (c + q)) i (pr t (k.hash w) (c + (q + 1)))) Q E s := by
        unfold searchRest
        rw [R.entry hpi]
        dsimp only
        refine wpAny_bind (wpAny_holding ((nestedKind P w).eqBool hu ⟨hkp.is, hkp.dp⟩ ⟨hx.is, hx.dp⟩ (wpAny_bind (wpAny_setState_of ho hd R.fits ?_))))
        dsimp only
        by_cases hk : p.2 = k
        · exact wp_if_pos (by simp [hk]) (wpAny_pure (yes (List.mem_map.mpr ⟨p, hm, hk⟩)))
        · refine wp_if_neg (by simp [hk]) ?_
          try refine wpAny_bind (wpAny_pure ?_)
          rw [sameMem]
          simp only [if_true, hs, R.entry hpi]
          refine wpAny_bind (wpAny_isSame_ref_self (wpAny_bind (wpAny_pure ?_)))
          simp only [if_true]
          refine wp_if_neg (by simp [hk]) (ih (c + (q + 1)) _ rfl (by omega) (by omega) fun i0 p0 h0 hk0 => ?_)
          obtain ⟨d, a1, a2, a3⟩ := hre i0 p0 h0 hk0
          refine ⟨d, ?_, a2, a3⟩
          apply Classical.byContradiction
          intro hlt
          by_cases hd2 : d = c + q
          · rw [hd2] at a3
            have s0 := slot_live R.tab.ris a3
            rw [hs] at s0
            cases s0
            rw [hpi] at h0
            cases h0
            exact hk hk0
          · exact hno (d - c) i0 (by omega) (by rw [pr_add, show c + (d - c) = d by omega]; exact a3) ((hAt i0 p0 h0).trans (by rw [hk0]))
      by_cases hl : t.led = true
      · refine wp_if_neg (by simp [hl]) ?_
        try refine wpAny_bind (wpAny_pure ?_)
        exact tail
      · refine wp_if_pos (by simp [hl]) (wpAny_bind (nk_seen hx (fun y hy => ?_) (wp_if_neg (by decide) ?_)))
        · obtain ⟨e, he, rfl⟩ := List.mem_map.mp hy
          have he2 : e ∈ es.toList := by simpa using (by simpa using he : e ∈ es ∧ e.1 = k.hash w).1
          rw [R.rw_] at he2
          obtain ⟨p2, hp2, rfl⟩ := List.mem_map.mp he2
          exact ⟨p2.2, p2.1, rfl, R.is p2 hp2⟩
        · try refine wpAny_bind (wpAny_pure ?_)
          exact tail
    · rw [pr_add, show c + (K - c) = K by omega, pr_j] at hp
      rw [show t.probe (fun i => (es[i]?.map (·.1)).getD 0) (k.hash w) (st.getD (t.probeStart (k.hash w))) = some (.empty (way t.mask (k.hash w) K) none) by rw [hst]; exact hp]
      refine wpAny_pure (no fun hm => ?_)
      obtain ⟨p0, h0, hk0⟩ := List.mem_map.mp hm
      obtain ⟨i0, hi0, e0⟩ := List.getElem_of_mem h0
      have h1 : L[i0]? = some p0 := by rw [List.getElem?_eq_getElem hi0, e0]
      obtain ⟨d, a1, a2, a3⟩ := hre i0 p0 h1 hk0
      exact hno (d - c) i0 (by omega) (by rw [pr_add, show c + (d - c) = d by omega]; exact a3) ((hAt i0 p0 h1).trans (by rw [hk0]))
theorem search_add (R : St w s.heap a L es ep t) {x : Addr} {k : NestedKey} (hx : NK s.heap k x) (hu : A.units + 8 < cLine) {Q : SetFound → Shared → Prop} (yes : k ∈ L.map (·.2) → Q (.there none) s)
    (no : ∀ K, k ∉ L.map (·.2) → way t.mask (k.hash w) K ∉ t.place.toList → (∀ c, c < K → way t.mask (k.hash w) c ∈ t.place.toList) → Q (.free (way t.mask (k.hash w) K) false) s) : wpAny (model P w) A (setSearch a (.ref x) (k.hash w) true) Q E s := by
  obtain ⟨K, hf, hK, hb⟩ := R.tab.first (by rw [List.length_map, R.mask]; have := R.few; omega) (k.hash w)
  have hl : K < 100000 := by
    have : SetTable.turns t.mask ≤ 142 := by rw [R.mask]; decide
    omega
  unfold setSearch
  refine search R hx hu hf hK hb yes (fun z => no K z hK hb) 100000 0 none rfl (Nat.zero_le _) (by omega) fun i p hp hk => ?_
  have h1 := R.tab.sz
  rw [List.length_map] at h1
  have h2 : i < t.place.toList.length := by
    have := (List.getElem?_eq_some_iff.mp hp).1
    rw [Array.length_toList]; omega
  obtain ⟨d, hd, e⟩ := R.tab.before hK (show (L.map fun p => p.2.hash w)[i]? = some (k.hash w) by rw [List.getElem?_map, hp, ← hk]; rfl) (List.getElem?_eq_getElem h2)
  exact ⟨d, Nat.zero_le _, hd, by rw [List.getElem?_eq_getElem h2, e]⟩
end
end Sn
end Tw
end
section
set_option Elab.async false
set_option maxRecDepth 100000
set_option maxHeartbeats 3000000
set_option autoImplicit true
set_option linter.all false
set_option relaxedAutoImplicit true
namespace Tw
namespace Sn
open PySem L2 PyProof.Rows
section
variable {P : Program} {w : World} {A : Around} {E : Value → Shared → Prop} {s : Shared} {a : Addr} {L : Lk} {es : Array (Int × Value)} {ep : Nat} {t : SetTable}
theorem rows_ins (L : Lk) (p : Nat) (x : Addr) (k : NestedKey) : rows w (L.take p ++ (x, k) :: L.drop p) = (rows w L).take p ++ (k.hash w, Value.ref x) :: (rows w L).drop p := by
  simp only [rows, List.map_append, List.map_cons, List.map_take, List.map_drop]
theorem add (R : St w s.heap a L es ep t) {x : Addr} {k : NestedKey} (hx : NK s.heap k x) (hu : A.units + 8 < cLine) (few : L.length ≤ 3) {Q : Bool → Shared → Prop}
    (q : ∀ b h L2 es2 ep2 t2, Heap.SameBut a s.heap h → St w h a L2 es2 ep2 t2 → (k ∈ L.map (·.2) → L2 = L) → (k ∉ L.map (·.2) → L2.Perm ((x, k) :: L)) → Q b { s with heap := h }) : wpAny (model P w) A (setAddHashed a (.ref x) (k.hash w)) Q E s := by
  obtain ⟨o, ho, hex, hd⟩ := R.ob
  have hsl := R.size
  unfold setAddHashed
  rw [show (100000 : Nat) = 99999 + 1 from rfl, setAddHashedIn_succ]
  refine wpAny_holding (wpAny_bind (wpAny_setState_of ho hd R.fits (wp_if_neg (by simp [byScan, Value.scannable]) ?_)))
  try refine wpAny_bind (wpAny_pure ?_)
  refine wpAny_bind (search_add R hx hu (fun hm => wpAny_pure (q false s.heap L es ep t (Heap.SameBut.refl a s.heap) R (fun _ => rfl) fun z => absurd hm z)) fun K hm hK hb => ?_)
  dsimp only
  refine wpAny_bind (wpAny_setState_of ho hd R.fits ?_)
  dsimp only
  obtain ⟨e1, e2, tk, em, el, epl, _, _, ef⟩ := R.tab.put hK hb
  generalize hpt : t.put (way t.mask (k.hash w) K) = pt at e1 tk em el epl ef ⊢
  obtain ⟨t1, p⟩ := pt
  dsimp only at e1 tk em el epl ef ⊢
  subst e1
  have hpl : t1.plain = true := by rw [epl]; exact R.plain
  first
    | (refine wpAny_bind ?_; refine wp_if_pos hpl ?_; refine pl_byVal 8 8 _ _ hx.pl (Nat.le_refl _) ?_)
    | refine wp_if_pos hpl (wpAny_bind (pl_byVal 8 8 _ _ hx.pl (Nat.le_refl _) ?_))
  simp only [if_true]
  generalize hp : SetTable.below t.place (way t.mask (k.hash w) K) = p at e2 tk ⊢
  have hin : (SetTable.insertAt es p (k.hash w, Value.ref x)).toList = rows w (L.take p ++ (x, k) :: L.drop p) := by rw [SetTable.toList_insertAt, rows_ins, R.rw_]
  have pm := put_perm L p (x, k)
  have hlen : (L.take p ++ (x, k) :: L.drop p).length = L.length + 1 := pm.length_eq
  have htb : TabOk t1 ((L.take p ++ (x, k) :: L.drop p).map fun p => p.2.hash w) := by simpa only [List.map_append, List.map_cons, List.map_take, List.map_drop] using tk
  have hnd : ((L.take p ++ (x, k) :: L.drop p).map (·.2)).Nodup := (pm.map (·.2)).nodup_iff.mpr (by rw [List.map_cons]; exact List.nodup_cons.mpr ⟨hm, R.nd⟩)
  generalize L.take p ++ (x, k) :: L.drop p = L1 at hin pm hlen htb hnd
  have hes : (SetTable.insertAt es p (k.hash w, Value.ref x)).size = L1.length := by have := congrArg List.length hin; simpa [rows] using this
  generalize SetTable.insertAt es p (k.hash w, Value.ref x) = es1 at hin hes ⊢
  refine wpAny_bind (wpAny_storeSet_of ho hd ?_ (by rw [hes, hlen, sizeLine_eq]; omega))
  have sb : Heap.SameBut a s.heap (s.heap.update a (Obj.putSet es1 t1)) := Heap.SameBut.update ..
  have ho1 := store_at (es' := es1) (t' := t1) ho hd
  generalize s.heap.update a (Obj.putSet es1 t1) = h1 at sb ho1 ⊢
  have hfull : ¬ t1.tooFull = true := by
    unfold SetTable.tooFull
    rw [decide_eq_true_eq, ef, List.length_map, em, R.mask]
    omega
  first
    | refine wp_if_neg (by simp [hfull]) ?_
    | (refine wpAny_bind ?_; refine wp_if_neg (by simp [hfull]) ?_; refine wpAny_pure ?_)
  refine wpAny_pure (q true h1 L1 es1 (ep + 1) t1 sb ⟨⟨_, ho1, ⟨hex.1, hex.2.1, hex.2.2⟩, rfl⟩, hin, htb, hnd, fun p hp => ?_, hpl, by rw [el]; exact R.led, em.trans R.mask, by omega⟩ (fun z => absurd z hm) fun _ => pm)
  rcases List.mem_cons.mp (pm.mem_iff.mp hp) with e | hp
  · rw [e]; exact hx.same ho hd sb
  · exact (R.is p hp).same ho hd sb
theorem fresh {h : Heap} (ho : h.get? a = some { cls := .type "set", dict := none, data := .set #[] 0 (.fresh 0 0 (!(w.params.followText "set-order"))) }) : St w h a [] #[] 0 (.fresh 0 0 (!(w.params.followText "set-order"))) where
  ob := ⟨_, ho, ⟨rfl, rfl, rfl⟩, rfl⟩
  rw_ := rfl
  tab := ⟨.nil, rfl, rfl, .inl rfl, fun x hx => (by cases hx), fun i h j hi => (by simp at hi)⟩
  nd := .nil
  is := fun p hp => (by cases hp)
  plain := rfl
  led := by
    show _ ∨ (!w.params.followText "set-order") = true
    cases w.params.followText "set-order" <;> simp
  mask := rfl
  few := Nat.zero_le _
theorem St.keep {h h' : Heap} (R : St w h a L es ep t) (ha : ∀ o, h.get? a = some o → h'.get? a = some o) (hk : ∀ (b : Addr) o, h.get? b = some o → (∃ vs m, o.data = .seq vs m) → h'.get? b = some o) : St w h' a L es ep t := by
  obtain ⟨o, ho, r⟩ := R.ob
  exact ⟨⟨o, ha o ho, r⟩, R.rw_, R.tab, R.nd, fun p hp => (R.is p hp).at hk, R.plain, R.led, R.mask, R.few⟩
/-- set.add -/
theorem call_add (R : St w s.heap a L es ep t) {x : Addr} {k : NestedKey} (hx : NK s.heap k x) (hu : A.units + 12 < cLine) (few : L.length ≤ 3) {Q : Value → Shared → Prop}
    (q : ∀ h tk L2 es2 ep2 t2, Heap.SameBut a s.heap h → s.toks ≤ tk → St w h a L2 es2 ep2 t2 → (k ∈ L.map (·.2) → L2 = L) → (k ∉ L.map (·.2) → L2.Perm ((x, k) :: L)) → Q .none { s with heap := h, toks := tk }) : wpAny (model P w) A (call (.builtin "set.add") [.ref a, .ref x]) Q E s := by
  obtain ⟨o, ho, hex, hd⟩ := R.ob
  have st : ({ s with toks := s.toks + k.draws } : Shared).heap = s.heap := rfl
  refine wpAny_call_entry F.slot_set_add ⟨o, ho, hex.1⟩ F.entry_set_add ?_ (F.args_set_add_2 _ _)
  unfold Builtin.«set.add» Builtin.Frozenset.oneOther
  refine wpAny_bind (wpAny_bind (wpAny_pure (wpAny_pure ?_)))
  dsimp only
  unfold setAdd
  refine wpAny_bind (wpAny_holding (wpAny_bind ((nestedKind P w).pyHash (by show A.units + 1 + 8 < cLine; omega) ⟨hx.is, hx.dp⟩ ?_)))
  refine add (s := { s with toks := s.toks + k.draws }) R hx (by show A.units + 1 + 8 < cLine; omega) few fun b h L2 es2 ep2 t2 sb R2 c1 c2 => ?_
  exact wpAny_pure ⟨_, rfl, q h _ L2 es2 ep2 t2 sb (Nat.le_add_right _ _) R2 c1 c2⟩
end
end Sn
end Tw
end
section
set_option Elab.async false
set_option maxRecDepth 100000
set_option maxHeartbeats 6400000
set_option autoImplicit true
set_option linter.all false
set_option relaxedAutoImplicit true
namespace Tw
namespace Sn
open PySem L2 PyProof.Rows
section
variable {P : Program} {w : World} {A : Around} {E : Value → Shared → Prop} {s : Shared}
/-- what the first i keys leave: each of them once -/
structure Has (ks : Lk) (i : Nat) (L : Lk) : Prop where
  sub : ∀ p ∈ L, p ∈ ks.take i
  all : ∀ p ∈ ks.take i, p.2 ∈ L.map (·.2)
  len : L.length ≤ i
theorem Has.zero (ks : Lk) : Has ks 0 [] := ⟨fun _ h => (by cases h), fun _ h => (by simp at h), Nat.le_refl _⟩
theorem Has.next {ks L L2 : Lk} {i : Nat} {x : Addr × NestedKey} (g : Has ks i L) (h : ks[i]? = some x) (c1 : x.2 ∈ L.map (·.2) → L2 = L) (c2 : x.2 ∉ L.map (·.2) → L2.Perm (x :: L)) : Has ks (i + 1) L2 := by
  have ht : ks.take (i + 1) = ks.take i ++ [x] := take_next h
  by_cases hm : x.2 ∈ L.map (·.2)
  · rw [c1 hm]
    refine ⟨fun p hp => by rw [ht]; exact List.mem_append_left _ (g.sub p hp), fun p hp => ?_, Nat.le_succ_of_le g.len⟩
    rw [ht] at hp
    rcases List.mem_append.mp hp with hp | hp
    · exact g.all p hp
    · obtain rfl : p = x := by simpa using hp
      exact hm
  · have pm := c2 hm
    refine ⟨fun p hp => ?_, fun p hp => ?_, by rw [pm.length_eq]; exact Nat.succ_le_succ g.len⟩
    · rw [ht]
      rcases List.mem_cons.mp (pm.mem_iff.mp hp) with rfl | hp
      · exact List.mem_append_right _ (by simp)
      · exact List.mem_append_left _ (g.sub p hp)
    · rw [ht] at hp
      refine (pm.map (·.2)).mem_iff.mpr ?_
      rw [List.map_cons]
      rcases List.mem_append.mp hp with hp | hp
      · exact List.mem_cons_of_mem _ (g.all p hp)
      · obtain rfl : p = x := by simpa using hp
        exact List.mem_cons_self
abbrev seqKept (h h' : Heap) : Prop := ∀ (b : Addr) o, h.get? b = some o → h'.get? b = some o
theorem update {I : Addr} {fp wr : List Addr} {G : Array GenState → Array GenState → Prop} {n : Nat} {V : Nat → Value → Prop} {T : Nat → Shared → Prop} {R : Result → Shared → Prop} (W : WalksS P w A.in1 I fp wr G n V T) (D : Addr) (hD : D ∉ fp) (ks : Lk) (hn : n = ks.length) (few : ks.length ≤ 4)
    (hv : ∀ i v, V i v → ∃ p, ks[i]? = some p ∧ v = .ref p.1) (h0 : Heap) (hk : ∀ p ∈ ks, NK h0 p.2 p.1) (hD0 : h0.get? D = none) (hw0 : ∀ b ∈ wr, h0.get? b = none) (hu : A.units + 9 < cLine) :
    ∀ (m i : Nat) (s : Shared), n - i = m → i ≤ n → T i s → seqKept h0 s.heap → (∃ L es ep t, St w s.heap D L es ep t ∧ Has ks i L) →
      (∀ s1 L es ep t, Moved (D :: wr) G s s1 → St w s1.heap D L es ep t → Has ks n L → seqKept h0 s1.heap → R (.ok (.ret .none)) s1) → codeAny (model P w) A (.builtin "set.update.loop" ⟨[.ref D, .ref I], []⟩) R s := by
  have hDw : D ∉ wr := fun h => hD (W.sub _ h)
  have sub : ∀ b ∈ wr, b ∈ D :: wr := fun b hb => List.mem_cons_of_mem _ hb
  have kM : ∀ {s s1 : Shared}, Moved wr G s s1 → seqKept h0 s.heap → seqKept h0 s1.heap := fun hm hp b o e => hm.heap b o (fun hb => by rw [hw0 b hb] at e; cases e) (hp b o e)
  have kS : ∀ {s s1 : Shared} {i : Nat} {L : Lk} {es : Array (Int × Value)} {ep : Nat} {t : SetTable}, Moved wr G s s1 → seqKept h0 s.heap → Has ks i L → St w s.heap D L es ep t → St w s1.heap D L es ep t := fun {s s1 i L es ep t} hm hp g S => by
    obtain ⟨o, ho, r⟩ := S.ob
    have := kM hm hp
    exact ⟨⟨o, hm.heap D o hDw ho, r⟩, S.rw_, S.tab, S.nd, fun p hp => (hk p (List.mem_of_mem_take (g.sub p hp))).at fun b o e _ => this b o e, S.plain, S.led, S.mask, S.few⟩
  intro m
  induction m with
  | zero =>
    intro i s hm hi hst hp ⟨L, es, ep, t, S, g⟩ hR
    obtain rfl : i = n := by omega
    refine codeAny_builtin F.entry_set_update_loop ?_
    rw [Around.under_plainId F.plain_set_update_loop _]
    refine wpAny_bind (W.done s _ _ hst fun s1 m1 => ?_)
    exact wpAny_pure (hR s1 L es ep t (m1.mono sub) (kS m1 hp g S) g (kM m1 hp))
  | succ m ih =>
    intro i s hm hi hst hp ⟨L, es, ep, t, S, g⟩ hR
    refine codeAny_builtin F.entry_set_update_loop ?_
    rw [Around.under_plainId F.plain_set_update_loop _]
    refine wpAny_bind (W.item i s _ _ (by omega) hst fun v s1 hV hst1 m1 => ?_)
    obtain ⟨p, hpi, rfl⟩ := hv i v hV
    have hp1 := kM m1 hp
    have S1 := kS m1 hp g S
    have hx : NK s1.heap p.2 p.1 := (hk p (List.mem_of_getElem? hpi)).at fun b o e _ => hp1 b o e
    have hlen : L.length ≤ 3 := by
      have := g.len
      have := (List.getElem?_eq_some_iff.mp hpi).1
      omega
    show wpAny _ A.in1 (holding [Value.ref p.1] (setAdd D (.ref p.1)) >>= _) _ _ s1
    unfold setAdd
    refine wpAny_bind (wpAny_holding (wpAny_holding (wpAny_bind ((nestedKind P w).pyHash (by show A.units + 1 + 8 < cLine; omega) ⟨hx.is, hx.dp⟩ ?_))))
    refine add (s := { s1 with toks := s1.toks + p.2.draws }) S1 hx (by show A.units + 1 + 8 < cLine; omega) hlen fun b h1 L2 es2 ep2 t2 sb S2 c1 c2 => ?_
    have hp2 : seqKept h0 h1 := fun b o e => (sb.2 b (fun z => by rw [z, hD0] at e; cases e)).trans (hp1 b o e)
    refine wpAny_pure ⟨plainId_quiet F.plain_set_update_loop _, ih (i + 1) _ (by omega) (by omega) (W.frame _ s1 _ _ hst1 (Nat.le_add_right _ _) fun b hb o e => ?_) hp2 ⟨L2, es2, ep2, t2, S2, g.next hpi c1 c2⟩ fun s2 L3 es3 ep3 t3 m2 S3 g3 hp3 => ?_⟩
    · rw [sb.2 b (fun z : b = D => hD (z ▸ hb))]; exact e
    · refine hR s2 L3 es3 ep3 t3 (Moved.trans W.gtrans ((m1.mono sub).then_heap (Nat.le_add_right _ _) fun b o hb e => ?_) m2) S3 g3 hp3
      rw [sb.2 b (fun z : b = D => hb (z ▸ List.mem_cons_self))]; exact e
/-- set(xs) -/
theorem call_set {l : Addr} {its : Array Value} (ks : Lk) {Q : Value → Shared → Prop} (hh : A.handled = none) (hl : s.heap.IsList l its) (hit : its.toList = ks.map fun p => Value.ref p.1) (hk : ∀ p ∈ ks, NK s.heap p.2 p.1) (few : ks.length ≤ 4) (hu : A.units + 16 < cLine)
    (q : ∀ (h : Heap) (tk : Nat) L es ep t, St w h s.heap.objs.size L es ep t → Has ks ks.length L → seqKept s.heap h → Q (.ref s.heap.objs.size) { s with heap := h, toks := tk }) : wpAny (model P w) A (call (.type "set") [.ref l]) Q E s := by
  have hsz : its.size = ks.length := by have := congrArg List.length hit; simpa using this
  obtain ⟨c, tl, hmro⟩ := F.called_set.mro
  have hmade := F.called_set.made; have hsub := F.called_set.sub
  refine wpAny_call (codeAny_of_tree ?_)
  show wpAny _ _ (callAny (.type "set") _) _ _ _
  refine wpAny_pure ⟨Code.quiet_builtin _ (by decide +kernel), codeAny_builtin F.entry_type_call ?_⟩
  rw [Around.under_plain (weight_type_call_type "set" [.ref l] []) rfl]
  have h1 := F.called_set.notType; have h2 := F.called_set.canCreate; have hct := F.typeCall_set_1 (.ref l)
  repeat (any_goals (first | assumption | wp_step))
  generalize hob : ({ cls := .type "set", dict := none, data := .set #[] 0 (.fresh 0 0 (!w.params.followText "set-order")) } : Obj) = ob
  have hcls : ob.cls = .type "set" := by rw [← hob]
  refine codeAny_mono (code_set_led1 (.ref l) (E := E) (Q₁ := fun v z => v = .ref s.heap.objs.size ∧ z = { s with heap := s.heap.push ob }) ⟨rfl, by rw [hob]⟩) fun r z hr => ?_
  cases r with
  | error e => exact hr
  | ok fl =>
    cases fl with
    | ret v =>
      obtain ⟨rfl, rfl⟩ := hr
      have hS : (s.heap.push ob).get? s.heap.objs.size = some ob := Heap.get?_push_size _ (by rw [← hob]; rfl)
      have hT : Shared.TypeIs { s with heap := s.heap.push ob } (.ref s.heap.objs.size) "set" := ⟨_, hS, hcls⟩
      have hli := F.called_set.init.lookup; have hbi := F.called_set.init.bind (.ref s.heap.objs.size)
      repeat (any_goals (first | assumption | wp_step))
      refine codeAny_mono (codeAny_call_builtin (R := wants (fun u z => u = .none ∧ ∃ h tk L es ep t, z = { s with heap := h, toks := tk } ∧ St w h s.heap.objs.size L es ep t ∧ Has ks ks.length L ∧ seqKept s.heap h) E) F.called_set.init.plain F.entry_set_init (check_set_init_1 hT ?_)) fun r2 z2 hr2 => ?_
      · subst hob
        obtain ⟨⟨ocls, odict, odata, oslots⟩, hol, hc, m, hd⟩ := hl
        simp only at hc hd
        subst hc; subst hd
        have hl2 : (s.heap.push { cls := .type "set", dict := none, data := .set #[] 0 (.fresh 0 0 (!w.params.followText "set-order")) }).get? l = some { cls := .type "list", dict := odict, data := .seq its m, slots := oslots } := Heap.get?_push_of_some _ hol
        have ha1 := F.sub_list_set; have ha2 := F.sub_list_frozenset
        have ha3 : (Value.type "list" == Value.type "dict") = false := by decide
        have hL : Heap.IsList (s.heap.push { cls := .type "set", dict := none, data := .set #[] 0 (.fresh 0 0 (!w.params.followText "set-order")) }) l its := ⟨_, hl2, rfl, m, rfl⟩
        unfold Builtin.«set.__init__» noKeywords Builtin.Frozenset.updateFrom
        generalize hPI : pyIter = PI
        wp_walk
        subst hPI
        refine wpAny_pyIter_list hL ?_; refine wpAny_bind (wpAny_runValue ?_)
        have hlS : l < s.heap.objs.size := Heap.lt_size hol
        have hz1 : (s.heap.push { cls := .type "set", dict := none, data := .set #[] 0 (.fresh 0 0 (!w.params.followText "set-order")) }).objs.size = s.heap.objs.size + 1 := Heap.size_push ..
        have non : ∀ b, s.heap.objs.size ≤ b → s.heap.get? b = none := fun b hb => by
          cases z : s.heap.get? b with
          | none => rfl
          | some o => exact absurd (Nat.lt_of_lt_of_le (Heap.lt_size z) hb) (Nat.lt_irrefl _)
        refine update ((Walks.list (show A.in1.in1.in1.handled = none by simp [hh]) (s.heap.push { cls := .type "set", dict := none, data := .set #[] 0 (.fresh 0 0 (!w.params.followText "set-order")) }).objs.size l (by rw [hz1]; exact Nat.ne_of_lt (Nat.lt_succ_of_lt hlS)) its).toS) s.heap.objs.size (by rw [hz1]; simp; exact Nat.ne_of_gt hlS) ks hsz few (fun i v hv => ?_) s.heap hk (non _ (Nat.le_refl _)) (fun b hb => non b (by rw [List.mem_singleton.mp hb, hz1]; exact Nat.le_succ _))
          (by show A.units + 1 + 1 + 9 < cLine; omega) (its.size - 0) 0 _ (by omega) (Nat.zero_le _) ⟨⟨_, Heap.get?_push_size _ rfl, rfl, rfl⟩, hL.push _⟩ (fun b o e => Heap.get?_push_of_some _ (Heap.get?_push_of_some _ e)) ?c0 ?c1
        · have z : its.toList[i]? = some v := by rw [Array.getElem?_toList]; exact hv
          rw [hit, List.getElem?_map] at z
          cases y : ks[i]? with
          | none => rw [y] at z; cases z
          | some p => rw [y] at z; cases z; exact ⟨p, rfl, rfl⟩
        case c0 => exact ⟨[], #[], 0, _, fresh (Heap.get?_push_of_some _ hS), Has.zero ks⟩
        case c1 =>
          intro z3 L es ep t hm S3 g3 kp
          obtain ⟨h3, g4, d4, tk4, os4⟩ := z3
          have eg : g4 = s.gens := hm.gens
          have ed : d4 = s.drawn := hm.drawn
          have eo : os4 = s.os := hm.os
          subst eg; subst ed; subst eo
          refine wpAny_pure ?_
          show wpAny _ _ (PySem.ret Value.none) _ _ _
          rw [hsz] at g3
          exact wpAny_pure ⟨rfl, h3, tk4, L, es, ep, t, rfl, S3, g3, kp⟩
      · cases r2 with
        | error e => exact hr2
        | ok fl2 =>
          cases fl2 with
          | ret u =>
            obtain ⟨rfl, h3, tk3, L, es, ep, t, rfl, S3, g3, kp⟩ := hr2
            repeat (any_goals (first | assumption | wp_step))
            exact q _ _ _ _ _ _ S3 g3 kp
          | _ => exact hr2.elim
    | _ => exact hr.elim
end
end Sn
end Tw
end
section
set_option Elab.async false
set_option maxRecDepth 100000
set_option maxHeartbeats 6400000
set_option autoImplicit true
set_option linter.all false
set_option relaxedAutoImplicit true
namespace Tw
open PySem L2 PyProof.Rows
/-! ## 75. how many different keys (room, base) there are -/
def dd : List NestedKey → List NestedKey
  | [] => []
  | k :: ks => if k ∈ dd ks then dd ks else k :: dd ks
def cnt (ks : List NestedKey) : Nat := (dd ks).length
theorem dd_mem {k : NestedKey} : ∀ {ks : List NestedKey}, k ∈ dd ks ↔ k ∈ ks
  | [] => Iff.rfl
  | j :: ks => by
    unfold dd
    split
    · rename_i h
      rw [dd_mem, List.mem_cons]
      exact ⟨.inr, fun z => z.elim (fun e => by rw [e]; exact dd_mem.mp h) id⟩
    · rw [List.mem_cons, List.mem_cons, dd_mem]
theorem dd_nodup : ∀ ks : List NestedKey, (dd ks).Nodup
  | [] => .nil
  | j :: ks => by
    unfold dd
    split
    · exact dd_nodup ks
    · rename_i h
      exact List.nodup_cons.mpr ⟨h, dd_nodup ks⟩
theorem nodup_le {α : Type} [DecidableEq α] : ∀ (l m : List α), l.Nodup → (∀ x ∈ l, x ∈ m) → l.length ≤ m.length
  | [], _, _, _ => Nat.zero_le _
  | x :: l, m, h, hs => by
    obtain ⟨h1, h2⟩ := List.nodup_cons.mp h
    have hx := hs x List.mem_cons_self
    have := nodup_le l (m.erase x) h2 fun y hy => (List.mem_erase_of_ne (fun e : y = x => h1 (by rw [← e]; exact hy))).mpr (hs y (List.mem_cons_of_mem _ hy))
    rw [List.length_erase_of_mem hx] at this
    have := List.length_pos_of_mem hx
    rw [List.length_cons]
    omega
theorem cnt_of {ks l : List NestedKey} (h : l.Nodup) (h1 : ∀ k ∈ l, k ∈ ks) (h2 : ∀ k ∈ ks, k ∈ l) : l.length = cnt ks :=
  Nat.le_antisymm (nodup_le _ _ h fun k hk => dd_mem.mpr (h1 k hk)) (nodup_le _ _ (dd_nodup ks) fun k hk => h2 k (dd_mem.mp hk))
/-- the key that a value is -/
def nkey : Vl → Option NestedKey
  | .tup [.int r, .tup ys] => (intsM ys).map fun bs => .tup [.num r, .tup (bs.map .num)]
  | _ => none
def nkeys : List Vl → Option (List NestedKey)
  | [] => some []
  | x :: xs => match nkey x, nkeys xs with
    | some k, some ks => some (k :: ks)
    | _, _ => none
/-- .. in the machine -/
def KnV (K : PySem.W.Frag) (H : Hp) (v : V) (k : NestedKey) : Prop := ∃ (b c : Addr) (r : Int) (bs : List Int), v = .ref b ∧ k = .tup [.num r, .tup (bs.map .num)] ∧ SqT K H b [V.int r, V.ref c] ∧ SqT K H c (bs.map V.int)
theorem kn_depth (l : List Int) : NestedKey.depthAll (l.map .num) = 0 := by
  induction l with
  | nil => rfl
  | cons i l ih => rw [List.map_cons, NestedKey.depthAll, ih]; rfl
section
variable {G : GG} {W : WX} {X : Cx} {k : Nat}
theorem kn_nk {pins : List (Addr × Obj)} {σ : L2.St} {H : Hp} {s : Shared} {v : V} {key : NestedKey} (I : Inv X pins σ H s) (h : KnV X.K H v key) : ∃ b, v = .ref b ∧ Sn.NK s.heap key b := by
  obtain ⟨b, c, r, bs, rfl, rfl, hb, hc⟩ := h
  refine ⟨b, rfl, ?_⟩
  obtain ⟨its, rv, ⟨o, ho, hcl, n, hd⟩, _⟩ := I.tuple hb
  obtain ⟨its2, rv2, ⟨o2, ho2, hcl2, n2, hd2⟩, _⟩ := I.tuple hc
  have ia : ∀ {l : List Int} {us : List Value}, Vals (l.map V.int) us → NestedAll s.heap (l.map .num) us ∧ ∀ u ∈ us, Sn.Pl s.heap 6 u := by
    intro l
    induction l with
    | nil => intro us r; cases r; exact ⟨.nil, fun u hu => by cases hu⟩
    | cons i l ih =>
      intro us r
      cases r with
      | cons q t =>
        obtain ⟨tk, rfl⟩ := q
        obtain ⟨h1, h2⟩ := ih t
        refine ⟨.cons (.int _ _) h1, fun u hu => ?_⟩
        rcases List.mem_cons.mp hu with rfl | hu
        · exact .int _ _
        · exact h2 u hu
  obtain ⟨n1, p1⟩ := ia rv2
  cases rv with
  | cons q t =>
    cases t with
    | cons q2 t2 =>
      cases t2
      obtain ⟨tk, rfl⟩ := q
      cases q2
      refine ⟨.tup ho hcl hd (.cons (.int _ _) (.cons (.tup ho2 hcl2 hd2 n1) .nil)), ?_, .tup ho hcl hd fun u hu => ?_⟩
      · simp only [NestedKey.depth, NestedKey.depthAll, kn_depth]; decide
      · simp only [List.mem_cons, List.not_mem_nil, or_false] at hu
        rcases hu with rfl | rfl
        · exact .int _ _
        · exact .tup ho2 hcl2 hd2 p1
theorem nkey_kn {μ : List Addr} {H : Hp} {x : Vl} {v : V} {key : NestedKey} (r : Rv G μ H x v) (e : nkey x = some key) : KnV G.K H v key := by
  unfold nkey at e
  split at e
  case h_2 => cases e
  rename_i i ys
  cases q : intsM ys with
  | none => rw [q] at e; cases e
  | some bs =>
    rw [q] at e; cases e
    cases r with
    | tup h t =>
      rename_i us a
      cases t with
      | cons q1 t =>
        cases t with
        | cons q2 t =>
          cases t
          cases q1
          cases q2 with
          | tup h2 t2 =>
            rename_i ws c
            have := intsM_map t2 q
            subst this
            exact ⟨a, c, i, bs, rfl, rfl, h, h2⟩
theorem nkeys_kn {μ : List Addr} {H : Hp} : ∀ {xs : List Vl} {vs : List V} {ks : List NestedKey}, Rvs G μ H xs vs → nkeys xs = some ks → vs.length = ks.length ∧ ∀ p ∈ vs.zip ks, KnV G.K H p.1 p.2
  | _, _, _, .nil, e => by cases e; exact ⟨rfl, fun p hp => by cases hp⟩
  | x :: xs, v :: vs, ks, .cons r t, e => by
    unfold nkeys at e
    split at e
    case h_2 => cases e
    rename_i k2 ks2 h1 h2
    cases e
    obtain ⟨l1, l2⟩ := nkeys_kn t h2
    refine ⟨by simp [l1], fun p hp => ?_⟩
    rw [List.zip_cons_cons] at hp
    rcases List.mem_cons.mp hp with rfl | hp
    · exact nkey_kn r h1
    · exact l2 p hp
/-! ### len(set(xs)) -/
def eLenSet (a : Ev) : Ev := fun ρ => bnd (a ρ) fun x => bnd (getL x) fun xs => match nkeys xs with
  | some ks => if ks.length ≤ 4 then ret (.int (cnt ks : Nat)) else stuck
  | none => stuck
def tLenSet (K : PySem.W.Frag) (ta : TE) : TE := fun σ H Q => ta σ H fun x H1 => ∃ (l : Addr) (ps : List (V × NestedKey)), x = V.ref l ∧ SqL K H1 l (ps.map (·.1)) ∧ (∀ p ∈ ps, KnV K H1 p.1 p.2) ∧ ps.length ≤ 4 ∧ Q (.int (cnt (ps.map (·.2)) : Nat)) H1
variable {a : Expr} {fa : Ev} {p p2 q pos : Pos}
theorem pe_lenSet {ta : TE} (at_ : At X G W k) (hg : Gl X "len") (hm : X.mg "len" = none) (hg2 : Gl X "set") (hm2 : X.mg "set" = none) (ha : PE X a ta) (na : starEach [a] X.env = (false, eval a X.env) :: starEach [] X.env := by rfl) :
    PE X (.Call (.Name "len" p) [.Call (.Name "set" p2) [a] [] q] [] pos) (tLenSet X.K ta) := by
  refine ⟨fun pins s σ H Q I h => Call_ (ld_blt I hg hm PySem.boot_len ?_)⟩
  refine callWith_builtin1 (args_cons ?_ rfl) rfl rfl
  refine Call_ (ld_blt I hg2 hm2 boot_set ?_)
  refine callWith_type1 (args_cons (thn (ha.run pins s σ H _ I h) fun v s1 ⟨x, H1, I1, r1, q1⟩ => args_nil ?_) na) na rfl
  obtain ⟨l, ps, rfl, hs, hk, hf, q1⟩ := q1
  cases r1
  obtain ⟨its, r, pl, hz⟩ := I1.list hs
  have hnk : ∀ p ∈ ps, ∃ b, p.1 = .ref b ∧ Sn.NK s1.heap p.2 b := fun p hp => kn_nk I1 (hk p hp)
  obtain ⟨ks, e1, e2⟩ : ∃ ks : Sn.Lk, ps = ks.map (fun p => (V.ref p.1, p.2)) ∧ ∀ p ∈ ks, Sn.NK s1.heap p.2 p.1 := by
    clear r hs hk hf q1 pl hz
    induction ps with
    | nil => exact ⟨[], rfl, fun p hp => by cases hp⟩
    | cons p ps ih =>
      obtain ⟨ks, e1, e2⟩ := ih fun p hp => hnk p (List.mem_cons_of_mem _ hp)
      obtain ⟨b, e3, e4⟩ := hnk p List.mem_cons_self
      refine ⟨(b, p.2) :: ks, by rw [List.map_cons, ← e1, ← e3], fun x hx => ?_⟩
      rcases List.mem_cons.mp hx with rfl | hx
      · exact e4
      · exact e2 x hx
  subst e1
  rw [List.map_map] at r
  have hits : its = ks.map fun p => Value.ref p.1 := by
    clear hf q1 hk hnk e2 pl hz hs
    induction ks generalizing its with
    | nil => cases r; rfl
    | cons p ks ih => cases r with
      | cons q t => cases q; rw [List.map_cons, ih _ t]
  refine Sn.call_set (P := X.prog) (w := X.w) ks (I1.ok.hd at_.calm) pl.isList (by simpa using hits) e2 (by simpa using hf) (by have := at_.room.un; omega) fun h tk L es ep t R g kp => ?_
  refine args_nil ?_
  obtain ⟨o, ho, hex, hd⟩ := R.ob
  have I2 : Inv X pins σ H1 { s1 with heap := h, toks := tk } := I1.kept kp
  have hcnt : es.size = cnt (List.map (·.2) (ks.map fun p => (V.ref p.1, p.2))) := by
    rw [show es.size = L.length from (Sn.St.size (s := { s1 with heap := h }) R), List.map_map, ← List.length_map (f := fun p : Addr × NestedKey => p.2)]
    refine cnt_of R.nd (fun k hk => ?_) fun k hk => ?_
    · obtain ⟨p, hp, rfl⟩ := List.mem_map.mp hk
      exact List.mem_map_of_mem (f := fun p : Addr × NestedKey => p.2) (List.mem_of_mem_take (g.sub p hp))
    · obtain ⟨p, hp, rfl⟩ := List.mem_map.mp hk
      exact g.all p (by rw [List.take_length]; exact hp)
  have hfw := R.few
  have hsz : es.size = L.length := Sn.St.size (s := { s1 with heap := h }) R
  refine call_len_set ho hex hd (Sn.St.fits (s := { s1 with heap := h }) R) (by omega) ⟨.int (es.size : Nat), H1, I2.tok _, ⟨_, rfl⟩, ?_⟩
  rw [hcnt]
  exact q1
theorem x_lenSet (at_ : At X G W k) (hm : X.mg "len" = none) (hm2 : X.mg "set" = none) (ha : PE X a (T G W fa)) (hg : Gl X "len" := by rfl) (hg2 : Gl X "set" := by rfl) (na : starEach [a] X.env = (false, eval a X.env) :: starEach [] X.env := by rfl) :
    PE X (.Call (.Name "len" p) [.Call (.Name "set" p2) [a] [] q] [] pos) (T G W (eLenSet fa)) := by
  refine PE.imp (pe_lenSet at_ hg hm hg2 hm2 ha na) ?_
  rintro σ H Q ⟨μ, ρ, S, rs, rr, run⟩
  refine T_bnd rs rr run fun v H1 μ1 x S1 g1 rx rs1 rr1 run1 => ?_
  rcases getL_cases x S1 with h | ⟨xs, h⟩
  · exact run1.no (by simp only [bnd, h])
  · obtain ⟨_, b, vs, e1, h1, r1⟩ := getL_ok rs1 rx h
    subst e1
    cases hk : nkeys xs with
    | none => exact run1.no (by simp only [bnd, h, hk]; rfl)
    | some ks =>
      obtain ⟨l1, l2⟩ := nkeys_kn r1 hk
      by_cases hz : ks.length ≤ 4
      case neg => exact run1.no (by simp only [bnd, h, hk, if_neg hz]; rfl)
      refine ⟨b, vs.zip ks, rfl, by rw [← at_.K, List.map_fst_zip (by omega)]; exact h1, fun p hp => by rw [← at_.K]; exact l2 p hp, by rw [List.length_zip]; omega, ?_⟩
      rw [List.map_snd_zip (by omega)]
      exact run1.end_ (a := .int (cnt ks : Nat)) (S1 := S1) (by simp only [bnd, h, hk, if_pos hz]; rfl) μ1 H1 _ .refl (.int _) rs1
end
end Tw
end
section
set_option Elab.async false
set_option maxRecDepth 100000
set_option maxHeartbeats 6400000
set_option autoImplicit true
set_option linter.all false
set_option relaxedAutoImplicit true
namespace Tw
open PySem L2 PySem.Spec PyProof.Rows
/-! ## 76. len of a set comprehension of few keys -/
/-- the set as its own object tells it -/
structure SnO (w : World) (h : Heap) (a : Addr) (L : Sn.Lk) (es : Array (Int × Value)) (ep : Nat) (t : SetTable) : Prop where
  ob : ∃ o, h.get? a = some o ∧ o.ExactSet ∧ o.data = .set es ep t
  rw_ : es.toList = Sn.rows w L
  tab : TabOk t (L.map fun p => p.2.hash w)
  nd : (L.map (·.2)).Nodup
  plain : t.plain = true
  led : w.params.followText "set-order" = true ∨ t.led = true
  mask : t.mask = 7
  few : L.length ≤ 4
section
variable {w : World} {h h' : Heap} {a : Addr} {L : Sn.Lk} {es : Array (Int × Value)} {ep : Nat} {t : SetTable}
theorem SnO.of (R : Sn.St w h a L es ep t) : SnO w h a L es ep t := ⟨R.ob, R.rw_, R.tab, R.nd, R.plain, R.led, R.mask, R.few⟩
theorem SnO.full (R : SnO w h a L es ep t) (is : ∀ p ∈ L, Sn.NK h p.2 p.1) : Sn.St w h a L es ep t := ⟨R.ob, R.rw_, R.tab, R.nd, is, R.plain, R.led, R.mask, R.few⟩
theorem SnO.kept (R : SnO w h a L es ep t) (k : ∀ o, h.get? a = some o → h'.get? a = some o) : SnO w h' a L es ep t := by
  obtain ⟨o, ho, r⟩ := R.ob
  exact ⟨⟨o, k o ho, r⟩, R.rw_, R.tab, R.nd, R.plain, R.led, R.mask, R.few⟩
end
/-- what was met and what the set has -/
structure Met (ps : List (V × NestedKey)) (L : Sn.Lk) : Prop where
  sub : ∀ p ∈ L, (V.ref p.1, p.2) ∈ ps
  all : ∀ p ∈ ps, p.2 ∈ L.map (·.2)
  len : L.length ≤ ps.length
theorem Met.next {ps : List (V × NestedKey)} {L L2 : Sn.Lk} {b : Addr} {k : NestedKey} (m : Met ps L) (c1 : k ∈ L.map (·.2) → L2 = L) (c2 : k ∉ L.map (·.2) → L2.Perm ((b, k) :: L)) : Met (ps ++ [(.ref b, k)]) L2 := by
  by_cases hm : k ∈ L.map (·.2)
  · rw [c1 hm]
    refine ⟨fun p hp => List.mem_append_left _ (m.sub p hp), fun p hp => ?_, by simp only [List.length_append]; have := m.len; omega⟩
    rcases List.mem_append.mp hp with hp | hp
    · exact m.all p hp
    · obtain rfl : p = (V.ref b, k) := by simpa using hp
      exact hm
  · have pm := c2 hm
    refine ⟨fun p hp => ?_, fun p hp => (pm.map (·.2)).mem_iff.mpr ?_, by rw [pm.length_eq]; simp only [List.length_append, List.length_cons, List.length_nil]; have := m.len; omega⟩
    · rcases List.mem_cons.mp (pm.mem_iff.mp hp) with rfl | hp
      · exact List.mem_append_right _ (by simp)
      · exact List.mem_append_left _ (m.sub p hp)
    · rw [List.map_cons]
      rcases List.mem_append.mp hp with hp | hp
      · exact List.mem_cons_of_mem _ (m.all p hp)
      · obtain rfl : p = (V.ref b, k) := by simpa using hp
        exact List.mem_cons_self
def tLenSetC (K : PySem.W.Frag) (wi : TI) (g : TG) (te : TE) (vs : List Nat) : TE := fun σ H Q => wi σ H fun J H1 => ∃ Z : Nat → Nat → List (V × NestedKey) → Hp → Prop, (∃ m, Z 0 m [] H1) ∧ ∀ i m ps H, Z i m ps H →
  (J.stop i H ∧ Q (.int (cnt (ps.map (·.2)) : Nat)) H) ∨ (J.go i H ∧ ∃ Nx : List (V × NestedKey) → Hp → Prop, (∀ ps' H', Nx ps' H' → ∃ m', m' < m ∧ Z (i + 1) m' ps' H') ∧ ∀ x H', J.yld i H x H' → g x (wipe σ vs) H' fun σ2 H2 => wipe σ2 vs = wipe σ vs ∧
    te σ2 H2 fun y H4 => ∃ key, ps.length ≤ 3 ∧ (∀ p ∈ ps ++ [(y, key)], KnV K H4 p.1 p.2) ∧ Nx (ps ++ [(y, key)]) H4)
section
variable {G : GG} {W : WX} {X : Cx} {k : Nat} {elt tg iter : Expr} {scope : Scope} {own : List (Str × Nat)} {pos pos2 p : Pos} {wi : TI} {g : TG} {te : TE}
theorem sc_core {pins : List (Addr × Obj)} {s : Shared} {σ : L2.St} {H : Hp} {Q : VK} {Qf : Value → Shared → Prop} {pos' : Pos} (at_ : At X G W (k + 2)) (I : Inv X pins σ H s) (hi : PI X tg iter wi) (ok : BlkOk X.N X.env.scope scope own)
    (hg : ∀ (s : Shared) (H : Hp) (C : Addr) (cl : List (Str × Addr)) (fp : List Addr), PG (X.blk s H scope (compEnvC scope cl C X.env) fp) tg g) (he : ∀ (s : Shared) (H : Hp) (C : Addr) (cl : List (Str × Addr)) (fp : List Addr), PE (X.blk s H scope (compEnvC scope cl C X.env) fp) elt te)
    (hs : ∀ x, foldedSetIterable iter X.env x = pure x) (h : tLenSetC X.K wi g te (own.map (·.2)) σ H Q)
    (hRR : ∀ D C s1 m H1 ps L es ep t, Inv X pins σ H1 s1 → Q (.int (cnt (ps.map (·.2)) : Nat)) H1 → SnO X.w s1.heap D L es ep t → Met ps L → s1.heap.Ns C m → FpOk X pins H1 C → compPost (model X.prog X.w) X.A X.xe none Qf (.ref D) C (.ok .next) s1) :
    wpAny (model X.prog X.w) X.A (comprehension (.SetComp elt [⟨tg, iter, [], 0⟩] scope pos) scope X.env pos' (newSet (.type "set")) false (eval iter X.env) none) Qf X.xe s := by
  have hc := at_.calm
  have hN := at_.nd
  have hfree : ∀ y ∈ scope.names, y.2 = .free → ∃ a, X.env.cells.lookup y.1 = some a := fun y hy e => (ok.free y hy e).elim (fun z => I.ok.has _ (.inl z)) fun z => I.ok.has _ (.inr z)
  refine wpAny_comprehension_free (use := none) rfl hs (closure_ok hfree) ok.kind (fun y hy e => by rw [ok.uniq y hy, e]) (thn (hi.run pins s σ H _ I h) fun xv s1 hx => thn hx fun itv s2 h2 => ?_)
  obtain ⟨it, fp, tn, J, H2, rfl, I2, T, st2, f2, Z, ⟨m0, z0⟩, turn⟩ := h2
  refine wpAny_newSet_raw fun led hled => newEnv_comp ?_
  subst hled
  generalize hD : s2.heap.objs.size = D
  have hDn : H2 D = none := I2.hok.fresh (Nat.le_of_eq hD)
  generalize hob : ({ cls := .type "set", dict := none, data := .set #[] 0 (.fresh 0 0 (!(X.w.params.followText "set-order"))) } : Obj) = ob
  generalize hs3 : ({ s2 with heap := s2.heap.push ob } : Shared) = s3
  have h3 : s3.heap = s2.heap.push ob := by rw [← hs3]
  have I3 : Inv X pins σ H2 s3 := by
    rw [← hs3]
    exact I2.kept (t' := s2.toks) fun b o e => Heap.get?_push_of_some _ e
  have gD : s3.heap.get? D = some ob := by rw [h3, ← hD]; exact Heap.get?_push_size _ (by rw [← hob]; rfl)
  have S3 : SnO X.w s3.heap D [] #[] 0 (.fresh 0 0 (!(X.w.params.followText "set-order"))) := .of (Sn.fresh (by rw [gD, hob]))
  have old : ∀ b ∈ fp, b < s2.heap.objs.size := fun b hb => by
    obtain ⟨o, e, _⟩ := T.obj _ _ st2 b hb
    exact Heap.lt_size e
  have f3 : ∀ b ∈ D :: fp, FpOk X pins H2 b ∧ b < s3.heap.objs.size := fun b hb => by
    rw [h3, Heap.size_push]
    rcases List.mem_cons.mp hb with rfl | hb
    · exact ⟨I2.fpOk (Nat.le_of_eq hD) hDn, by omega⟩
    · exact ⟨f2 b hb, Nat.lt_succ_of_lt (old b hb)⟩
  have st3 : tn 0 s3.heap := T.keep _ _ _ st2 fun b _ o e => by rw [h3]; exact Heap.get?_push_of_some _ e
  have I4 := block_start I3 ok hN f3
  have pg := hg s3 H2 s3.heap.objs.size (cellsFrom (s3.heap.objs.size + 1) scope.names (cloFrom X.env.cells scope.names [])) (D :: fp)
  have pe := he s3 H2 s3.heap.objs.size (cellsFrom (s3.heap.objs.size + 1) scope.names (cloFrom X.env.cells scope.names [])) (D :: fp)
  show codeAny _ _ (.compStart (.SetComp elt [⟨tg, iter, [], 0⟩] scope pos) 0 (.ref it) (.ref D) (compEnvC scope (cellsFrom (s3.heap.objs.size + 1) scope.names (cloFrom X.env.cells scope.names [])) s3.heap.objs.size X.env)) (compPost (model X.prog X.w) X.A X.xe none Qf (.ref D) s3.heap.objs.size) { s3 with heap := pushCells (s3.heap.push { cls := .type "dict", data := .dict #[] }) scope.names }
  generalize hce : compEnvC scope (cellsFrom (s3.heap.objs.size + 1) scope.names (cloFrom X.env.cells scope.names [])) s3.heap.objs.size X.env = ce at I4 pg pe ⊢
  have cL : ce.locals = s3.heap.objs.size := by subst hce; rfl
  generalize hs4 : ({ s3 with heap := pushCells (s3.heap.push { cls := .type "dict", data := .dict #[] }) scope.names } : Shared) = s4 at I4 ⊢
  have k4 : ∀ b o, s3.heap.get? b = some o → s4.heap.get? b = some o := fun b o e => by rw [← hs4]; exact pushCells_keeps _ _ _ _ (Heap.get?_push_of_some _ e)
  have st4 : tn 0 s4.heap := T.keep _ _ _ st3 fun b _ o e => k4 b o e
  have stat : ∀ {σ' : L2.St} {H' : Hp} {s' : Shared}, Inv (X.blk s3 H2 scope ce (D :: fp)) [] σ' H' s' → (∀ b ∈ D :: fp, H' b = none) → ∀ b ∈ D :: fp, FpOk (X.blk s3 H2 scope ce (D :: fp)) [] H' b := fun {σ' H' s'} I' hn b hb =>
    ⟨hn b hb, (I'.ok.exf b hb).1, I'.ok.exfs b hb, .inl hb, fun x c e => (I'.ok.exf b hb).2 x c e, fun q hq => absurd (show q ∈ ([] : List (Addr × Obj)) ++ [] from hq) (by simp)⟩
  have loop : codeAny (model X.prog X.w) X.A (.compLoop (.SetComp elt [⟨tg, iter, [], 0⟩] scope pos) 0 (.ref it) (.ref D) ce) (compPost (model X.prog X.w) X.A X.xe none Qf (.ref D) s3.heap.objs.size) s4 := by
    refine compLoop_set_any (fun n s' => ∃ i ps L es ep t H', Inv (X.blk s3 H2 scope ce (D :: fp)) [] (wipe σ (own.map (·.2))) H' s' ∧ tn i s'.heap ∧ (∀ b ∈ D :: fp, H' b = none) ∧ SnO X.w s'.heap D L es ep t ∧ Met ps L ∧ Z i n ps H') ?_ m0
      ⟨0, [], [], #[], 0, _, H2, I4, st4, fun b hb => (f3 b hb).1.1, S3.kept fun o e => k4 D o e, ⟨(fun q hq => nomatch hq), (fun q hq => nomatch hq), Nat.le_refl _⟩, z0⟩
    rintro n s5 ⟨i, ps, L, es, ep, t, H5, I5, st5, n5, S5, mt, z5⟩
    have nDfp : ∀ b ∈ fp, D ≠ b := fun b hb z => by have := old b hb; rw [hD, z] at this; exact Nat.lt_irrefl _ this
    obtain ⟨o5, ho5, hx5, hd5⟩ := id S5.ob
    have I5d := I5.pinned (fp := [D]) (fun b hb => by obtain rfl : b = D := (by simpa using hb); exact stat I5 n5 b List.mem_cons_self) (fun b hb => by obtain rfl : b = D := (by simpa using hb); exact ⟨o5, ho5, fun v z => by rw [hd5] at z; cases z⟩)
    have mD : (D, o5) ∈ ([] : List (Addr × Obj)) ++ pinsAt [D] s5.heap := mem_pinsAt (by simp) ho5
    have f5 : ∀ b ∈ fp, FpOk (X.blk s3 H2 scope ce (D :: fp)) ([] ++ pinsAt [D] s5.heap) H5 b := fun b hb => by
      obtain ⟨q0, q1, q2, q3, q4, q5⟩ := stat I5 n5 b (List.mem_cons_of_mem _ hb)
      refine ⟨q0, q1, q2, q3, q4, fun q hq => ?_⟩
      have hq : q ∈ pinsAt [D] s5.heap := by simpa using hq
      obtain ⟨z, _⟩ := of_pinsAt hq
      rw [show q.1 = D by simpa using z]
      exact nDfp b hb
    rcases turn i n ps H5 z5 with ⟨stop, qq⟩ | ⟨go, Nx, hNx, step⟩
    · have td := T.done (X.blk s3 H2 scope ce (D :: fp)) rfl rfl rfl hc i _ s5 _ H5 (fun _ _ => False) I5d f5 st5 stop
      refine thnF td fun r s6 ⟨hr, I6⟩ => ?_
      subst hr
      have I7 : Inv X pins σ H5 s6 := I3.call' (ch := D :: fp) I6.os I6.base I6.hok I6.bare fun b hb => ⟨(f3 b hb).1.2.2.2.1, (f3 b hb).1.2.1, (f3 b hb).1.2.2.2.2.1, (f3 b hb).1.2.2.2.2.2⟩
      have nC : H5 s3.heap.objs.size = none := by
        have z : H5 ce.locals = none := I6.free
        rw [cL] at z
        exact z
      obtain ⟨m, hm, _⟩ := I6.loc
      have hm : s6.heap.Ns ce.locals m := hm
      rw [cL] at hm
      have kD := (I6.pin (D, o5) (List.mem_append_right _ mD)).1
      exact hRR D s3.heap.objs.size s6 m H5 ps L es ep t I7 qq (S5.kept fun o e => by rw [ho5] at e; cases e; exact kD) mt hm (I3.fpOk (Nat.le_refl _) nC)
    · have ti := T.item (X.blk s3 H2 scope ce (D :: fp)) rfl rfl rfl hc i _ s5 _ H5 (fun _ _ => False) I5d f5 st5 go
      refine thnF ti fun r s6 ⟨u, hr, h6⟩ => ?_
      subst hr
      refine thnF h6 fun _ s7 ⟨x, H7, I7, r7, y7, st7, n7⟩ => ?_
      obtain ⟨kD7, hD7, _⟩ := I7.pin (D, o5) (List.mem_append_right _ mD)
      have n7' : ∀ b ∈ D :: fp, H7 b = none := fun b hb => (List.mem_cons.mp hb).elim (fun z => by rw [z]; exact hD7) fun z => n7 b z
      have I70 : Inv (X.blk s3 H2 scope ce (D :: fp)) [] (wipe σ (own.map (·.2))) H7 s7 := I7.unpinned (pins := [])
      have I7p := I70.pinned (stat I70 n7') fun b hb => (List.mem_cons.mp hb).elim (fun z => by rw [z]; exact ⟨o5, kD7, fun v z => by rw [hd5] at z; cases z⟩) fun z => T.obj _ _ st7 b z
      refine thnF (pg.run _ s7 _ H7 x u _ I7p r7 (step x H7 y7)) fun _ s8 ⟨σ8, H8, I8, hw8, q8⟩ => ?_
      refine wpAny_pure ?_
      rw [if_pos rfl]
      refine thnF (pe.run _ s8 σ8 H8 _ I8 q8) fun z s9 ⟨y, H9, I9, r9, key, few, kn, nx⟩ => ?_
      have pin9 : ∀ b ∈ D :: fp, ∀ o, s7.heap.get? b = some o → s9.heap.get? b = some o ∧ H9 b = none := fun b hb o e =>
        let z := I9.pin (b, o) (List.mem_append_right _ (List.mem_append_right _ (mem_pinsAt hb e)))
        ⟨z.1, z.2.1⟩
      have n9 : ∀ b ∈ D :: fp, H9 b = none := fun b hb => (List.mem_cons.mp hb).elim (fun z => by rw [z]; exact (pin9 D List.mem_cons_self o5 kD7).2) fun z => by
        obtain ⟨o, e, _⟩ := T.obj _ _ st7 b z
        exact (pin9 b hb o e).2
      obtain ⟨b, rfl, hb⟩ := kn_nk I9 (kn (y, key) (by simp))
      cases r9
      have S9 : Sn.St X.w s9.heap D L es ep t := (S5.kept (h' := s9.heap) fun o e => by rw [ho5] at e; cases e; exact (pin9 D List.mem_cons_self o5 kD7).1).full fun p hp => by
        obtain ⟨c, e, q⟩ := kn_nk I9 (kn _ (List.mem_append_left _ (mt.sub p hp)))
        cases e
        exact q
      refine Sn.call_add (P := X.prog) S9 hb (by have := at_.room.un; show X.A.units + 12 < cLine; omega) (by have := mt.len; omega) fun h2 tk L2 es2 ep2 t2 sb ht S10 c1 c2 => ?_
      obtain ⟨m', hm, w'⟩ := hNx _ H9 nx
      have hl : (wipe σ (own.map (·.2))).length = σ8.length := by rw [← hw8, wipe_length]
      have I9u : Inv (X.blk s3 H2 scope ce (D :: fp)) [] σ8 H9 s9 := I9.unpinned (pins := [])
      obtain ⟨q0, q1, q2, q3, q4, q5⟩ := stat I9u n9 D List.mem_cons_self
      refine ⟨m', hm, i + 1, _, L2, es2, ep2, t2, H9, (I9u.turned (t' := tk) (fun c o hc e => (sb.2 c hc).trans e) q0 q1 q3 q4 q5).weak hl (fun j v e => ?_), T.keep _ _ _ st7 fun c hc o e => (sb.2 c (nDfp c hc).symm).trans (pin9 c (List.mem_cons_of_mem _ hc) o e).1, n9, .of S10, mt.next c1 c2, w'⟩
      rw [← hw8] at e
      exact (wipe_some e).1
  exact codeAny_compStart_set loop (T.self X.A 0 _ _ _ st4 loop)
theorem pe_lenSetC (at_ : At X G W (k + 2)) (hg0 : Gl X "len") (hm : X.mg "len" = none) (hi : PI X tg iter wi) (ok : BlkOk X.N X.env.scope scope own)
    (hg : ∀ (s : Shared) (H : Hp) (C : Addr) (cl : List (Str × Addr)) (fp : List Addr), PG (X.blk s H scope (compEnvC scope cl C X.env) fp) tg g) (he : ∀ (s : Shared) (H : Hp) (C : Addr) (cl : List (Str × Addr)) (fp : List Addr), PE (X.blk s H scope (compEnvC scope cl C X.env) fp) elt te)
    (hs : ∀ x, foldedSetIterable iter X.env x = pure x) (na : starEach [.SetComp elt [⟨tg, iter, [], 0⟩] scope pos] X.env = (false, eval (.SetComp elt [⟨tg, iter, [], 0⟩] scope pos) X.env) :: starEach [] X.env := by rfl) :
    PE X (.Call (.Name "len" p) [.SetComp elt [⟨tg, iter, [], 0⟩] scope pos] [] pos2) (tLenSetC X.K wi g te (own.map (·.2))) := by
  refine ⟨fun pins s σ H Q I h => Call_ (ld_blt I hg0 hm PySem.boot_len ?_)⟩
  refine callWith_builtin1 (args_cons ?_ na) na rfl
  rw [arm_eval_SetComp]
  refine sc_core at_ I hi ok hg he hs h fun D C s1 m H1 ps L es ep t I1 q S mt hn f => ⟨m, hn, fun h2 sb => ?_⟩
  obtain ⟨f0, f1, f2, f3, f4, f5⟩ := f
  obtain ⟨o, ho, hex, hd⟩ := S.ob
  have hne : D ≠ C := fun z => by
    obtain ⟨oC, eC, epC, hC, hdC, _⟩ := hn
    rw [← z, ho] at hC
    cases hC
    rw [hd] at hdC
    cases hdC
  have I2 := I1.turned (t' := s1.toks) (fun b o hb e => (sb.2 b hb).trans e) f0 f1 f3 f4 f5
  have hsz : es.size = L.length := by have := congrArg List.length S.rw_; simpa [Sn.rows] using this
  have hcnt : es.size = cnt (ps.map (·.2)) := by
    rw [hsz, ← List.length_map (f := fun p : Addr × NestedKey => p.2)]
    refine cnt_of S.nd (fun k hk => ?_) fun k hk => ?_
    · obtain ⟨p, hp, rfl⟩ := List.mem_map.mp hk
      exact List.mem_map.mpr ⟨_, mt.sub p hp, rfl⟩
    · obtain ⟨p, hp, rfl⟩ := List.mem_map.mp hk
      exact mt.all p hp
  have hfit : t.fits es.size = true := by
    have h1 := S.tab.sz
    have h2 := S.few
    have h3 := S.mask
    rw [List.length_map] at h1
    unfold SetTable.fits SetTable.fill
    rw [S.tab.dm, Bool.and_eq_true, beq_iff_eq, decide_eq_true_eq]
    refine ⟨by omega, ?_⟩
    show t.place.size + 0 ≤ t.mask
    omega
  have hfw := S.few
  refine args_nil ?_
  refine call_len_set ((sb.2 D hne).trans ho) hex hd hfit (by omega) ⟨.int (es.size : Nat), H1, I2.tok _, ⟨_, rfl⟩, ?_⟩
  rw [hcnt]
  exact q
end
end Tw
end
section
set_option Elab.async false
set_option maxRecDepth 100000
set_option maxHeartbeats 6400000
set_option autoImplicit true
set_option linter.all false
set_option relaxedAutoImplicit true
namespace Tw
open PySem L2
open Classical in
noncomputable def lpS (o : List (Nat × Ob)) (g : Tg) (fe : Ev) (ρ : Rho) : List Vl → List Vl → M Vl
  | [], ys => fun S => if okL o S then match nkeys ys with
    | some ks => some (.ok (.int (cnt ks : Nat)) S)
    | none => none
    else none
  | x :: xs, ys => fun S => if okL o S then match g x ρ with
    | none => none
    | some ρ1 => bnd (nr (fe ρ1)) (fun y => if ys.length ≤ 3 ∧ (nkey y).isSome = true then lpS o g fe ρ xs (ys ++ [y]) else stuck) S
    else none
noncomputable def eLenSetC (it : Rho → M Itm2) (g : Tg) (fe : Ev) : Ev := fun ρ => bnd (it ρ) fun p => lpS p.1 g fe ρ p.2 []
theorem nkeys_app : ∀ {ys : List Vl} {ks : List NestedKey} {y : Vl} {k : NestedKey}, nkeys ys = some ks → nkey y = some k → nkeys (ys ++ [y]) = some (ks ++ [k])
  | [], _, y, k, e, h => by cases e; simp [nkeys, h]
  | x :: xs, _, y, k, e, h => by
    unfold nkeys at e
    split at e
    case h_2 => cases e
    rename_i k1 ks1 h1 h2
    cases e
    rw [List.cons_append, List.cons_append]
    unfold nkeys
    rw [h1, nkeys_app h2 h]
section
variable {X : Cx} {G : GG} {W : WX} {k : Nat} {pos pos2 p : Pos} {elt iter tg : Expr} {scope : Scope} {it : Rho → M Itm2} {fe : Ev} {g : Tg} {gm : TG} {is : List Nat}
theorem lpS_here {o ρ xs ys S} (h : ¬ okL o S) : lpS o g fe ρ xs ys S = none := by cases xs <;> exact if_neg h
theorem lpS_cons {o ρ x xs ys S} (h : okL o S) : lpS o g fe ρ (x :: xs) ys S = match g x ρ with
    | none => none
    | some ρ1 => bnd (nr (fe ρ1)) (fun y => if ys.length ≤ 3 ∧ (nkey y).isSome = true then lpS o g fe ρ xs (ys ++ [y]) else stuck) S := if_pos h
theorem lpS_nil {o ρ ys S} (h : okL o S) : lpS o g fe ρ [] ys S = match nkeys ys with
    | some ks => some (.ok (.int (cnt ks : Nat)) S)
    | none => none := if_pos h
theorem lenSetC_read {σ : L2.St} {H : Hp} {Q : VK} (ow : OwnT G g gm is) (h : T G W (eLenSetC it g fe) σ H Q) : tLenSetC G.K (TV G W it) gm (T G W0 fe) is σ H Q := by
  obtain ⟨μ, ρ, S, rs, rr, run⟩ := h
  refine ⟨μ, ρ, S, rs, rr, run.bnd.imp (fun J H1 ⟨μ1, a, S1, g1, wk, rs1, run1⟩ => ?_) fun _ _ _ _ z => z⟩
  obtain ⟨o, xs⟩ := a
  have rr1 : RR G μ1 H1 ρ σ := rr.up g1
  refine ⟨fun j m ps H2 => m = xs.length - j ∧ j ≤ xs.length ∧ ∃ μ2 S2 ys vs ks, Gr μ1 H1 μ2 H2 ∧ RS G μ2 H2 S2 ∧ Rvs G μ2 H2 ys vs ∧ nkeys ys = some ks ∧ ps = vs.zip ks ∧ Run G (Rv G) (lpS o g fe ρ (xs.drop j) ys) μ2 H2 S2 Q (EW G W σ),
    ⟨_, rfl, Nat.zero_le _, μ1, S1, [], [], [], .refl, rs1, .nil, rfl, rfl, run1⟩, fun j m ps H2 hW => ?_⟩
  obtain ⟨rfl, hj, μ2, S2, ys, vs, ks, g2, rs2, rys, hks, rfl, run2⟩ := hW
  obtain ⟨l1, kn⟩ := nkeys_kn rys hks
  by_cases hok2 : okL o S2
  case neg => exact run2.no (lpS_here hok2)
  by_cases hlt : j < xs.length
  · obtain ⟨go, yld⟩ := wk.go j μ2 H2 S2 g2 rs2 hok2 hlt
    refine .inr ⟨go, fun ps' H' => ∃ μ2 S2 ys vs ks, Gr μ1 H1 μ2 H' ∧ RS G μ2 H' S2 ∧ Rvs G μ2 H' ys vs ∧ nkeys ys = some ks ∧ ps' = vs.zip ks ∧ Run G (Rv G) (lpS o g fe ρ (xs.drop (j + 1)) ys) μ2 H' S2 Q (EW G W σ), fun ps' H' hx => ⟨xs.length - (j + 1), by omega, rfl, hlt, hx⟩, fun v H' hy => ?_⟩
    obtain ⟨gy, rsy, x1, hx1, rx⟩ := yld v H' hy
    have ed : xs.drop j = x1 :: xs.drop (j + 1) := by
      rw [List.drop_eq_getElem_cons hlt]
      rw [List.getElem?_eq_getElem hlt] at hx1
      cases hx1
      rfl
    rw [ed] at run2
    have gy2 := g2.trans gy
    cases eg : g x1 ρ with
    | none => exact (run2.later gy).no (by rw [lpS_cons hok2, eg])
    | some ρ1 =>
      have run3 : Run G (Rv G) (bnd (nr (fe ρ1)) (fun y => if ys.length ≤ 3 ∧ (nkey y).isSome = true then lpS o g fe ρ (xs.drop (j + 1)) (ys ++ [y]) else stuck)) μ2 H' S2 Q (EW G W σ) := (run2.later gy).cong (by rw [lpS_cons hok2, eg])
      refine ow.ok rsy (rr1.up gy2) rx eg fun σ' hw rr2 => ⟨hw, μ2, _, S2, rsy, rr2, Run.nr (run3.bnd.imp (fun w H4 ⟨μ4, y, S4, g4, ry, rs4, run5⟩ => ?_) fun _ _ _ _ z => z)⟩
      by_cases hz : ys.length ≤ 3 ∧ (nkey y).isSome = true
      case neg => exact run5.no (by rw [if_neg hz]; rfl)
      rw [if_pos hz] at run5
      obtain ⟨key, hkey⟩ := Option.isSome_iff_exists.mp hz.2
      have gy4 := gy.trans g4
      have r4 := rys.up gy4
      have hzip : vs.zip ks ++ [(w, key)] = (vs ++ [w]).zip (ks ++ [key]) := by rw [List.zip_append l1]; rfl
      obtain ⟨_, kn4⟩ := nkeys_kn (r4.app (.cons ry .nil)) (nkeys_app hks hkey)
      refine ⟨key, by rw [List.length_zip, ← l1, Nat.min_self, ← rys.length]; exact hz.1, by rw [hzip]; exact kn4, μ4, S4, ys ++ [y], vs ++ [w], ks ++ [key], g2.trans gy4, rs4, r4.app (.cons ry .nil), nkeys_app hks hkey, hzip, run5⟩
  · refine .inl ⟨wk.stop j μ2 H2 S2 g2 rs2 hok2 (by show xs.length ≤ j; omega), ?_⟩
    rw [List.drop_of_length_le (by omega)] at run2
    rw [List.map_snd_zip (by omega)]
    exact run2.end_ (a := .int (cnt ks : Nat)) (S1 := S2) (by rw [lpS_nil hok2, hks]) μ2 H2 _ .refl (.int _) rs2
theorem x_lenSetC (at_ : At X G W (k + 2)) (own : List (Str × Nat)) (hok : blkC X.N X.env.scope scope own = true) (hm : X.mg "len" = none) (hi : PI X tg iter (TV G W it)) (ow : OwnT G g gm (own.map (·.2)))
    (hg : ∀ (s : Shared) (H : Hp) (C : Addr) (cl : List (Str × Addr)) (fp : List Addr), PG (X.blk s H scope (compEnvC scope cl C X.env) fp) tg gm)
    (he : ∀ Y : Cx, At Y G W0 (k + 2) → (∃ s H C cl fp, Y = X.blk s H scope (compEnvC scope cl C X.env) fp) → PE Y elt (T G W0 fe)) (hg0 : Gl X "len" := by rfl) (hs : ∀ y, foldedSetIterable iter X.env y = pure y := by intro _; rfl)
    (na : starEach [.SetComp elt [⟨tg, iter, [], 0⟩] scope pos] X.env = (false, eval (.SetComp elt [⟨tg, iter, [], 0⟩] scope pos) X.env) :: starEach [] X.env := by rfl) :
    PE X (.Call (.Name "len" p) [.SetComp elt [⟨tg, iter, [], 0⟩] scope pos] [] pos2) (T G W (eLenSetC it g fe)) := by
  have atY : ∀ s H C cl fp, At (X.blk s H scope (compEnvC scope cl C X.env) fp) G W0 (k + 2) := fun s H C cl fp => ⟨at_.K, at_.mg, at_.room, at_.calm, takes0, PassesOwn.never, at_.nd, at_.gd⟩
  exact PE.imp (pe_lenSetC (own := own) (g := gm) (te := T G W0 fe) at_ hg0 hm hi (blkOk_by hok) hg (fun s H C cl fp => he _ (atY s H C cl fp) ⟨s, H, C, cl, fp, rfl⟩) hs na) fun σ H Q h => by rw [← at_.K]; exact lenSetC_read ow h
end
end Tw
end
section
set_option Elab.async false
set_option maxRecDepth 100000
set_option maxHeartbeats 6400000
set_option autoImplicit true
set_option linter.all false
set_option relaxedAutoImplicit true
namespace Tw
open PySem L2 PyProof.Rows
/-! ## 77. any of a list of tuples: whether one has an item -/
def tupsT : List Vl → Option (List Bool)
  | [] => some []
  | .tup xs :: t => if xs.length ≤ line then (tupsT t).map ((!xs.isEmpty) :: ·) else none
  | _ => none
def bAnyT : List Vl → M Vl
  | [x] => bnd (getL x) fun xs => match tupsT xs with
    | some bs => ret (.bl (bs.any id))
    | none => stuck
  | _ => stuck
def rAnyT (K : PySem.W.Frag) : List V → Hp → VK → Prop := fun vs H Q => ∃ (a : Addr) (ps : List (Addr × List V)), vs = [V.ref a] ∧ SqL K H a (ps.map fun p => V.ref p.1) ∧ (∀ p ∈ ps, SqT K H p.1 p.2 ∧ p.2.length ≤ sizeLine) ∧ Q (.bl (ps.any fun p => !p.2.isEmpty)) H
section
variable {G : GG} {W : WX} {X : Cx} {k : Nat} {p pos : Pos} {e : Expr} {es : List Expr} {fs : Evs}
theorem cr_anyT (hc : X.calm = true) : CallR X (.builtin "any") (rAnyT X.K) := by
  intro pins s σ H vs us Q I r h
  obtain ⟨a, ps, rfl, hs, ht, q⟩ := h
  rw [Vals.ref1 r]
  obtain ⟨its, rv, hl, _⟩ := I.list hs
  have hl' := hl.isList
  have hlt : a < s.heap.objs.size := by obtain ⟨_, e, _⟩ := hl'; exact Heap.lt_size e
  have hits : its = ps.map fun p => Value.ref p.1 := by
    rename_i hzz
    clear hl hl' hs ht q hzz
    induction ps generalizing its with
    | nil => cases rv; rfl
    | cons p ps ih => cases rv with
      | cons q t => cases q; rw [List.map_cons, ih _ t]
  have hn : its.toArray.size = ps.length := by rw [hits]; simp
  refine call_any_walkH (wpAny_pyIter_list hl' ⟨s.heap.objs.size, _, _, _, its.toArray.size, fun i v => its.toArray[i]? = some v, _, s.heap, fun i => !(ps.getD i (0, [])).2.isEmpty, rfl, (Walks.list (A := X.A.in1) (I.ok.hd hc) s.heap.objs.size a (Nat.ne_of_lt hlt) its.toArray).toS,
    ⟨⟨_, Heap.get?_push_size _ rfl, rfl, rfl⟩, hl'.push _⟩, fun b o e z => ?_, fun b o e => Heap.get?_push_of_some _ e, fun i v s1 Q1 E1 hk hP hQ => ?_, fun s1 m => ?_⟩)
  · rw [List.mem_singleton.mp z] at e
    exact absurd (Heap.lt_size e) (Nat.lt_irrefl _)
  · replace hP : its[i]? = some v := List.getElem?_toArray.symm.trans hP
    rw [hits, List.getElem?_map] at hP
    cases y : ps[i]? with
    | none => rw [y] at hP; cases hP
    | some p =>
      rw [y] at hP; cases hP
      obtain ⟨h1, h2⟩ := ht p (List.mem_of_getElem? y)
      obtain ⟨its2, rv2, ⟨o, ho, hcl, n, hd⟩, _⟩ := I.tuple h1
      have hq := hQ (s1.toks + 1 + 1) (by omega)
      replace hq : Q1 (!(ps.getD i (0, [])).2.isEmpty) { s1 with toks := s1.toks + 1 + 1 } := hq
      rw [List.getD_eq_getElem?_getD, y] at hq
      have hl2 := rv2.length
      have hfit : (its2.toArray.size : Int) < 2 ^ 63 := by
        have e := sizeLine_eq
        rw [List.size_toArray, ← hl2]
        omega
      refine truthy_tuple (items := its2.toArray) ⟨o, hk _ o ho, hcl, n, hd⟩ hfit ?_
      have : its2.toArray.isEmpty = p.2.isEmpty := by
        cases h3 : p.2 with
        | nil => rw [h3] at rv2; cases rv2; rfl
        | cons c l => rw [h3] at rv2; cases rv2; rfl
      rw [this]
      exact hq
  · have hb : ((List.range its.toArray.size).any fun i => !(ps.getD i (0, [])).2.isEmpty) = ps.any fun p => !p.2.isEmpty := by
      rw [hn]
      exact PySem.W.range_any (fun p : Addr × List V => !p.2.isEmpty) (0, []) ps
    have I2 : Inv X pins σ H s1 := I.call' (ch := []) m.os ⟨fun b o e _ _ _ => m.heap b o (fun z => by rw [List.mem_singleton.mp z] at e; exact absurd (Heap.lt_size e) (Nat.lt_irrefl _)) (Heap.get?_push_of_some _ e), fun b o e _ _ _ => ⟨o.slots, m.heap b o (fun z => by rw [List.mem_singleton.mp z] at e; exact absurd (Heap.lt_size e) (Nat.lt_irrefl _)) (Heap.get?_push_of_some _ e)⟩,
      fun _ _ _ z _ => z, fun b o e _ => ⟨o, m.heap b o (fun z => by rw [List.mem_singleton.mp z] at e; exact absurd (Heap.lt_size e) (Nat.lt_irrefl _)) (Heap.get?_push_of_some _ e)⟩, fun _ _ z => z, fun _ _ _ z => z, fun _ _ z => ⟨#[], by simpa using z⟩⟩
      (I.hok.kept fun b o e => m.heap b o (fun z => by rw [List.mem_singleton.mp z] at e; exact absurd (Heap.lt_size e) (Nat.lt_irrefl _)) (Heap.get?_push_of_some _ e)) (by rw [show s1.gens = s.gens from m.gens]; exact I.bare) (fun _ z => absurd z (by simp))
    exact ⟨.bl _, H, I2, by rw [hb]; rfl, q⟩
theorem tupsT_ok {μ : List Addr} {H : Hp} : ∀ {xs : List Vl} {vs : List V} {bs : List Bool}, Rvs G μ H xs vs → tupsT xs = some bs → ∃ ps : List (Addr × List V), vs = ps.map (fun p => V.ref p.1) ∧ (∀ p ∈ ps, SqT G.K H p.1 p.2 ∧ p.2.length ≤ sizeLine) ∧ (ps.map fun p => !p.2.isEmpty) = bs
  | _, _, _, .nil, e => by cases e; exact ⟨[], rfl, fun p h => (by cases h), rfl⟩
  | x :: xs, v :: vs, bs, .cons r t, e => by
    cases r <;> first | (unfold tupsT at e; cases e; done) | skip
    rename_i ys us b hb hr
    unfold tupsT at e
    by_cases hz : ys.length ≤ line
    case neg => rw [if_neg hz] at e; cases e
    rw [if_pos hz] at e
    obtain ⟨bs1, h1, rfl⟩ := Option.map_eq_some_iff.mp e
    obtain ⟨ps, e1, e2, e3⟩ := tupsT_ok t h1
    refine ⟨(b, us) :: ps, by rw [e1]; rfl, fun p hp => ?_, ?_⟩
    · rcases List.mem_cons.mp hp with rfl | hp
      · exact ⟨hb, by rw [← hr.length, ← line_eq]; exact hz⟩
      · exact e2 p hp
    · rw [List.map_cons, e3]
      cases hr <;> rfl
theorem am_anyT : AsM G (rAnyT G.K) bAnyT := by
  intro μ H S x v Q EQ rs rx run
  match x, v, rx with
  | [], _, _ => exact run.no rfl
  | _ :: _ :: _, _, _ => exact run.no rfl
  | [x], [v], .cons r .nil =>
    rcases getL_cases x S with h | ⟨xs, h⟩
    · exact run.no (by simp only [bAnyT, bnd, h])
    · obtain ⟨_, a, vs, e1, h1, r1⟩ := getL_ok rs r h
      subst e1
      cases hk : tupsT xs with
      | none => exact run.no (by simp only [bAnyT, bnd, h, hk]; rfl)
      | some bs =>
        obtain ⟨ps, e1, e2, e3⟩ := tupsT_ok r1 hk
        subst e1
        refine ⟨a, ps, rfl, h1, e2, ?_⟩
        rw [show (ps.any fun p => !p.2.isEmpty) = bs.any id by rw [← e3, List.any_map]; rfl]
        exact run.end_ (a := .bl (bs.any id)) (S1 := S) (by simp only [bAnyT, bnd, h, hk]; rfl) μ H _ .refl (.bl _) rs
theorem x_anyT (at_ : At X G W k) (hm : X.mg "any" = none) (ha : PA X (e :: es) (TAs G W fs)) (hgl : Gl X "any" := by rfl) (he : starEach (e :: es) X.env = (false, eval e X.env) :: starEach es X.env := by rfl)
    (hpl : (backTo pos (starEach es X.env)).any (·.1) = false := by rfl) : PE X (.Call (.Name "any" p) (e :: es) [] pos) (T G W (eCall bAnyT fs)) := xe_callB (by have := am_anyT (G := G); rw [at_.K] at this; exact this) (cr_anyT at_.calm) hm (by decide +kernel) ha hgl (by decide) (by decide) he hpl
end
end Tw
end
section
set_option Elab.async false
set_option linter.all false
set_option maxRecDepth 100000
set_option maxHeartbeats 3000000
namespace Tw
open PySem L2
namespace LW
section
variable {P : Program} {w : PySem.World} {K : PySem.W.Frag} {mg : Str → Option Value} {base : Heap} {tabs : List Addr}
def top (i : Nat) : Stmt := PySem.Challenge.pw_twinpurse_k23_least_standings_and_number.main.body.getD i (.Pass ⟨0, 0, 0, 0⟩)
abbrev s_is_integer : Stmt := top 6
theorem sc_is_integer : FnScope ["value"] ["value"] (defScope s_is_integer) := ⟨rfl, rfl, rfl, by decide +kernel, rfl, by decide +kernel, by decide +kernel⟩
noncomputable def b_is_integer : Sv :=
  sRet (eAnd (eCall bIsi (aCons (eVar 0) (aCons (eC (.ty "int")) (aNil)))) (eNot (eCall bIsi (aCons (eVar 0) (aCons (eC (.ty "bool")) (aNil))))))
noncomputable def r_is_integer : List Vl → M Vl := fnM 1 1 b_is_integer
theorem d_is_integer {ad : Addr} {od an : Option Addr} {osl : Array (Option Value)} {kV doc pm cdv ct oc : Value} (hg : mg "is_integer" = some (.ref ad)) (lk : K.lookup ad = some ⟨oc, od, .func (PySem.W.fnOf "is_integer" "is_integer" (defArgs s_is_integer) (defBody s_is_integer) (defScope s_is_integer) .none kV doc pm an cdv ct), osl⟩)
    (hcd : PySem.W.codeIn K cdv "is_integer" = true) (hk : PySem.W.keepIn K (.ref ad) = true) (z_isinstance : mg "isinstance" = none) (z_int : mg "int" = none) (z_bool : mg "bool" = none) : Def P w K mg base tabs 1 "is_integer" ["value"] r_is_integer :=
  ⟨ad, _, hg, hk, .all (fun us hl => match us, hl with | [_], _ => rfl), fn_ok (k := 0) lk hcd sc_is_integer (fun X W A outer s H E hX at_ => by subst hX; exact
    (xs_one (xs_ret (xe_and (x_isi z_isinstance (xa_cons (xe_var 0) (xa_cons (xe_ty z_int (by decide +kernel)) xa_nil))) (xe_one (xe_not (x_isi z_isinstance (xa_cons (xe_var 0) (xa_cons (xe_ty z_bool (by decide +kernel)) xa_nil)))))))))⟩
abbrev s_is_between : Stmt := top 7
theorem sc_is_between : FnScope ["value", "low", "high"] ["value", "low", "high"] (defScope s_is_between) := ⟨rfl, rfl, rfl, by decide +kernel, rfl, by decide +kernel, by decide +kernel⟩
noncomputable def b_is_between : Sv :=
  sRet (eAnd (eCall r_is_integer (aCons (eVar 0) (aNil))) (eChain oLe oLe (eVar 1) (eVar 0) (eVar 2)))
noncomputable def r_is_between : List Vl → M Vl := fnM 3 3 b_is_between
theorem d_is_between {ad : Addr} {od an : Option Addr} {osl : Array (Option Value)} {kV doc pm cdv ct oc : Value} (hg : mg "is_between" = some (.ref ad)) (lk : K.lookup ad = some ⟨oc, od, .func (PySem.W.fnOf "is_between" "is_between" (defArgs s_is_between) (defBody s_is_between) (defScope s_is_between) .none kV doc pm an cdv ct), osl⟩)
    (hcd : PySem.W.codeIn K cdv "is_between" = true) (hk : PySem.W.keepIn K (.ref ad) = true) (D_is_integer : Def P w K mg base tabs 1 "is_integer" ["value"] r_is_integer) : Def P w K mg base tabs 2 "is_between" ["value", "low", "high"] r_is_between :=
  ⟨ad, _, hg, hk, .all (fun us hl => match us, hl with | [_, _, _], _ => rfl), fn_ok (k := 1) lk hcd sc_is_between (fun X W A outer s H E hX at_ => by subst hX; exact
    (xs_one (xs_ret (xe_and (xe_call at_ D_is_integer (by decide) (xa_cons (xe_var 0) xa_nil)) (xe_one (x_lele (xe_var 1) (xe_var 0) (xe_var 2)))))))⟩
abbrev s_is_count : Stmt := top 8
theorem sc_is_count : FnScope ["value"] ["value"] (defScope s_is_count) := ⟨rfl, rfl, rfl, by decide +kernel, rfl, by decide +kernel, by decide +kernel⟩
noncomputable def b_is_count : Sv :=
  sRet (eAnd (eCall r_is_integer (aCons (eVar 0) (aNil))) (eOp oGe (eVar 0) (eC (.int 0))))
noncomputable def r_is_count : List Vl → M Vl := fnM 1 1 b_is_count
theorem d_is_count {ad : Addr} {od an : Option Addr} {osl : Array (Option Value)} {kV doc pm cdv ct oc : Value} (hg : mg "is_count" = some (.ref ad)) (lk : K.lookup ad = some ⟨oc, od, .func (PySem.W.fnOf "is_count" "is_count" (defArgs s_is_count) (defBody s_is_count) (defScope s_is_count) .none kV doc pm an cdv ct), osl⟩)
    (hcd : PySem.W.codeIn K cdv "is_count" = true) (hk : PySem.W.keepIn K (.ref ad) = true) (D_is_integer : Def P w K mg base tabs 1 "is_integer" ["value"] r_is_integer) : Def P w K mg base tabs 2 "is_count" ["value"] r_is_count :=
  ⟨ad, _, hg, hk, .all (fun us hl => match us, hl with | [_], _ => rfl), fn_ok (k := 1) lk hcd sc_is_count (fun X W A outer s H E hX at_ => by subst hX; exact
    (xs_one (xs_ret (xe_and (xe_call at_ D_is_integer (by decide) (xa_cons (xe_var 0) xa_nil)) (xe_one (x_ge (xe_var 0) xe_int))))))⟩
abbrev s_is_tuple_of : Stmt := top 9
theorem sc_is_tuple_of : FnScope ["value", "size"] ["value", "size"] (defScope s_is_tuple_of) := ⟨rfl, rfl, rfl, by decide +kernel, rfl, by decide +kernel, by decide +kernel⟩
noncomputable def b_is_tuple_of : Sv :=
  sRet (eAnd (eCall bIsi (aCons (eVar 0) (aCons (eC (.ty "tuple")) (aNil)))) (eOp oEq (eCall bLen (aCons (eVar 0) (aNil))) (eVar 1)))
noncomputable def r_is_tuple_of : List Vl → M Vl := fnM 2 2 b_is_tuple_of
theorem d_is_tuple_of {ad : Addr} {od an : Option Addr} {osl : Array (Option Value)} {kV doc pm cdv ct oc : Value} (hg : mg "is_tuple_of" = some (.ref ad)) (lk : K.lookup ad = some ⟨oc, od, .func (PySem.W.fnOf "is_tuple_of" "is_tuple_of" (defArgs s_is_tuple_of) (defBody s_is_tuple_of) (defScope s_is_tuple_of) .none kV doc pm an cdv ct), osl⟩)
    (hcd : PySem.W.codeIn K cdv "is_tuple_of" = true) (hk : PySem.W.keepIn K (.ref ad) = true) (z_isinstance : mg "isinstance" = none) (z_tuple : mg "tuple" = none) (z_len : mg "len" = none) : Def P w K mg base tabs 1 "is_tuple_of" ["value", "size"] r_is_tuple_of :=
  ⟨ad, _, hg, hk, .all (fun us hl => match us, hl with | [_, _], _ => rfl), fn_ok (k := 0) lk hcd sc_is_tuple_of (fun X W A outer s H E hX at_ => by subst hX; exact
    (xs_one (xs_ret (xe_and (x_isi z_isinstance (xa_cons (xe_var 0) (xa_cons (xe_ty z_tuple (by decide +kernel)) xa_nil))) (xe_one (x_eq at_ (x_len z_len (xa_cons (xe_var 0) xa_nil)) (xe_var 1)))))))⟩
abbrev s_is_tuple_up_to : Stmt := top 10
theorem sc_is_tuple_up_to : FnScope ["value", "most"] ["value", "most"] (defScope s_is_tuple_up_to) := ⟨rfl, rfl, rfl, by decide +kernel, rfl, by decide +kernel, by decide +kernel⟩
noncomputable def b_is_tuple_up_to : Sv :=
  sRet (eAnd (eCall bIsi (aCons (eVar 0) (aCons (eC (.ty "tuple")) (aNil)))) (eOp oLe (eCall bLen (aCons (eVar 0) (aNil))) (eVar 1)))
noncomputable def r_is_tuple_up_to : List Vl → M Vl := fnM 2 2 b_is_tuple_up_to
theorem d_is_tuple_up_to {ad : Addr} {od an : Option Addr} {osl : Array (Option Value)} {kV doc pm cdv ct oc : Value} (hg : mg "is_tuple_up_to" = some (.ref ad)) (lk : K.lookup ad = some ⟨oc, od, .func (PySem.W.fnOf "is_tuple_up_to" "is_tuple_up_to" (defArgs s_is_tuple_up_to) (defBody s_is_tuple_up_to) (defScope s_is_tuple_up_to) .none kV doc pm an cdv ct), osl⟩)
    (hcd : PySem.W.codeIn K cdv "is_tuple_up_to" = true) (hk : PySem.W.keepIn K (.ref ad) = true) (z_isinstance : mg "isinstance" = none) (z_tuple : mg "tuple" = none) (z_len : mg "len" = none) : Def P w K mg base tabs 1 "is_tuple_up_to" ["value", "most"] r_is_tuple_up_to :=
  ⟨ad, _, hg, hk, .all (fun us hl => match us, hl with | [_, _], _ => rfl), fn_ok (k := 0) lk hcd sc_is_tuple_up_to (fun X W A outer s H E hX at_ => by subst hX; exact
    (xs_one (xs_ret (xe_and (x_isi z_isinstance (xa_cons (xe_var 0) (xa_cons (xe_ty z_tuple (by decide +kernel)) xa_nil))) (xe_one (x_le (x_len z_len (xa_cons (xe_var 0) xa_nil)) (xe_var 1)))))))⟩
abbrev s_are_counts : Stmt := top 11
theorem sc_are_counts : FnScope ["value", "size"] ["value", "size"] (defScope s_are_counts) := ⟨rfl, rfl, rfl, by decide +kernel, rfl, by decide +kernel, by decide +kernel⟩
noncomputable def b_are_counts : Sv :=
  sRet (eAnd (eCall r_is_tuple_of (aCons (eVar 0) (aCons (eVar 1) (aNil)))) (eQuant false (eVar 0) (eCall r_is_count (aCons (eVar 2) (aNil)))))
noncomputable def r_are_counts : List Vl → M Vl := fnM 2 2 b_are_counts
theorem d_are_counts {ac Pt : Addr} {ad : Addr} {od an : Option Addr} {osl : Array (Option Value)} {kV doc pm ct oc : Value} (hg : mg "are_counts" = some (.ref ad)) (lk : K.lookup ad = some ⟨oc, od, .func (PySem.W.fnOf "are_counts" "are_counts" (defArgs s_are_counts) (defBody s_are_counts) (defScope s_are_counts) .none kV doc pm an (.ref ac) ct), osl⟩)
    (hcd : PySem.W.codeIn K (.ref ac) "are_counts" = true) (hk : PySem.W.keepIn K (.ref ad) = true) (D_is_tuple_of : Def P w K mg base tabs 1 "is_tuple_of" ["value", "size"] r_is_tuple_of) (D_is_count : Def P w K mg base tabs 2 "is_count" ["value"] r_is_count) (z_all : mg "all" = none) (TB : GxR.TabB base mg ac Pt) (hP : Pt ∈ tabs) : Def P w K mg base tabs 4 "are_counts" ["value", "size"] r_are_counts :=
  ⟨ad, _, hg, hk, .all (fun us hl => match us, hl with | [_, _], _ => rfl), fn_ok (k := 3) lk hcd sc_are_counts (fun X W A outer s H E hX at_ => by subst hX; exact
    (xs_one (xs_ret (xe_and (xe_call at_ D_is_tuple_of (by decide) (xa_cons (xe_var 0) (xa_cons (xe_var 1) xa_nil))) (xe_one (x_all (by first | rfl | kernel_rfl) at_ z_all TB hP rfl (xe_var 0) (fun X1 _ _ _ hx at1 => by obtain ⟨sc, Hc, cl, C, code, bi, Ao, pn, fp, rfl⟩ := hx; exact (xe_call at1 D_is_count (by decide) (xa_cons (xe_var 2) xa_nil)))))))))⟩
abbrev s_turn_of : Stmt := top 18
theorem sc_turn_of : FnScope ["ray", "other"] ["ray", "other"] (defScope s_turn_of) := ⟨rfl, rfl, rfl, by decide +kernel, rfl, by decide +kernel, by decide +kernel⟩
noncomputable def b_turn_of : Sv :=
  sRet (eOp oSub (eOp oMulA (eOp oIx (eVar 0) (eC (.int 0))) (eOp oIx (eVar 1) (eC (.int 1)))) (eOp oMulA (eOp oIx (eVar 0) (eC (.int 1))) (eOp oIx (eVar 1) (eC (.int 0)))))
noncomputable def r_turn_of : List Vl → M Vl := fnM 2 2 b_turn_of
theorem d_turn_of {ad : Addr} {od an : Option Addr} {osl : Array (Option Value)} {kV doc pm cdv ct oc : Value} (hg : mg "turn_of" = some (.ref ad)) (lk : K.lookup ad = some ⟨oc, od, .func (PySem.W.fnOf "turn_of" "turn_of" (defArgs s_turn_of) (defBody s_turn_of) (defScope s_turn_of) .none kV doc pm an cdv ct), osl⟩)
    (hcd : PySem.W.codeIn K cdv "turn_of" = true) (hk : PySem.W.keepIn K (.ref ad) = true) : Def P w K mg base tabs 1 "turn_of" ["ray", "other"] r_turn_of :=
  ⟨ad, _, hg, hk, .all (fun us hl => match us, hl with | [_, _], _ => rfl), fn_ok (k := 0) lk hcd sc_turn_of (fun X W A outer s H E hX at_ => by subst hX; exact
    (xs_one (xs_ret (x_sub (x_mulA (xe_ix (xe_var 0) xe_int) (xe_ix (xe_var 1) xe_int)) (x_mulA (xe_ix (xe_var 0) xe_int) (xe_ix (xe_var 1) xe_int))))))⟩
abbrev s__is_ray : Stmt := top 19
theorem sc__is_ray : FnScope ["ray"] ["ray"] (defScope s__is_ray) := ⟨rfl, rfl, rfl, by decide +kernel, rfl, by decide +kernel, by decide +kernel⟩
noncomputable def b__is_ray : Sv :=
  sRet (eAnd (eCall r_are_counts (aCons (eVar 0) (aCons (eC (.int 2)) (aNil)))) (eOp oNe (eVar 0) (eTup (aCons (eC (.int 0)) (aCons (eC (.int 0)) (aNil))))))
noncomputable def r__is_ray : List Vl → M Vl := fnM 1 1 b__is_ray
theorem d__is_ray {ad : Addr} {od an : Option Addr} {osl : Array (Option Value)} {kV doc pm cdv ct oc : Value} (hg : mg "_is_ray" = some (.ref ad)) (lk : K.lookup ad = some ⟨oc, od, .func (PySem.W.fnOf "_is_ray" "_is_ray" (defArgs s__is_ray) (defBody s__is_ray) (defScope s__is_ray) .none kV doc pm an cdv ct), osl⟩)
    (hcd : PySem.W.codeIn K cdv "_is_ray" = true) (hk : PySem.W.keepIn K (.ref ad) = true) (D_are_counts : Def P w K mg base tabs 4 "are_counts" ["value", "size"] r_are_counts) : Def P w K mg base tabs 5 "_is_ray" ["ray"] r__is_ray :=
  ⟨ad, _, hg, hk, .all (fun us hl => match us, hl with | [_], _ => rfl), fn_ok (k := 4) lk hcd sc__is_ray (fun X W A outer s H E hX at_ => by subst hX; exact
    (xs_one (xs_ret (xe_and (xe_call at_ D_are_counts (by decide) (xa_cons (xe_var 0) (xa_cons xe_int xa_nil))) (xe_one (x_ne at_ (xe_var 0) (xe_tup (xa_cons xe_int (xa_cons xe_int xa_nil)))))))))⟩
abbrev s_is_fan : Stmt := top 16
theorem sc_is_fan : FnScope ["fan", "room", "base", "rays"] ["fan"] (defScope s_is_fan) := ⟨rfl, rfl, rfl, by decide +kernel, rfl, by decide +kernel, by decide +kernel⟩
noncomputable def b_is_fan : Sv :=
  sSeq (sIf (tNot (tVal (eCall r_is_tuple_of (aCons (eVar 0) (aCons (eC (.int 3)) (aNil)))))) (sRet (eC (.bl false))) (sNext))
  (sSeq (sAsg (eVar 0) (gPair 3 (gsCons (gSlot 1) (gsCons (gSlot 2) (gsCons (gSlot 3) (gsNil))))))
  (sSeq (sIf (tOr (tNot (tVal (eCall r_is_between (aCons (eVar 1) (aCons (eC (.int 0)) (aCons (eOp oSub (eC (.int 3)) (eC (.int 1))) (aNil))))))) (tNot (tVal (eCall r_are_counts (aCons (eVar 2) (aCons (eC (.int 2)) (aNil))))))) (sRet (eC (.bl false))) (sNext))
  (sSeq (sIf (tOr (tNot (tVal (eCall r_is_tuple_up_to (aCons (eVar 3) (aCons (eC (.int 2)) (aNil)))))) (tNot (tVal (eQuant false (eVar 3) (eCall r__is_ray (aCons (eVar 4) (aNil))))))) (sRet (eC (.bl false))) (sNext))
  (sRet (eOr (eOp oLt (eCall bLen (aCons (eVar 3) (aNil))) (eC (.int 2))) (eOp oNe (eCall r_turn_of (aCons (eOp oIx (eVar 3) (eC (.int 0))) (aCons (eOp oIx (eVar 3) (eC (.int 1))) (aNil)))) (eC (.int 0))))))))
noncomputable def r_is_fan : List Vl → M Vl := fnM 1 4 b_is_fan
theorem d_is_fan {ac Pt : Addr} {ad : Addr} {od an : Option Addr} {osl : Array (Option Value)} {kV doc pm ct oc : Value} (hg : mg "is_fan" = some (.ref ad)) (lk : K.lookup ad = some ⟨oc, od, .func (PySem.W.fnOf "is_fan" "is_fan" (defArgs s_is_fan) (defBody s_is_fan) (defScope s_is_fan) .none kV doc pm an (.ref ac) ct), osl⟩)
    (hcd : PySem.W.codeIn K (.ref ac) "is_fan" = true) (hk : PySem.W.keepIn K (.ref ad) = true) (D_is_tuple_of : Def P w K mg base tabs 1 "is_tuple_of" ["value", "size"] r_is_tuple_of) (D_is_between : Def P w K mg base tabs 2 "is_between" ["value", "low", "high"] r_is_between) (D_are_counts : Def P w K mg base tabs 4 "are_counts" ["value", "size"] r_are_counts) (D_is_tuple_up_to : Def P w K mg base tabs 1 "is_tuple_up_to" ["value", "most"] r_is_tuple_up_to) (D__is_ray : Def P w K mg base tabs 5 "_is_ray" ["ray"] r__is_ray) (D_turn_of : Def P w K mg base tabs 1 "turn_of" ["ray", "other"] r_turn_of) (z_all : mg "all" = none) (z_len : mg "len" = none) {t_MOST_ROOMS : Tok} (c_MOST_ROOMS : mg "MOST_ROOMS" = some (.int 3 t_MOST_ROOMS)) {t_MOST_RAYS : Tok} (c_MOST_RAYS : mg "MOST_RAYS" = some (.int 2 t_MOST_RAYS)) (TB : GxR.TabB base mg ac Pt) (hP : Pt ∈ tabs) : Def P w K mg base tabs 7 "is_fan" ["fan"] r_is_fan :=
  ⟨ad, _, hg, hk, .all (fun us hl => match us, hl with | [_], _ => rfl), fn_ok (k := 6) lk hcd sc_is_fan (fun X W A outer s H E hX at_ => by subst hX; exact
    (xs_cons (xs_if (xt_not (xt_val (xe_call at_ D_is_tuple_of (by decide) (xa_cons (xe_var 0) (xa_cons xe_int xa_nil))))) (xs_one (xs_ret xe_bl)) xs_nil)
  (xs_cons (xs_asg (xe_var 0) (xg_pair rfl at_.calm (xgs_cons (xg_slot 1 at_.nd) (xgs_cons (xg_slot 2 at_.nd) (xgs_cons (xg_slot 3 at_.nd) xgs_nil)))))
  (xs_cons (xs_if (xw_or (xt_not (xt_val (xe_call at_ D_is_between (by decide) (xa_cons (xe_var 1) (xa_cons xe_int (xa_cons (x_sub (xe_gint c_MOST_ROOMS) xe_int) xa_nil)))))) (xw_or1 (xt_not (xt_val (xe_call at_ D_are_counts (by decide) (xa_cons (xe_var 2) (xa_cons xe_int xa_nil))))))).pt (xs_one (xs_ret xe_bl)) xs_nil)
  (xs_cons (xs_if (xw_or (xt_not (xt_val (xe_call at_ D_is_tuple_up_to (by decide) (xa_cons (xe_var 3) (xa_cons (xe_gint c_MOST_RAYS) xa_nil))))) (xw_or1 (xt_not (xt_val (x_all (by first | rfl | kernel_rfl) at_ z_all TB hP rfl (xe_var 3) (fun X1 _ _ _ hx at1 => by obtain ⟨sc, Hc, cl, C, code, bi, Ao, pn, fp, rfl⟩ := hx; exact (xe_call at1 D__is_ray (by decide) (xa_cons (xe_var 4) xa_nil)))))))).pt (xs_one (xs_ret xe_bl)) xs_nil)
  (xs_one (xs_ret (xe_or (x_lt (x_len z_len (xa_cons (xe_var 3) xa_nil)) (xe_gint c_MOST_RAYS)) (xe_one (x_ne at_ (xe_call at_ D_turn_of (by decide) (xa_cons (xe_ix (xe_var 3) xe_int) (xa_cons (xe_ix (xe_var 3) xe_int) xa_nil))) xe_int))))))))))⟩
abbrev s_is_lot : Stmt := top 17
theorem sc_is_lot : FnScope ["lot"] ["lot"] (defScope s_is_lot) := ⟨rfl, rfl, rfl, by decide +kernel, rfl, by decide +kernel, by decide +kernel⟩
noncomputable def b_is_lot : Sv :=
  sRet (eAnd (eCall bIsi (aCons (eVar 0) (aCons (eC (.ty "list")) (aNil)))) (eQuant false (eVar 0) (eCall r_is_fan (aCons (eVar 1) (aNil)))))
noncomputable def r_is_lot : List Vl → M Vl := fnM 1 1 b_is_lot
theorem d_is_lot {ac Pt : Addr} {ad : Addr} {od an : Option Addr} {osl : Array (Option Value)} {kV doc pm ct oc : Value} (hg : mg "is_lot" = some (.ref ad)) (lk : K.lookup ad = some ⟨oc, od, .func (PySem.W.fnOf "is_lot" "is_lot" (defArgs s_is_lot) (defBody s_is_lot) (defScope s_is_lot) .none kV doc pm an (.ref ac) ct), osl⟩)
    (hcd : PySem.W.codeIn K (.ref ac) "is_lot" = true) (hk : PySem.W.keepIn K (.ref ad) = true) (D_is_fan : Def P w K mg base tabs 7 "is_fan" ["fan"] r_is_fan) (z_isinstance : mg "isinstance" = none) (z_list : mg "list" = none) (z_all : mg "all" = none) (TB : GxR.TabB base mg ac Pt) (hP : Pt ∈ tabs) : Def P w K mg base tabs 9 "is_lot" ["lot"] r_is_lot :=
  ⟨ad, _, hg, hk, .all (fun us hl => match us, hl with | [_], _ => rfl), fn_ok (k := 8) lk hcd sc_is_lot (fun X W A outer s H E hX at_ => by subst hX; exact
    (xs_one (xs_ret (xe_and (x_isi z_isinstance (xa_cons (xe_var 0) (xa_cons (xe_ty z_list (by decide +kernel)) xa_nil))) (xe_one (x_all (by first | rfl | kernel_rfl) at_ z_all TB hP rfl (xe_var 0) (fun X1 _ _ _ hx at1 => by obtain ⟨sc, Hc, cl, C, code, bi, Ao, pn, fp, rfl⟩ := hx; exact (xe_call at1 D_is_fan (by decide) (xa_cons (xe_var 1) xa_nil)))))))))⟩
abbrev s_check_lot : Stmt := top 15
theorem sc_check_lot : FnScope ["lot"] ["lot"] (defScope s_check_lot) := ⟨rfl, rfl, rfl, by decide +kernel, rfl, by decide +kernel, by decide +kernel⟩
noncomputable def b_check_lot : Sv :=
  sIf (tNot (tVal (eCall r_is_lot (aCons (eVar 0) (aNil))))) (sRaise "BadFan") (sNext)
noncomputable def r_check_lot : List Vl → M Vl := fnM 1 1 b_check_lot
theorem d_check_lot {ad : Addr} {od an : Option Addr} {osl : Array (Option Value)} {kV doc pm cdv ct oc : Value} (hg : mg "check_lot" = some (.ref ad)) (lk : K.lookup ad = some ⟨oc, od, .func (PySem.W.fnOf "check_lot" "check_lot" (defArgs s_check_lot) (defBody s_check_lot) (defScope s_check_lot) .none kV doc pm an cdv ct), osl⟩)
    (hcd : PySem.W.codeIn K cdv "check_lot" = true) (hk : PySem.W.keepIn K (.ref ad) = true) (D_is_lot : Def P w K mg base tabs 9 "is_lot" ["lot"] r_is_lot) {e_BadFan : Addr} (x_BadFan : XFact K mg "BadFan" e_BadFan) : Def P w K mg base tabs 10 "check_lot" ["lot"] r_check_lot :=
  ⟨ad, _, hg, hk, .all (fun us hl => match us, hl with | [_], _ => rfl), fn_ok (k := 9) lk hcd sc_check_lot (fun X W A outer s H E hX at_ => by subst hX; exact
    (xs_one (xs_if (xt_not (xt_val (xe_call at_ D_is_lot (by decide) (xa_cons (xe_var 0) xa_nil)))) (xs_one (xs_raise at_ PySem.F.excBase_ValueError x_BadFan.1 x_BadFan.2.1 x_BadFan.2.2.1 (raises_own x_BadFan.2.2.2.1 x_BadFan.2.2.2.2))) xs_nil)))⟩
abbrev s_order_of : Stmt := top 22
theorem sc_order_of : FnScope ["standing", "room", "first", "second"] ["standing"] (defScope s_order_of) := ⟨rfl, rfl, rfl, by decide +kernel, rfl, by decide +kernel, by decide +kernel⟩
noncomputable def b_order_of : Sv :=
  sSeq (sAsg (eVar 0) (gPair 3 (gsCons (gSlot 1) (gsCons (gSlot 2) (gsCons (gSlot 3) (gsNil))))))
  (sRet (eTup (aCons (eOp oAdd (eVar 2) (eVar 3)) (aCons (eVar 2) (aCons (eVar 1) (aNil))))))
noncomputable def r_order_of : List Vl → M Vl := fnM 1 4 b_order_of
theorem d_order_of {ad : Addr} {od an : Option Addr} {osl : Array (Option Value)} {kV doc pm cdv ct oc : Value} (hg : mg "order_of" = some (.ref ad)) (lk : K.lookup ad = some ⟨oc, od, .func (PySem.W.fnOf "order_of" "order_of" (defArgs s_order_of) (defBody s_order_of) (defScope s_order_of) .none kV doc pm an cdv ct), osl⟩)
    (hcd : PySem.W.codeIn K cdv "order_of" = true) (hk : PySem.W.keepIn K (.ref ad) = true) : Def P w K mg base tabs 1 "order_of" ["standing"] r_order_of :=
  ⟨ad, _, hg, hk, .all (fun us hl => match us, hl with | [_], _ => rfl), fn_ok (k := 0) lk hcd sc_order_of (fun X W A outer s H E hX at_ => by subst hX; exact
    (xs_cons (xs_asg (xe_var 0) (xg_pair rfl at_.calm (xgs_cons (xg_slot 1 at_.nd) (xgs_cons (xg_slot 2 at_.nd) (xgs_cons (xg_slot 3 at_.nd) xgs_nil)))))
  (xs_one (xs_ret (xe_tup (xa_cons (x_add (xe_var 2) (xe_var 3)) (xa_cons (xe_var 2) (xa_cons (xe_var 1) xa_nil))))))))⟩
abbrev s_least_in : Stmt := top 21
theorem sc_least_in : FnScope ["fans", "room", "base", "_"] ["fans"] (defScope s_least_in) := ⟨rfl, rfl, rfl, by decide +kernel, rfl, by decide +kernel, by decide +kernel⟩
noncomputable def b_least_in : Sv :=
  sRet (eMinK r_order_of (eCompW (vSeq (eVar 0)) (gPair 3 (gsNames [1, 2, 3])) (tTrue) (eTup (aCons (eVar 1) (aStar (eVar 2) (aNil))))) (eC .non))
noncomputable def r_least_in : List Vl → M Vl := fnM 1 4 b_least_in
theorem d_least_in {ad : Addr} {od an : Option Addr} {osl : Array (Option Value)} {kV doc pm cdv ct oc : Value} (hg : mg "least_in" = some (.ref ad)) (lk : K.lookup ad = some ⟨oc, od, .func (PySem.W.fnOf "least_in" "least_in" (defArgs s_least_in) (defBody s_least_in) (defScope s_least_in) .none kV doc pm an cdv ct), osl⟩)
    (hcd : PySem.W.codeIn K cdv "least_in" = true) (hk : PySem.W.keepIn K (.ref ad) = true) (D_order_of : Def P w K mg base tabs 1 "order_of" ["standing"] r_order_of) (z_min : mg "min" = none) : Def P w K mg base tabs 4 "least_in" ["fans"] r_least_in :=
  ⟨ad, _, hg, hk, .all (fun us hl => match us, hl with | [_], _ => rfl), fn_ok (k := 3) lk hcd sc_least_in (fun X W A outer s H E hX at_ => by subst hX; exact
    (xs_one (xs_ret (x_minK at_ D_order_of (by decide) z_min (x_compW at_ [("room", 1), ("base", 2), ("_", 3)] (by first | rfl | kernel_rfl) (xv_seq at_.K (xe_var 0)) (ownT_tup at_.K 3 [1, 2, 3]) (fun _ _ _ _ _ => pg_tup at_.calm (pgs_cons (pg_name at_.nd rfl (Or.inl rfl) (.inr rfl)) (pgs_cons (pg_name at_.nd rfl (Or.inl rfl) (.inr rfl)) (pgs_cons (pg_name at_.nd rfl (Or.inl rfl) (.inr rfl)) pgs_nil)))) (fun Y atc1 hY => by obtain ⟨s1, H1, C1, cl1, fp1, rfl⟩ := hY; exact xts_nil) (fun Y atc1 hY => by obtain ⟨s1, H1, C1, cl1, fp1, rfl⟩ := hY; exact (xe_tup (xa_cons (xe_var 1) (xa_star atc1 (xe_var 2) xa_nil))))) (let ⟨_, _, hm, _⟩ := D_order_of; xe_fn rfl hm) xe_non))))⟩
abbrev s_grain_of : Stmt := top 32
theorem sc_grain_of : FnScope ["fan", "rays"] ["fan"] (defScope s_grain_of) := ⟨rfl, rfl, rfl, by decide +kernel, rfl, by decide +kernel, by decide +kernel⟩
noncomputable def b_grain_of : Sv :=
  sSeq (sSet 1 (eOp oIx (eVar 0) (eC (.int 2))))
  (sSeq (sIf (tVal (eOp oEq (eCall bLen (aCons (eVar 1) (aNil))) (eC (.int 2)))) (sRet (eCall bAbs (aCons (eCall r_turn_of (aCons (eOp oIx (eVar 1) (eC (.int 0))) (aCons (eOp oIx (eVar 1) (eC (.int 1))) (aNil)))) (aNil)))) (sNext))
  (sRet (eIf (tTru (eVar 1)) (eCall bGcd (aCons (eOp oIx (eOp oIx (eVar 1) (eC (.int 0))) (eC (.int 0))) (aCons (eOp oIx (eOp oIx (eVar 1) (eC (.int 0))) (eC (.int 1))) (aNil)))) (eC (.int 1)))))
noncomputable def r_grain_of : List Vl → M Vl := fnM 1 2 b_grain_of
theorem d_grain_of {ad : Addr} {od an : Option Addr} {osl : Array (Option Value)} {kV doc pm cdv ct oc : Value} (hg : mg "grain_of" = some (.ref ad)) (lk : K.lookup ad = some ⟨oc, od, .func (PySem.W.fnOf "grain_of" "grain_of" (defArgs s_grain_of) (defBody s_grain_of) (defScope s_grain_of) .none kV doc pm an cdv ct), osl⟩)
    (hcd : PySem.W.codeIn K cdv "grain_of" = true) (hk : PySem.W.keepIn K (.ref ad) = true) (D_turn_of : Def P w K mg base tabs 1 "turn_of" ["ray", "other"] r_turn_of) (z_len : mg "len" = none) (z_abs : mg "abs" = none) (gf_gcd : mg "gcd" = some (.builtin "math.gcd")) : Def P w K mg base tabs 2 "grain_of" ["fan"] r_grain_of :=
  ⟨ad, _, hg, hk, .all (fun us hl => match us, hl with | [_], _ => rfl), fn_ok (k := 1) lk hcd sc_grain_of (fun X W A outer s H E hX at_ => by subst hX; exact
    (xs_cons (xs_set 1 at_.nd (xe_ix (xe_var 0) xe_int))
  (xs_cons (xs_if (xt_eq at_ (x_len z_len (xa_cons (xe_var 1) xa_nil)) xe_int) (xs_one (xs_ret (x_abs z_abs (xa_cons (xe_call at_ D_turn_of (by decide) (xa_cons (xe_ix (xe_var 1) xe_int) (xa_cons (xe_ix (xe_var 1) xe_int) xa_nil))) xa_nil)))) xs_nil)
  (xs_one (xs_ret (xe_if (xt_tru at_.K (xe_var 1)) (x_gcd gf_gcd (xa_cons (xe_ix (xe_ix (xe_var 1) xe_int) xe_int) (xa_cons (xe_ix (xe_ix (xe_var 1) xe_int) xe_int) xa_nil))) xe_int))))))⟩
abbrev s__is_beyond : Stmt := top 33
theorem sc__is_beyond : FnScope ["fan", "_", "base", "rays", "ray"] ["fan"] (defScope s__is_beyond) := ⟨rfl, rfl, rfl, by decide +kernel, rfl, by decide +kernel, by decide +kernel⟩
noncomputable def b__is_beyond : Sv :=
  sSeq (sAsg (eVar 0) (gPair 3 (gsCons (gSlot 1) (gsCons (gSlot 2) (gsCons (gSlot 3) (gsNil))))))
  (sRet (eOr (eOp oGt (eCall (bBestS maxL) (aCons (eVar 2) (aNil))) (eC (.int 12))) (eCall bAny (aCons (eComp (wSeq (eVar 3)) 4 (tTrue) (eOp oGt (eCall (bBestS maxL) (aCons (eVar 4) (aNil))) (eC (.int 4)))) (aNil)))))
noncomputable def r__is_beyond : List Vl → M Vl := fnM 1 5 b__is_beyond
theorem d__is_beyond {ad : Addr} {od an : Option Addr} {osl : Array (Option Value)} {kV doc pm cdv ct oc : Value} (hg : mg "_is_beyond" = some (.ref ad)) (lk : K.lookup ad = some ⟨oc, od, .func (PySem.W.fnOf "_is_beyond" "_is_beyond" (defArgs s__is_beyond) (defBody s__is_beyond) (defScope s__is_beyond) .none kV doc pm an cdv ct), osl⟩)
    (hcd : PySem.W.codeIn K cdv "_is_beyond" = true) (hk : PySem.W.keepIn K (.ref ad) = true) (z_max : mg "max" = none) (z_any : mg "any" = none) {t_MOST_IN_BASE : Tok} (c_MOST_IN_BASE : mg "MOST_IN_BASE" = some (.int 12 t_MOST_IN_BASE)) {t_MOST_IN_RAY : Tok} (c_MOST_IN_RAY : mg "MOST_IN_RAY" = some (.int 4 t_MOST_IN_RAY)) : Def P w K mg base tabs 1 "_is_beyond" ["fan"] r__is_beyond :=
  ⟨ad, _, hg, hk, .all (fun us hl => match us, hl with | [_], _ => rfl), fn_ok (k := 0) lk hcd sc__is_beyond (fun X W A outer s H E hX at_ => by subst hX; exact
    (xs_cons (xs_asg (xe_var 0) (xg_pair rfl at_.calm (xgs_cons (xg_slot 1 at_.nd) (xgs_cons (xg_slot 2 at_.nd) (xgs_cons (xg_slot 3 at_.nd) xgs_nil)))))
  (xs_one (xs_ret (xe_or (x_gt (x_maxS at_ z_max (xa_cons (xe_var 2) xa_nil)) (xe_gint c_MOST_IN_BASE)) (xe_one (x_any1 at_ z_any (xa_cons (x_comp at_ (by first | rfl | kernel_rfl) (xi_seq at_.K (xe_var 3)) rfl (fun _ _ => rfl) (fun Y atc1 hY => by obtain ⟨s1, H1, C1, cl1, fp1, rfl⟩ := hY; exact xts_nil) (fun Y atc1 hY => by obtain ⟨s1, H1, C1, cl1, fp1, rfl⟩ := hY; exact (x_gt (x_maxS atc1 z_max (xa_cons (xe_var 4) xa_nil)) (xe_gint c_MOST_IN_RAY)))) xa_nil))))))))⟩
abbrev s_check_size : Stmt := top 31
theorem sc_check_size : FnScope ["lots", "common", "lot", "fan"] ["lots"] (defScope s_check_size) := ⟨rfl, rfl, rfl, by decide +kernel, rfl, by decide +kernel, by decide +kernel⟩
noncomputable def b_check_size : Sv :=
  sSeq (sSet 1 (eC (.int 1)))
  (sSeq (sFor (eVar 0) (gSlot 2) (sSeq (sIf (tOr (tVal (eOp oGt (eCall bLen (aCons (eVar 2) (aNil))) (eC (.int 4)))) (tVal (eCall bAny (aCons (eComp (wSeq (eVar 2)) 3 (tTrue) (eCall r__is_beyond (aCons (eVar 3) (aNil)))) (aNil))))) (sRaise "TooLarge") (sNext))
  (sFor (eVar 2) (gSlot 3) (sSet 1 (eCall bLcm (aCons (eVar 1) (aCons (eCall r_grain_of (aCons (eVar 3) (aNil))) (aNil))))))))
  (sIf (tVal (eOp oGt (eVar 1) (eC (.int 6)))) (sRaise "TooLarge") (sNext)))
noncomputable def r_check_size : List Vl → M Vl := fnM 1 4 b_check_size
theorem d_check_size {ad : Addr} {od an : Option Addr} {osl : Array (Option Value)} {kV doc pm cdv ct oc : Value} (hg : mg "check_size" = some (.ref ad)) (lk : K.lookup ad = some ⟨oc, od, .func (PySem.W.fnOf "check_size" "check_size" (defArgs s_check_size) (defBody s_check_size) (defScope s_check_size) .none kV doc pm an cdv ct), osl⟩)
    (hcd : PySem.W.codeIn K cdv "check_size" = true) (hk : PySem.W.keepIn K (.ref ad) = true) (D__is_beyond : Def P w K mg base tabs 1 "_is_beyond" ["fan"] r__is_beyond) (D_grain_of : Def P w K mg base tabs 2 "grain_of" ["fan"] r_grain_of) (z_len : mg "len" = none) (z_any : mg "any" = none) {t_MOST_FANS : Tok} (c_MOST_FANS : mg "MOST_FANS" = some (.int 4 t_MOST_FANS)) {t_MOST_COMMON_GRAIN : Tok} (c_MOST_COMMON_GRAIN : mg "MOST_COMMON_GRAIN" = some (.int 6 t_MOST_COMMON_GRAIN)) (gf_lcm : mg "lcm" = some (.builtin "math.lcm")) {e_TooLarge : Addr} (x_TooLarge : XFact K mg "TooLarge" e_TooLarge) : Def P w K mg base tabs 3 "check_size" ["lots"] r_check_size :=
  ⟨ad, _, hg, hk, .all (fun us hl => match us, hl with | [_], _ => rfl), fn_ok (k := 2) lk hcd sc_check_size (fun X W A outer s H E hX at_ => by subst hX; exact
    (xs_cons (xs_set 1 at_.nd xe_int)
  (xs_cons (xs_for at_ (xe_var 0) (xg_slot 2 at_.nd) (xs_cons (xs_if (xw_or (xt_gt (x_len z_len (xa_cons (xe_var 2) xa_nil)) (xe_gint c_MOST_FANS)) (xw_or1 (xt_val (x_any1 at_ z_any (xa_cons (x_comp at_ (by first | rfl | kernel_rfl) (xi_seq at_.K (xe_var 2)) rfl (fun _ _ => rfl) (fun Y atc1 hY => by obtain ⟨s1, H1, C1, cl1, fp1, rfl⟩ := hY; exact xts_nil) (fun Y atc1 hY => by obtain ⟨s1, H1, C1, cl1, fp1, rfl⟩ := hY; exact (xe_call atc1 D__is_beyond (by decide) (xa_cons (xe_var 3) xa_nil)))) xa_nil))))).pt (xs_one (xs_raise at_ PySem.F.excBase_ValueError x_TooLarge.1 x_TooLarge.2.1 x_TooLarge.2.2.1 (raises_own x_TooLarge.2.2.2.1 x_TooLarge.2.2.2.2))) xs_nil)
  (xs_one (xs_for at_ (xe_var 2) (xg_slot 3 at_.nd) (xs_one (xs_set 1 at_.nd (x_lcm gf_lcm (xa_cons (xe_var 1) (xa_cons (xe_call at_ D_grain_of (by decide) (xa_cons (xe_var 3) xa_nil)) xa_nil)))))))))
  (xs_one (xs_if (xt_gt (xe_var 1) (xe_gint c_MOST_COMMON_GRAIN)) (xs_one (xs_raise at_ PySem.F.excBase_ValueError x_TooLarge.1 x_TooLarge.2.1 x_TooLarge.2.2.1 (raises_own x_TooLarge.2.2.2.1 x_TooLarge.2.2.2.2))) xs_nil)))))⟩
abbrev s_least : Stmt := top 28
theorem sc_least : FnScope ["lot"] ["lot"] (defScope s_least) := ⟨rfl, rfl, rfl, by decide +kernel, rfl, by decide +kernel, by decide +kernel⟩
noncomputable def b_least : Sv :=
  sSeq (sExpr (eCall r_check_lot (aCons (eVar 0) (aNil))))
  (sSeq (sExpr (eCall r_check_size (aCons (eLst (aCons (eVar 0) (aNil))) (aNil))))
  (sRet (eCall r_least_in (aCons (eVar 0) (aNil)))))
noncomputable def r_least : List Vl → M Vl := fnM 1 1 b_least
theorem d_least {ad : Addr} {od an : Option Addr} {osl : Array (Option Value)} {kV doc pm cdv ct oc : Value} (hg : mg "least" = some (.ref ad)) (lk : K.lookup ad = some ⟨oc, od, .func (PySem.W.fnOf "least" "least" (defArgs s_least) (defBody s_least) (defScope s_least) .none kV doc pm an cdv ct), osl⟩)
    (hcd : PySem.W.codeIn K cdv "least" = true) (hk : PySem.W.keepIn K (.ref ad) = true) (D_check_lot : Def P w K mg base tabs 10 "check_lot" ["lot"] r_check_lot) (D_check_size : Def P w K mg base tabs 3 "check_size" ["lots"] r_check_size) (D_least_in : Def P w K mg base tabs 4 "least_in" ["fans"] r_least_in) : Def P w K mg base tabs 11 "least" ["lot"] r_least :=
  ⟨ad, _, hg, hk, .all (fun us hl => match us, hl with | [_], _ => rfl), fn_ok (k := 10) lk hcd sc_least (fun X W A outer s H E hX at_ => by subst hX; exact
    (xs_cons (xs_expr (xe_call at_ D_check_lot (by decide) (xa_cons (xe_var 0) xa_nil)))
  (xs_cons (xs_expr (xe_call at_ D_check_size (by decide) (xa_cons (xe_lst (xa_cons (xe_var 0) xa_nil)) xa_nil)))
  (xs_one (xs_ret (xe_call at_ D_least_in (by decide) (xa_cons (xe_var 0) xa_nil)))))))⟩
abbrev s_number_in : Stmt := top 30
theorem sc_number_in : FnScope ["fans", "fan", "room", "base", "_"] ["fans"] (defScope s_number_in) := ⟨rfl, rfl, rfl, by decide +kernel, rfl, by decide +kernel, by decide +kernel⟩
noncomputable def b_number_in : Sv :=
  sSeq (sIf (tVal (eCall bAnyT (aCons (eComp (wSeq (eVar 0)) 1 (tTrue) (eOp oIx (eVar 1) (eC (.int 2)))) (aNil)))) (sRet (eC .non)) (sNext))
  (sRet (eLenSetC (vSeq (eVar 0)) (gPair 3 (gsNames [2, 3, 4])) (eTup (aCons (eVar 2) (aCons (eVar 3) (aNil))))))
noncomputable def r_number_in : List Vl → M Vl := fnM 1 5 b_number_in
theorem d_number_in {ad : Addr} {od an : Option Addr} {osl : Array (Option Value)} {kV doc pm cdv ct oc : Value} (hg : mg "number_in" = some (.ref ad)) (lk : K.lookup ad = some ⟨oc, od, .func (PySem.W.fnOf "number_in" "number_in" (defArgs s_number_in) (defBody s_number_in) (defScope s_number_in) .none kV doc pm an cdv ct), osl⟩)
    (hcd : PySem.W.codeIn K cdv "number_in" = true) (hk : PySem.W.keepIn K (.ref ad) = true) (z_any : mg "any" = none) (z_len : mg "len" = none) : Def P w K mg base tabs 3 "number_in" ["fans"] r_number_in :=
  ⟨ad, _, hg, hk, .all (fun us hl => match us, hl with | [_], _ => rfl), fn_ok (k := 2) lk hcd sc_number_in (fun X W A outer s H E hX at_ => by subst hX; exact
    (xs_cons (xs_if (xt_val (x_anyT at_ z_any (xa_cons (x_comp at_ (by first | rfl | kernel_rfl) (xi_seq at_.K (xe_var 0)) rfl (fun _ _ => rfl) (fun Y atc1 hY => by obtain ⟨s1, H1, C1, cl1, fp1, rfl⟩ := hY; exact xts_nil) (fun Y atc1 hY => by obtain ⟨s1, H1, C1, cl1, fp1, rfl⟩ := hY; exact (xe_ix (xe_var 1) xe_int))) xa_nil))) (xs_one (xs_ret xe_non)) xs_nil)
  (xs_one (xs_ret (x_lenSetC at_ [("room", 2), ("base", 3), ("_", 4)] (by first | rfl | kernel_rfl) z_len (xv_seq at_.K (xe_var 0)) (ownT_tup at_.K 3 [2, 3, 4]) (fun _ _ _ _ _ => pg_tup at_.calm (pgs_cons (pg_name at_.nd rfl (Or.inl rfl) (.inr rfl)) (pgs_cons (pg_name at_.nd rfl (Or.inl rfl) (.inr rfl)) (pgs_cons (pg_name at_.nd rfl (Or.inl rfl) (.inr rfl)) pgs_nil)))) (fun Y atc1 hY => by obtain ⟨s1, H1, C1, cl1, fp1, rfl⟩ := hY; exact (xe_tup (xa_cons (xe_var 2) (xa_cons (xe_var 3) xa_nil)))))))))⟩
abbrev s_number : Stmt := top 29
theorem sc_number : FnScope ["lot"] ["lot"] (defScope s_number) := ⟨rfl, rfl, rfl, by decide +kernel, rfl, by decide +kernel, by decide +kernel⟩
noncomputable def b_number : Sv :=
  sSeq (sExpr (eCall r_check_lot (aCons (eVar 0) (aNil))))
  (sSeq (sExpr (eCall r_check_size (aCons (eLst (aCons (eVar 0) (aNil))) (aNil))))
  (sRet (eCall r_number_in (aCons (eVar 0) (aNil)))))
noncomputable def r_number : List Vl → M Vl := fnM 1 1 b_number
theorem d_number {ad : Addr} {od an : Option Addr} {osl : Array (Option Value)} {kV doc pm cdv ct oc : Value} (hg : mg "number" = some (.ref ad)) (lk : K.lookup ad = some ⟨oc, od, .func (PySem.W.fnOf "number" "number" (defArgs s_number) (defBody s_number) (defScope s_number) .none kV doc pm an cdv ct), osl⟩)
    (hcd : PySem.W.codeIn K cdv "number" = true) (hk : PySem.W.keepIn K (.ref ad) = true) (D_check_lot : Def P w K mg base tabs 10 "check_lot" ["lot"] r_check_lot) (D_check_size : Def P w K mg base tabs 3 "check_size" ["lots"] r_check_size) (D_number_in : Def P w K mg base tabs 3 "number_in" ["fans"] r_number_in) : Def P w K mg base tabs 11 "number" ["lot"] r_number :=
  ⟨ad, _, hg, hk, .all (fun us hl => match us, hl with | [_], _ => rfl), fn_ok (k := 10) lk hcd sc_number (fun X W A outer s H E hX at_ => by subst hX; exact
    (xs_cons (xs_expr (xe_call at_ D_check_lot (by decide) (xa_cons (xe_var 0) xa_nil)))
  (xs_cons (xs_expr (xe_call at_ D_check_size (by decide) (xa_cons (xe_lst (xa_cons (xe_var 0) xa_nil)) xa_nil)))
  (xs_one (xs_ret (xe_call at_ D_number_in (by decide) (xa_cons (xe_var 0) xa_nil)))))))⟩
abbrev s__law_mixed : Stmt := top 35
theorem sc__law_mixed : FnScope ["cell", "k", "step"] ["cell", "k"] (defScope s__law_mixed) := ⟨rfl, rfl, rfl, by decide +kernel, rfl, by decide +kernel, by decide +kernel⟩
noncomputable def b__law_mixed : Sv :=
  sSeq (sSet 2 (eOp oMod (eOp oAdd (eOp oAdd (eOp oMulA (eVar 0) (eC (.int 48271))) (eOp oMulA (eVar 1) (eC (.int 69621)))) (eC (.int 12345))) (eC (.int 2147483647))))
  (sRet (eOp oMod (eOp oAdd (eOp oMulA (eVar 2) (eOp oAdd (eOp oDiv (eVar 2) (eC (.int 65536))) (eC (.int 3)))) (eVar 1)) (eC (.int 2147483647))))
noncomputable def r__law_mixed : List Vl → M Vl := fnM 2 3 b__law_mixed
theorem d__law_mixed {ad : Addr} {od an : Option Addr} {osl : Array (Option Value)} {kV doc pm cdv ct oc : Value} (hg : mg "_law_mixed" = some (.ref ad)) (lk : K.lookup ad = some ⟨oc, od, .func (PySem.W.fnOf "_law_mixed" "_law_mixed" (defArgs s__law_mixed) (defBody s__law_mixed) (defScope s__law_mixed) .none kV doc pm an cdv ct), osl⟩)
    (hcd : PySem.W.codeIn K cdv "_law_mixed" = true) (hk : PySem.W.keepIn K (.ref ad) = true) : Def P w K mg base tabs 1 "_law_mixed" ["cell", "k"] r__law_mixed :=
  ⟨ad, _, hg, hk, .all (fun us hl => match us, hl with | [_, _], _ => rfl), fn_ok (k := 0) lk hcd sc__law_mixed (fun X W A outer s H E hX at_ => by subst hX; exact
    (xs_cons (xs_set 2 at_.nd (x_mod (x_add (x_add (x_mulA (xe_var 0) xe_int) (x_mulA (xe_var 1) xe_int)) xe_int) xe_int))
  (xs_one (xs_ret (x_mod (x_add (x_mulA (xe_var 2) (x_add (x_div (xe_var 2) xe_int) xe_int)) (xe_var 1)) xe_int)))))⟩
abbrev s__law_numbers : Stmt := top 36
theorem sc__law_numbers : FnScope ["script", "numbers", "cell", "rest", "k"] ["script"] (defScope s__law_numbers) := ⟨rfl, rfl, rfl, by decide +kernel, rfl, by decide +kernel, by decide +kernel⟩
noncomputable def b__law_numbers : Sv :=
  sSeq (sSet 1 (eLst (aNil)))
  (sSeq (sFor (eVar 0) (gSlot 2) (sIf (tVal (eOp oGe (eVar 2) (eOp oPow (eC (.int 10)) (eC (.int 18))))) (sSeq (sSet 3 (eVar 2))
  (sForR1 (eC (.int 60)) (gSlot 4) (sIf (tVal (eOp oGt (eVar 3) (eC (.int 0)))) (sSeq (sExpr (eApp (eVar 1) (eOp oMod (eVar 3) (eC (.int 1000000)))))
  (sSet 3 (eOp oDiv (eVar 3) (eC (.int 1000000))))) (sNext)))) (sSeq (sExpr (eApp (eVar 1) (eOp oMod (eVar 2) (eC (.int 1000000)))))
  (sForR1 (eC (.int 5)) (gSlot 4) (sExpr (eApp (eVar 1) (eOp oMod (eCall r__law_mixed (aCons (eCall r__law_mixed (aCons (eOp oMod (eVar 2) (eC (.int 2147483647))) (aCons (eVar 4) (aNil)))) (aCons (eOp oAdd (eVar 4) (eC (.int 7))) (aNil)))) (eC (.int 1000000)))))))))
  (sRet (eVar 1)))
noncomputable def r__law_numbers : List Vl → M Vl := fnM 1 5 b__law_numbers
theorem d__law_numbers {ad : Addr} {od an : Option Addr} {osl : Array (Option Value)} {kV doc pm cdv ct oc : Value} (hg : mg "_law_numbers" = some (.ref ad)) (lk : K.lookup ad = some ⟨oc, od, .func (PySem.W.fnOf "_law_numbers" "_law_numbers" (defArgs s__law_numbers) (defBody s__law_numbers) (defScope s__law_numbers) .none kV doc pm an cdv ct), osl⟩)
    (hcd : PySem.W.codeIn K cdv "_law_numbers" = true) (hk : PySem.W.keepIn K (.ref ad) = true) (D__law_mixed : Def P w K mg base tabs 1 "_law_mixed" ["cell", "k"] r__law_mixed) (z_range : mg "range" = none) : Def P w K mg base tabs 2 "_law_numbers" ["script"] r__law_numbers :=
  ⟨ad, _, hg, hk, .all (fun us hl => match us, hl with | [_], _ => rfl), fn_ok (k := 1) lk hcd sc__law_numbers (fun X W A outer s H E hX at_ => by subst hX; exact
    (xs_cons (xs_set 1 at_.nd (xe_lst xa_nil))
  (xs_cons (xs_for at_ (xe_var 0) (xg_slot 2 at_.nd) (xs_one (xs_if (xt_ge (xe_var 2) (x_pow xe_int xe_int)) (xs_cons (xs_set 3 at_.nd (xe_var 2))
  (xs_one (xs_for_range1 at_ z_range xe_int (xg_slot 4 at_.nd) (xs_one (xs_if (xt_gt (xe_var 3) xe_int) (xs_cons (xs_expr (xe_append (xe_var 1) (x_mod (xe_var 3) xe_int)))
  (xs_one (xs_set 3 at_.nd (x_div (xe_var 3) xe_int)))) xs_nil))))) (xs_cons (xs_expr (xe_append (xe_var 1) (x_mod (xe_var 2) xe_int)))
  (xs_one (xs_for_range1 at_ z_range xe_int (xg_slot 4 at_.nd) (xs_one (xs_expr (xe_append (xe_var 1) (x_mod (xe_call at_ D__law_mixed (by decide) (xa_cons (xe_call at_ D__law_mixed (by decide) (xa_cons (x_mod (xe_var 2) xe_int) (xa_cons (xe_var 4) xa_nil))) (xa_cons (x_add (xe_var 4) xe_int) xa_nil))) xe_int))))))))))
  (xs_one (xs_ret (xe_var 1))))))⟩
abbrev s__law_draw : Stmt := top 37
theorem sc__law_draw : FnScope ["draws", "at", "first"] ["draws"] (defScope s__law_draw) := ⟨rfl, rfl, rfl, by decide +kernel, rfl, by decide +kernel, by decide +kernel⟩
noncomputable def b__law_draw : Sv :=
  sSeq (sSet 1 (eOp oIx (eVar 0) (eC (.int 1))))
  (sSeq (sPut (eVar 0) (eC (.int 1)) (eOp oAdd (eVar 1) (eC (.int 1))))
  (sSeq (sIf (tVal (eOp oLt (eVar 1) (eCall bLen (aCons (eOp oIx (eVar 0) (eC (.int 0))) (aNil))))) (sRet (eOp oIx (eOp oIx (eVar 0) (eC (.int 0))) (eVar 1))) (sNext))
  (sSeq (sSet 2 (eOp oAdd (eC (.int 1)) (eVar 1)))
  (sSeq (sIf (tVal (eOp oGt (eCall bLen (aCons (eOp oIx (eVar 0) (eC (.int 0))) (aNil))) (eC (.int 0)))) (sSet 2 (eOp oAdd (eVar 2) (eOp oMulA (eC (.int 1009)) (eOp oIx (eOp oIx (eVar 0) (eC (.int 0))) (eC (.int 0)))))) (sNext))
  (sRet (eOp oMod (eCall r__law_mixed (aCons (eCall r__law_mixed (aCons (eVar 2) (aCons (eVar 1) (aNil)))) (aCons (eC (.int 5)) (aNil)))) (eC (.int 1000000))))))))
noncomputable def r__law_draw : List Vl → M Vl := fnM 1 3 b__law_draw
theorem d__law_draw {ad : Addr} {od an : Option Addr} {osl : Array (Option Value)} {kV doc pm cdv ct oc : Value} (hg : mg "_law_draw" = some (.ref ad)) (lk : K.lookup ad = some ⟨oc, od, .func (PySem.W.fnOf "_law_draw" "_law_draw" (defArgs s__law_draw) (defBody s__law_draw) (defScope s__law_draw) .none kV doc pm an cdv ct), osl⟩)
    (hcd : PySem.W.codeIn K cdv "_law_draw" = true) (hk : PySem.W.keepIn K (.ref ad) = true) (D__law_mixed : Def P w K mg base tabs 1 "_law_mixed" ["cell", "k"] r__law_mixed) (z_len : mg "len" = none) : Def P w K mg base tabs 2 "_law_draw" ["draws"] r__law_draw :=
  ⟨ad, _, hg, hk, .all (fun us hl => match us, hl with | [_], _ => rfl), fn_ok (k := 1) lk hcd sc__law_draw (fun X W A outer s H E hX at_ => by subst hX; exact
    (xs_cons (xs_set 1 at_.nd (xe_ix (xe_var 0) xe_int))
  (xs_cons (xs_put (xe_var 0) xe_int (x_add (xe_var 1) xe_int))
  (xs_cons (xs_if (xt_lt (xe_var 1) (x_len z_len (xa_cons (xe_ix (xe_var 0) xe_int) xa_nil))) (xs_one (xs_ret (xe_ix (xe_ix (xe_var 0) xe_int) (xe_var 1)))) xs_nil)
  (xs_cons (xs_set 2 at_.nd (x_add xe_int (xe_var 1)))
  (xs_cons (xs_if (xt_gt (x_len z_len (xa_cons (xe_ix (xe_var 0) xe_int) xa_nil)) xe_int) (xs_one (xs_set 2 at_.nd (x_add (xe_var 2) (x_mulA xe_int (xe_ix (xe_ix (xe_var 0) xe_int) xe_int))))) xs_nil)
  (xs_one (xs_ret (x_mod (xe_call at_ D__law_mixed (by decide) (xa_cons (xe_call at_ D__law_mixed (by decide) (xa_cons (xe_var 2) (xa_cons (xe_var 1) xa_nil))) (xa_cons xe_int xa_nil))) xe_int)))))))))⟩
abbrev s__law_equal : Stmt := top 38
theorem sc__law_equal : FnScope ["actual", "due"] ["actual", "due"] (defScope s__law_equal) := ⟨rfl, rfl, rfl, by decide +kernel, rfl, by decide +kernel, by decide +kernel⟩
def r__law_equal_u0 : List Vl → M Vl := fun _ => stuck
theorem d__law_equal_u0 {ad : Addr} {od an : Option Addr} {osl : Array (Option Value)} {kV doc pm cdv ct oc : Value} (hg : mg "_law_equal" = some (.ref ad)) (lk : K.lookup ad = some ⟨oc, od, .func (PySem.W.fnOf "_law_equal" "_law_equal" (defArgs s__law_equal) (defBody s__law_equal) (defScope s__law_equal) .none kV doc pm an cdv ct), osl⟩)
    (hcd : PySem.W.codeIn K cdv "_law_equal" = true) (hk : PySem.W.keepIn K (.ref ad) = true) : Def P w K mg base tabs 1 "_law_equal" ["actual", "due"] r__law_equal_u0 :=
  def_stuck (fd := PySem.W.fnOf "_law_equal" "_law_equal" (defArgs s__law_equal) (defBody s__law_equal) (defScope s__law_equal) .none kV doc pm an cdv ct) hg hk (.all (fun us hl => match us, hl with | [_, _], _ => rfl))
abbrev s__law_all_equal : Stmt := top 39
theorem sc__law_all_equal : FnScope ["actual", "due", "k"] ["actual", "due"] (defScope s__law_all_equal) := ⟨rfl, rfl, rfl, by decide +kernel, rfl, by decide +kernel, by decide +kernel⟩
def r__law_all_equal_u0 : List Vl → M Vl := fun _ => stuck
theorem d__law_all_equal_u0 {ad : Addr} {od an : Option Addr} {osl : Array (Option Value)} {kV doc pm cdv ct oc : Value} (hg : mg "_law_all_equal" = some (.ref ad)) (lk : K.lookup ad = some ⟨oc, od, .func (PySem.W.fnOf "_law_all_equal" "_law_all_equal" (defArgs s__law_all_equal) (defBody s__law_all_equal) (defScope s__law_all_equal) .none kV doc pm an cdv ct), osl⟩)
    (hcd : PySem.W.codeIn K cdv "_law_all_equal" = true) (hk : PySem.W.keepIn K (.ref ad) = true) : Def P w K mg base tabs 1 "_law_all_equal" ["actual", "due"] r__law_all_equal_u0 :=
  def_stuck (fd := PySem.W.fnOf "_law_all_equal" "_law_all_equal" (defArgs s__law_all_equal) (defBody s__law_all_equal) (defScope s__law_all_equal) .none kV doc pm an cdv ct) hg hk (.all (fun us hl => match us, hl with | [_, _], _ => rfl))
noncomputable def b__law_equal_u1 : Sv :=
  sSeq (sIf (tVal (eCall bIsi (aCons (eVar 1) (aCons (eC (.ty "list")) (aNil))))) (sSeq (sIf (tOr (tNot (tVal (eCall bIsi (aCons (eVar 0) (aCons (eC (.ty "list")) (aNil)))))) (tVal (eOp oNe (eCall bLen (aCons (eVar 0) (aNil))) (eCall bLen (aCons (eVar 1) (aNil)))))) (sRet (eC (.bl false))) (sNext))
  (sRet (eCall r__law_all_equal_u0 (aCons (eVar 0) (aCons (eVar 1) (aNil)))))) (sNext))
  (sSeq (sIf (tVal (eCall bIsi (aCons (eVar 1) (aCons (eC (.ty "tuple")) (aNil))))) (sSeq (sIf (tOr (tNot (tVal (eCall bIsi (aCons (eVar 0) (aCons (eC (.ty "tuple")) (aNil)))))) (tVal (eOp oNe (eCall bLen (aCons (eVar 0) (aNil))) (eCall bLen (aCons (eVar 1) (aNil)))))) (sRet (eC (.bl false))) (sNext))
  (sRet (eCall r__law_all_equal_u0 (aCons (eVar 0) (aCons (eVar 1) (aNil)))))) (sNext))
  (sSeq (sIf (tVal (eCall bIsi (aCons (eVar 1) (aCons (eC (.ty "bool")) (aNil))))) (sRet (eAnd (eCall bIsi (aCons (eVar 0) (aCons (eC (.ty "bool")) (aNil)))) (eOp oEq (eVar 0) (eVar 1)))) (sNext))
  (sSeq (sIf (tVal (eCall bIsi (aCons (eVar 1) (aCons (eC (.ty "int")) (aNil))))) (sRet (eAnd (eCall bIsi (aCons (eVar 0) (aCons (eC (.ty "int")) (aNil)))) (eAnd (eNot (eCall bIsi (aCons (eVar 0) (aCons (eC (.ty "bool")) (aNil))))) (eOp oEq (eVar 0) (eVar 1))))) (sNext))
  (sSeq (sIf (tVal (eCall bIsi (aCons (eVar 1) (aCons (eC (.ty "str")) (aNil))))) (sRet (eAnd (eCall bIsi (aCons (eVar 0) (aCons (eC (.ty "str")) (aNil)))) (eOp oEq (eVar 0) (eVar 1)))) (sNext))
  (sRet (eOp oIs0 (eVar 0) (eC .non)))))))
noncomputable def r__law_equal_u1 : List Vl → M Vl := fnM 2 2 b__law_equal_u1
theorem d__law_equal_u1 {ad : Addr} {od an : Option Addr} {osl : Array (Option Value)} {kV doc pm cdv ct oc : Value} (hg : mg "_law_equal" = some (.ref ad)) (lk : K.lookup ad = some ⟨oc, od, .func (PySem.W.fnOf "_law_equal" "_law_equal" (defArgs s__law_equal) (defBody s__law_equal) (defScope s__law_equal) .none kV doc pm an cdv ct), osl⟩)
    (hcd : PySem.W.codeIn K cdv "_law_equal" = true) (hk : PySem.W.keepIn K (.ref ad) = true) (D__law_all_equal_u0 : Def P w K mg base tabs 1 "_law_all_equal" ["actual", "due"] r__law_all_equal_u0) (z_isinstance : mg "isinstance" = none) (z_list : mg "list" = none) (z_len : mg "len" = none) (z_tuple : mg "tuple" = none) (z_bool : mg "bool" = none) (z_int : mg "int" = none) (z_str : mg "str" = none) : Def P w K mg base tabs 2 "_law_equal" ["actual", "due"] r__law_equal_u1 :=
  ⟨ad, _, hg, hk, .all (fun us hl => match us, hl with | [_, _], _ => rfl), fn_ok (k := 1) lk hcd sc__law_equal (fun X W A outer s H E hX at_ => by subst hX; exact
    (xs_cons (xs_if (xt_val (x_isi z_isinstance (xa_cons (xe_var 1) (xa_cons (xe_ty z_list (by decide +kernel)) xa_nil)))) (xs_cons (xs_if (xw_or (xt_not (xt_val (x_isi z_isinstance (xa_cons (xe_var 0) (xa_cons (xe_ty z_list (by decide +kernel)) xa_nil))))) (xw_or1 (xt_ne at_ (x_len z_len (xa_cons (xe_var 0) xa_nil)) (x_len z_len (xa_cons (xe_var 1) xa_nil))))).pt (xs_one (xs_ret xe_bl)) xs_nil)
  (xs_one (xs_ret (xe_call at_ D__law_all_equal_u0 (by decide) (xa_cons (xe_var 0) (xa_cons (xe_var 1) xa_nil)))))) xs_nil)
  (xs_cons (xs_if (xt_val (x_isi z_isinstance (xa_cons (xe_var 1) (xa_cons (xe_ty z_tuple (by decide +kernel)) xa_nil)))) (xs_cons (xs_if (xw_or (xt_not (xt_val (x_isi z_isinstance (xa_cons (xe_var 0) (xa_cons (xe_ty z_tuple (by decide +kernel)) xa_nil))))) (xw_or1 (xt_ne at_ (x_len z_len (xa_cons (xe_var 0) xa_nil)) (x_len z_len (xa_cons (xe_var 1) xa_nil))))).pt (xs_one (xs_ret xe_bl)) xs_nil)
  (xs_one (xs_ret (xe_call at_ D__law_all_equal_u0 (by decide) (xa_cons (xe_var 0) (xa_cons (xe_var 1) xa_nil)))))) xs_nil)
  (xs_cons (xs_if (xt_val (x_isi z_isinstance (xa_cons (xe_var 1) (xa_cons (xe_ty z_bool (by decide +kernel)) xa_nil)))) (xs_one (xs_ret (xe_and (x_isi z_isinstance (xa_cons (xe_var 0) (xa_cons (xe_ty z_bool (by decide +kernel)) xa_nil))) (xe_one (x_eq at_ (xe_var 0) (xe_var 1)))))) xs_nil)
  (xs_cons (xs_if (xt_val (x_isi z_isinstance (xa_cons (xe_var 1) (xa_cons (xe_ty z_int (by decide +kernel)) xa_nil)))) (xs_one (xs_ret (xe_and (x_isi z_isinstance (xa_cons (xe_var 0) (xa_cons (xe_ty z_int (by decide +kernel)) xa_nil))) (xe_and (xe_not (x_isi z_isinstance (xa_cons (xe_var 0) (xa_cons (xe_ty z_bool (by decide +kernel)) xa_nil)))) (xe_one (x_eq at_ (xe_var 0) (xe_var 1))))))) xs_nil)
  (xs_cons (xs_if (xt_val (x_isi z_isinstance (xa_cons (xe_var 1) (xa_cons (xe_ty z_str (by decide +kernel)) xa_nil)))) (xs_one (xs_ret (xe_and (x_isi z_isinstance (xa_cons (xe_var 0) (xa_cons (xe_ty z_str (by decide +kernel)) xa_nil))) (xe_one (x_eq at_ (xe_var 0) (xe_var 1)))))) xs_nil)
  (xs_one (xs_ret (x_is0 (xe_var 0) xe_non)))))))))⟩
noncomputable def b__law_all_equal_u1 : Sv :=
  sSeq (sForR1 (eCall bLen (aCons (eVar 1) (aNil))) (gSlot 2) (sIf (tNot (tVal (eCall r__law_equal_u0 (aCons (eOp oIx (eVar 0) (eVar 2)) (aCons (eOp oIx (eVar 1) (eVar 2)) (aNil)))))) (sRet (eC (.bl false))) (sNext)))
  (sRet (eC (.bl true)))
noncomputable def r__law_all_equal_u1 : List Vl → M Vl := fnM 2 3 b__law_all_equal_u1
theorem d__law_all_equal_u1 {ad : Addr} {od an : Option Addr} {osl : Array (Option Value)} {kV doc pm cdv ct oc : Value} (hg : mg "_law_all_equal" = some (.ref ad)) (lk : K.lookup ad = some ⟨oc, od, .func (PySem.W.fnOf "_law_all_equal" "_law_all_equal" (defArgs s__law_all_equal) (defBody s__law_all_equal) (defScope s__law_all_equal) .none kV doc pm an cdv ct), osl⟩)
    (hcd : PySem.W.codeIn K cdv "_law_all_equal" = true) (hk : PySem.W.keepIn K (.ref ad) = true) (D__law_equal_u0 : Def P w K mg base tabs 1 "_law_equal" ["actual", "due"] r__law_equal_u0) (z_range : mg "range" = none) (z_len : mg "len" = none) : Def P w K mg base tabs 2 "_law_all_equal" ["actual", "due"] r__law_all_equal_u1 :=
  ⟨ad, _, hg, hk, .all (fun us hl => match us, hl with | [_, _], _ => rfl), fn_ok (k := 1) lk hcd sc__law_all_equal (fun X W A outer s H E hX at_ => by subst hX; exact
    (xs_cons (xs_for_range1 at_ z_range (x_len z_len (xa_cons (xe_var 1) xa_nil)) (xg_slot 2 at_.nd) (xs_one (xs_if (xt_not (xt_val (xe_call at_ D__law_equal_u0 (by decide) (xa_cons (xe_ix (xe_var 0) (xe_var 2)) (xa_cons (xe_ix (xe_var 1) (xe_var 2)) xa_nil))))) (xs_one (xs_ret xe_bl)) xs_nil)))
  (xs_one (xs_ret xe_bl))))⟩
noncomputable def b__law_equal_u2 : Sv :=
  sSeq (sIf (tVal (eCall bIsi (aCons (eVar 1) (aCons (eC (.ty "list")) (aNil))))) (sSeq (sIf (tOr (tNot (tVal (eCall bIsi (aCons (eVar 0) (aCons (eC (.ty "list")) (aNil)))))) (tVal (eOp oNe (eCall bLen (aCons (eVar 0) (aNil))) (eCall bLen (aCons (eVar 1) (aNil)))))) (sRet (eC (.bl false))) (sNext))
  (sRet (eCall r__law_all_equal_u1 (aCons (eVar 0) (aCons (eVar 1) (aNil)))))) (sNext))
  (sSeq (sIf (tVal (eCall bIsi (aCons (eVar 1) (aCons (eC (.ty "tuple")) (aNil))))) (sSeq (sIf (tOr (tNot (tVal (eCall bIsi (aCons (eVar 0) (aCons (eC (.ty "tuple")) (aNil)))))) (tVal (eOp oNe (eCall bLen (aCons (eVar 0) (aNil))) (eCall bLen (aCons (eVar 1) (aNil)))))) (sRet (eC (.bl false))) (sNext))
  (sRet (eCall r__law_all_equal_u1 (aCons (eVar 0) (aCons (eVar 1) (aNil)))))) (sNext))
  (sSeq (sIf (tVal (eCall bIsi (aCons (eVar 1) (aCons (eC (.ty "bool")) (aNil))))) (sRet (eAnd (eCall bIsi (aCons (eVar 0) (aCons (eC (.ty "bool")) (aNil)))) (eOp oEq (eVar 0) (eVar 1)))) (sNext))
  (sSeq (sIf (tVal (eCall bIsi (aCons (eVar 1) (aCons (eC (.ty "int")) (aNil))))) (sRet (eAnd (eCall bIsi (aCons (eVar 0) (aCons (eC (.ty "int")) (aNil)))) (eAnd (eNot (eCall bIsi (aCons (eVar 0) (aCons (eC (.ty "bool")) (aNil))))) (eOp oEq (eVar 0) (eVar 1))))) (sNext))
  (sSeq (sIf (tVal (eCall bIsi (aCons (eVar 1) (aCons (eC (.ty "str")) (aNil))))) (sRet (eAnd (eCall bIsi (aCons (eVar 0) (aCons (eC (.ty "str")) (aNil)))) (eOp oEq (eVar 0) (eVar 1)))) (sNext))
  (sRet (eOp oIs0 (eVar 0) (eC .non)))))))
noncomputable def r__law_equal_u2 : List Vl → M Vl := fnM 2 2 b__law_equal_u2
theorem d__law_equal_u2 {ad : Addr} {od an : Option Addr} {osl : Array (Option Value)} {kV doc pm cdv ct oc : Value} (hg : mg "_law_equal" = some (.ref ad)) (lk : K.lookup ad = some ⟨oc, od, .func (PySem.W.fnOf "_law_equal" "_law_equal" (defArgs s__law_equal) (defBody s__law_equal) (defScope s__law_equal) .none kV doc pm an cdv ct), osl⟩)
    (hcd : PySem.W.codeIn K cdv "_law_equal" = true) (hk : PySem.W.keepIn K (.ref ad) = true) (D__law_all_equal_u1 : Def P w K mg base tabs 2 "_law_all_equal" ["actual", "due"] r__law_all_equal_u1) (z_isinstance : mg "isinstance" = none) (z_list : mg "list" = none) (z_len : mg "len" = none) (z_tuple : mg "tuple" = none) (z_bool : mg "bool" = none) (z_int : mg "int" = none) (z_str : mg "str" = none) : Def P w K mg base tabs 3 "_law_equal" ["actual", "due"] r__law_equal_u2 :=
  ⟨ad, _, hg, hk, .all (fun us hl => match us, hl with | [_, _], _ => rfl), fn_ok (k := 2) lk hcd sc__law_equal (fun X W A outer s H E hX at_ => by subst hX; exact
    (xs_cons (xs_if (xt_val (x_isi z_isinstance (xa_cons (xe_var 1) (xa_cons (xe_ty z_list (by decide +kernel)) xa_nil)))) (xs_cons (xs_if (xw_or (xt_not (xt_val (x_isi z_isinstance (xa_cons (xe_var 0) (xa_cons (xe_ty z_list (by decide +kernel)) xa_nil))))) (xw_or1 (xt_ne at_ (x_len z_len (xa_cons (xe_var 0) xa_nil)) (x_len z_len (xa_cons (xe_var 1) xa_nil))))).pt (xs_one (xs_ret xe_bl)) xs_nil)
  (xs_one (xs_ret (xe_call at_ D__law_all_equal_u1 (by decide) (xa_cons (xe_var 0) (xa_cons (xe_var 1) xa_nil)))))) xs_nil)
  (xs_cons (xs_if (xt_val (x_isi z_isinstance (xa_cons (xe_var 1) (xa_cons (xe_ty z_tuple (by decide +kernel)) xa_nil)))) (xs_cons (xs_if (xw_or (xt_not (xt_val (x_isi z_isinstance (xa_cons (xe_var 0) (xa_cons (xe_ty z_tuple (by decide +kernel)) xa_nil))))) (xw_or1 (xt_ne at_ (x_len z_len (xa_cons (xe_var 0) xa_nil)) (x_len z_len (xa_cons (xe_var 1) xa_nil))))).pt (xs_one (xs_ret xe_bl)) xs_nil)
  (xs_one (xs_ret (xe_call at_ D__law_all_equal_u1 (by decide) (xa_cons (xe_var 0) (xa_cons (xe_var 1) xa_nil)))))) xs_nil)
  (xs_cons (xs_if (xt_val (x_isi z_isinstance (xa_cons (xe_var 1) (xa_cons (xe_ty z_bool (by decide +kernel)) xa_nil)))) (xs_one (xs_ret (xe_and (x_isi z_isinstance (xa_cons (xe_var 0) (xa_cons (xe_ty z_bool (by decide +kernel)) xa_nil))) (xe_one (x_eq at_ (xe_var 0) (xe_var 1)))))) xs_nil)
  (xs_cons (xs_if (xt_val (x_isi z_isinstance (xa_cons (xe_var 1) (xa_cons (xe_ty z_int (by decide +kernel)) xa_nil)))) (xs_one (xs_ret (xe_and (x_isi z_isinstance (xa_cons (xe_var 0) (xa_cons (xe_ty z_int (by decide +kernel)) xa_nil))) (xe_and (xe_not (x_isi z_isinstance (xa_cons (xe_var 0) (xa_cons (xe_ty z_bool (by decide +kernel)) xa_nil)))) (xe_one (x_eq at_ (xe_var 0) (xe_var 1))))))) xs_nil)
  (xs_cons (xs_if (xt_val (x_isi z_isinstance (xa_cons (xe_var 1) (xa_cons (xe_ty z_str (by decide +kernel)) xa_nil)))) (xs_one (xs_ret (xe_and (x_isi z_isinstance (xa_cons (xe_var 0) (xa_cons (xe_ty z_str (by decide +kernel)) xa_nil))) (xe_one (x_eq at_ (xe_var 0) (xe_var 1)))))) xs_nil)
  (xs_one (xs_ret (x_is0 (xe_var 0) xe_non)))))))))⟩
noncomputable def b__law_all_equal_u2 : Sv :=
  sSeq (sForR1 (eCall bLen (aCons (eVar 1) (aNil))) (gSlot 2) (sIf (tNot (tVal (eCall r__law_equal_u1 (aCons (eOp oIx (eVar 0) (eVar 2)) (aCons (eOp oIx (eVar 1) (eVar 2)) (aNil)))))) (sRet (eC (.bl false))) (sNext)))
  (sRet (eC (.bl true)))
noncomputable def r__law_all_equal_u2 : List Vl → M Vl := fnM 2 3 b__law_all_equal_u2
theorem d__law_all_equal_u2 {ad : Addr} {od an : Option Addr} {osl : Array (Option Value)} {kV doc pm cdv ct oc : Value} (hg : mg "_law_all_equal" = some (.ref ad)) (lk : K.lookup ad = some ⟨oc, od, .func (PySem.W.fnOf "_law_all_equal" "_law_all_equal" (defArgs s__law_all_equal) (defBody s__law_all_equal) (defScope s__law_all_equal) .none kV doc pm an cdv ct), osl⟩)
    (hcd : PySem.W.codeIn K cdv "_law_all_equal" = true) (hk : PySem.W.keepIn K (.ref ad) = true) (D__law_equal_u1 : Def P w K mg base tabs 2 "_law_equal" ["actual", "due"] r__law_equal_u1) (z_range : mg "range" = none) (z_len : mg "len" = none) : Def P w K mg base tabs 3 "_law_all_equal" ["actual", "due"] r__law_all_equal_u2 :=
  ⟨ad, _, hg, hk, .all (fun us hl => match us, hl with | [_, _], _ => rfl), fn_ok (k := 2) lk hcd sc__law_all_equal (fun X W A outer s H E hX at_ => by subst hX; exact
    (xs_cons (xs_for_range1 at_ z_range (x_len z_len (xa_cons (xe_var 1) xa_nil)) (xg_slot 2 at_.nd) (xs_one (xs_if (xt_not (xt_val (xe_call at_ D__law_equal_u1 (by decide) (xa_cons (xe_ix (xe_var 0) (xe_var 2)) (xa_cons (xe_ix (xe_var 1) (xe_var 2)) xa_nil))))) (xs_one (xs_ret xe_bl)) xs_nil)))
  (xs_one (xs_ret xe_bl))))⟩
noncomputable def b__law_equal_u3 : Sv :=
  sSeq (sIf (tVal (eCall bIsi (aCons (eVar 1) (aCons (eC (.ty "list")) (aNil))))) (sSeq (sIf (tOr (tNot (tVal (eCall bIsi (aCons (eVar 0) (aCons (eC (.ty "list")) (aNil)))))) (tVal (eOp oNe (eCall bLen (aCons (eVar 0) (aNil))) (eCall bLen (aCons (eVar 1) (aNil)))))) (sRet (eC (.bl false))) (sNext))
  (sRet (eCall r__law_all_equal_u2 (aCons (eVar 0) (aCons (eVar 1) (aNil)))))) (sNext))
  (sSeq (sIf (tVal (eCall bIsi (aCons (eVar 1) (aCons (eC (.ty "tuple")) (aNil))))) (sSeq (sIf (tOr (tNot (tVal (eCall bIsi (aCons (eVar 0) (aCons (eC (.ty "tuple")) (aNil)))))) (tVal (eOp oNe (eCall bLen (aCons (eVar 0) (aNil))) (eCall bLen (aCons (eVar 1) (aNil)))))) (sRet (eC (.bl false))) (sNext))
  (sRet (eCall r__law_all_equal_u2 (aCons (eVar 0) (aCons (eVar 1) (aNil)))))) (sNext))
  (sSeq (sIf (tVal (eCall bIsi (aCons (eVar 1) (aCons (eC (.ty "bool")) (aNil))))) (sRet (eAnd (eCall bIsi (aCons (eVar 0) (aCons (eC (.ty "bool")) (aNil)))) (eOp oEq (eVar 0) (eVar 1)))) (sNext))
  (sSeq (sIf (tVal (eCall bIsi (aCons (eVar 1) (aCons (eC (.ty "int")) (aNil))))) (sRet (eAnd (eCall bIsi (aCons (eVar 0) (aCons (eC (.ty "int")) (aNil)))) (eAnd (eNot (eCall bIsi (aCons (eVar 0) (aCons (eC (.ty "bool")) (aNil))))) (eOp oEq (eVar 0) (eVar 1))))) (sNext))
  (sSeq (sIf (tVal (eCall bIsi (aCons (eVar 1) (aCons (eC (.ty "str")) (aNil))))) (sRet (eAnd (eCall bIsi (aCons (eVar 0) (aCons (eC (.ty "str")) (aNil)))) (eOp oEq (eVar 0) (eVar 1)))) (sNext))
  (sRet (eOp oIs0 (eVar 0) (eC .non)))))))
noncomputable def r__law_equal_u3 : List Vl → M Vl := fnM 2 2 b__law_equal_u3
theorem d__law_equal_u3 {ad : Addr} {od an : Option Addr} {osl : Array (Option Value)} {kV doc pm cdv ct oc : Value} (hg : mg "_law_equal" = some (.ref ad)) (lk : K.lookup ad = some ⟨oc, od, .func (PySem.W.fnOf "_law_equal" "_law_equal" (defArgs s__law_equal) (defBody s__law_equal) (defScope s__law_equal) .none kV doc pm an cdv ct), osl⟩)
    (hcd : PySem.W.codeIn K cdv "_law_equal" = true) (hk : PySem.W.keepIn K (.ref ad) = true) (D__law_all_equal_u2 : Def P w K mg base tabs 3 "_law_all_equal" ["actual", "due"] r__law_all_equal_u2) (z_isinstance : mg "isinstance" = none) (z_list : mg "list" = none) (z_len : mg "len" = none) (z_tuple : mg "tuple" = none) (z_bool : mg "bool" = none) (z_int : mg "int" = none) (z_str : mg "str" = none) : Def P w K mg base tabs 4 "_law_equal" ["actual", "due"] r__law_equal_u3 :=
  ⟨ad, _, hg, hk, .all (fun us hl => match us, hl with | [_, _], _ => rfl), fn_ok (k := 3) lk hcd sc__law_equal (fun X W A outer s H E hX at_ => by subst hX; exact
    (xs_cons (xs_if (xt_val (x_isi z_isinstance (xa_cons (xe_var 1) (xa_cons (xe_ty z_list (by decide +kernel)) xa_nil)))) (xs_cons (xs_if (xw_or (xt_not (xt_val (x_isi z_isinstance (xa_cons (xe_var 0) (xa_cons (xe_ty z_list (by decide +kernel)) xa_nil))))) (xw_or1 (xt_ne at_ (x_len z_len (xa_cons (xe_var 0) xa_nil)) (x_len z_len (xa_cons (xe_var 1) xa_nil))))).pt (xs_one (xs_ret xe_bl)) xs_nil)
  (xs_one (xs_ret (xe_call at_ D__law_all_equal_u2 (by decide) (xa_cons (xe_var 0) (xa_cons (xe_var 1) xa_nil)))))) xs_nil)
  (xs_cons (xs_if (xt_val (x_isi z_isinstance (xa_cons (xe_var 1) (xa_cons (xe_ty z_tuple (by decide +kernel)) xa_nil)))) (xs_cons (xs_if (xw_or (xt_not (xt_val (x_isi z_isinstance (xa_cons (xe_var 0) (xa_cons (xe_ty z_tuple (by decide +kernel)) xa_nil))))) (xw_or1 (xt_ne at_ (x_len z_len (xa_cons (xe_var 0) xa_nil)) (x_len z_len (xa_cons (xe_var 1) xa_nil))))).pt (xs_one (xs_ret xe_bl)) xs_nil)
  (xs_one (xs_ret (xe_call at_ D__law_all_equal_u2 (by decide) (xa_cons (xe_var 0) (xa_cons (xe_var 1) xa_nil)))))) xs_nil)
  (xs_cons (xs_if (xt_val (x_isi z_isinstance (xa_cons (xe_var 1) (xa_cons (xe_ty z_bool (by decide +kernel)) xa_nil)))) (xs_one (xs_ret (xe_and (x_isi z_isinstance (xa_cons (xe_var 0) (xa_cons (xe_ty z_bool (by decide +kernel)) xa_nil))) (xe_one (x_eq at_ (xe_var 0) (xe_var 1)))))) xs_nil)
  (xs_cons (xs_if (xt_val (x_isi z_isinstance (xa_cons (xe_var 1) (xa_cons (xe_ty z_int (by decide +kernel)) xa_nil)))) (xs_one (xs_ret (xe_and (x_isi z_isinstance (xa_cons (xe_var 0) (xa_cons (xe_ty z_int (by decide +kernel)) xa_nil))) (xe_and (xe_not (x_isi z_isinstance (xa_cons (xe_var 0) (xa_cons (xe_ty z_bool (by decide +kernel)) xa_nil)))) (xe_one (x_eq at_ (xe_var 0) (xe_var 1))))))) xs_nil)
  (xs_cons (xs_if (xt_val (x_isi z_isinstance (xa_cons (xe_var 1) (xa_cons (xe_ty z_str (by decide +kernel)) xa_nil)))) (xs_one (xs_ret (xe_and (x_isi z_isinstance (xa_cons (xe_var 0) (xa_cons (xe_ty z_str (by decide +kernel)) xa_nil))) (xe_one (x_eq at_ (xe_var 0) (xe_var 1)))))) xs_nil)
  (xs_one (xs_ret (x_is0 (xe_var 0) xe_non)))))))))⟩
noncomputable def b__law_all_equal_u3 : Sv :=
  sSeq (sForR1 (eCall bLen (aCons (eVar 1) (aNil))) (gSlot 2) (sIf (tNot (tVal (eCall r__law_equal_u2 (aCons (eOp oIx (eVar 0) (eVar 2)) (aCons (eOp oIx (eVar 1) (eVar 2)) (aNil)))))) (sRet (eC (.bl false))) (sNext)))
  (sRet (eC (.bl true)))
noncomputable def r__law_all_equal_u3 : List Vl → M Vl := fnM 2 3 b__law_all_equal_u3
theorem d__law_all_equal_u3 {ad : Addr} {od an : Option Addr} {osl : Array (Option Value)} {kV doc pm cdv ct oc : Value} (hg : mg "_law_all_equal" = some (.ref ad)) (lk : K.lookup ad = some ⟨oc, od, .func (PySem.W.fnOf "_law_all_equal" "_law_all_equal" (defArgs s__law_all_equal) (defBody s__law_all_equal) (defScope s__law_all_equal) .none kV doc pm an cdv ct), osl⟩)
    (hcd : PySem.W.codeIn K cdv "_law_all_equal" = true) (hk : PySem.W.keepIn K (.ref ad) = true) (D__law_equal_u2 : Def P w K mg base tabs 3 "_law_equal" ["actual", "due"] r__law_equal_u2) (z_range : mg "range" = none) (z_len : mg "len" = none) : Def P w K mg base tabs 4 "_law_all_equal" ["actual", "due"] r__law_all_equal_u3 :=
  ⟨ad, _, hg, hk, .all (fun us hl => match us, hl with | [_, _], _ => rfl), fn_ok (k := 3) lk hcd sc__law_all_equal (fun X W A outer s H E hX at_ => by subst hX; exact
    (xs_cons (xs_for_range1 at_ z_range (x_len z_len (xa_cons (xe_var 1) xa_nil)) (xg_slot 2 at_.nd) (xs_one (xs_if (xt_not (xt_val (xe_call at_ D__law_equal_u2 (by decide) (xa_cons (xe_ix (xe_var 0) (xe_var 2)) (xa_cons (xe_ix (xe_var 1) (xe_var 2)) xa_nil))))) (xs_one (xs_ret xe_bl)) xs_nil)))
  (xs_one (xs_ret xe_bl))))⟩
noncomputable def b__law_equal_u4 : Sv :=
  sSeq (sIf (tVal (eCall bIsi (aCons (eVar 1) (aCons (eC (.ty "list")) (aNil))))) (sSeq (sIf (tOr (tNot (tVal (eCall bIsi (aCons (eVar 0) (aCons (eC (.ty "list")) (aNil)))))) (tVal (eOp oNe (eCall bLen (aCons (eVar 0) (aNil))) (eCall bLen (aCons (eVar 1) (aNil)))))) (sRet (eC (.bl false))) (sNext))
  (sRet (eCall r__law_all_equal_u3 (aCons (eVar 0) (aCons (eVar 1) (aNil)))))) (sNext))
  (sSeq (sIf (tVal (eCall bIsi (aCons (eVar 1) (aCons (eC (.ty "tuple")) (aNil))))) (sSeq (sIf (tOr (tNot (tVal (eCall bIsi (aCons (eVar 0) (aCons (eC (.ty "tuple")) (aNil)))))) (tVal (eOp oNe (eCall bLen (aCons (eVar 0) (aNil))) (eCall bLen (aCons (eVar 1) (aNil)))))) (sRet (eC (.bl false))) (sNext))
  (sRet (eCall r__law_all_equal_u3 (aCons (eVar 0) (aCons (eVar 1) (aNil)))))) (sNext))
  (sSeq (sIf (tVal (eCall bIsi (aCons (eVar 1) (aCons (eC (.ty "bool")) (aNil))))) (sRet (eAnd (eCall bIsi (aCons (eVar 0) (aCons (eC (.ty "bool")) (aNil)))) (eOp oEq (eVar 0) (eVar 1)))) (sNext))
  (sSeq (sIf (tVal (eCall bIsi (aCons (eVar 1) (aCons (eC (.ty "int")) (aNil))))) (sRet (eAnd (eCall bIsi (aCons (eVar 0) (aCons (eC (.ty "int")) (aNil)))) (eAnd (eNot (eCall bIsi (aCons (eVar 0) (aCons (eC (.ty "bool")) (aNil))))) (eOp oEq (eVar 0) (eVar 1))))) (sNext))
  (sSeq (sIf (tVal (eCall bIsi (aCons (eVar 1) (aCons (eC (.ty "str")) (aNil))))) (sRet (eAnd (eCall bIsi (aCons (eVar 0) (aCons (eC (.ty "str")) (aNil)))) (eOp oEq (eVar 0) (eVar 1)))) (sNext))
  (sRet (eOp oIs0 (eVar 0) (eC .non)))))))
noncomputable def r__law_equal_u4 : List Vl → M Vl := fnM 2 2 b__law_equal_u4
theorem d__law_equal_u4 {ad : Addr} {od an : Option Addr} {osl : Array (Option Value)} {kV doc pm cdv ct oc : Value} (hg : mg "_law_equal" = some (.ref ad)) (lk : K.lookup ad = some ⟨oc, od, .func (PySem.W.fnOf "_law_equal" "_law_equal" (defArgs s__law_equal) (defBody s__law_equal) (defScope s__law_equal) .none kV doc pm an cdv ct), osl⟩)
    (hcd : PySem.W.codeIn K cdv "_law_equal" = true) (hk : PySem.W.keepIn K (.ref ad) = true) (D__law_all_equal_u3 : Def P w K mg base tabs 4 "_law_all_equal" ["actual", "due"] r__law_all_equal_u3) (z_isinstance : mg "isinstance" = none) (z_list : mg "list" = none) (z_len : mg "len" = none) (z_tuple : mg "tuple" = none) (z_bool : mg "bool" = none) (z_int : mg "int" = none) (z_str : mg "str" = none) : Def P w K mg base tabs 5 "_law_equal" ["actual", "due"] r__law_equal_u4 :=
  ⟨ad, _, hg, hk, .all (fun us hl => match us, hl with | [_, _], _ => rfl), fn_ok (k := 4) lk hcd sc__law_equal (fun X W A outer s H E hX at_ => by subst hX; exact
    (xs_cons (xs_if (xt_val (x_isi z_isinstance (xa_cons (xe_var 1) (xa_cons (xe_ty z_list (by decide +kernel)) xa_nil)))) (xs_cons (xs_if (xw_or (xt_not (xt_val (x_isi z_isinstance (xa_cons (xe_var 0) (xa_cons (xe_ty z_list (by decide +kernel)) xa_nil))))) (xw_or1 (xt_ne at_ (x_len z_len (xa_cons (xe_var 0) xa_nil)) (x_len z_len (xa_cons (xe_var 1) xa_nil))))).pt (xs_one (xs_ret xe_bl)) xs_nil)
  (xs_one (xs_ret (xe_call at_ D__law_all_equal_u3 (by decide) (xa_cons (xe_var 0) (xa_cons (xe_var 1) xa_nil)))))) xs_nil)
  (xs_cons (xs_if (xt_val (x_isi z_isinstance (xa_cons (xe_var 1) (xa_cons (xe_ty z_tuple (by decide +kernel)) xa_nil)))) (xs_cons (xs_if (xw_or (xt_not (xt_val (x_isi z_isinstance (xa_cons (xe_var 0) (xa_cons (xe_ty z_tuple (by decide +kernel)) xa_nil))))) (xw_or1 (xt_ne at_ (x_len z_len (xa_cons (xe_var 0) xa_nil)) (x_len z_len (xa_cons (xe_var 1) xa_nil))))).pt (xs_one (xs_ret xe_bl)) xs_nil)
  (xs_one (xs_ret (xe_call at_ D__law_all_equal_u3 (by decide) (xa_cons (xe_var 0) (xa_cons (xe_var 1) xa_nil)))))) xs_nil)
  (xs_cons (xs_if (xt_val (x_isi z_isinstance (xa_cons (xe_var 1) (xa_cons (xe_ty z_bool (by decide +kernel)) xa_nil)))) (xs_one (xs_ret (xe_and (x_isi z_isinstance (xa_cons (xe_var 0) (xa_cons (xe_ty z_bool (by decide +kernel)) xa_nil))) (xe_one (x_eq at_ (xe_var 0) (xe_var 1)))))) xs_nil)
  (xs_cons (xs_if (xt_val (x_isi z_isinstance (xa_cons (xe_var 1) (xa_cons (xe_ty z_int (by decide +kernel)) xa_nil)))) (xs_one (xs_ret (xe_and (x_isi z_isinstance (xa_cons (xe_var 0) (xa_cons (xe_ty z_int (by decide +kernel)) xa_nil))) (xe_and (xe_not (x_isi z_isinstance (xa_cons (xe_var 0) (xa_cons (xe_ty z_bool (by decide +kernel)) xa_nil)))) (xe_one (x_eq at_ (xe_var 0) (xe_var 1))))))) xs_nil)
  (xs_cons (xs_if (xt_val (x_isi z_isinstance (xa_cons (xe_var 1) (xa_cons (xe_ty z_str (by decide +kernel)) xa_nil)))) (xs_one (xs_ret (xe_and (x_isi z_isinstance (xa_cons (xe_var 0) (xa_cons (xe_ty z_str (by decide +kernel)) xa_nil))) (xe_one (x_eq at_ (xe_var 0) (xe_var 1)))))) xs_nil)
  (xs_one (xs_ret (x_is0 (xe_var 0) xe_non)))))))))⟩
noncomputable def b__law_all_equal_u4 : Sv :=
  sSeq (sForR1 (eCall bLen (aCons (eVar 1) (aNil))) (gSlot 2) (sIf (tNot (tVal (eCall r__law_equal_u3 (aCons (eOp oIx (eVar 0) (eVar 2)) (aCons (eOp oIx (eVar 1) (eVar 2)) (aNil)))))) (sRet (eC (.bl false))) (sNext)))
  (sRet (eC (.bl true)))
noncomputable def r__law_all_equal_u4 : List Vl → M Vl := fnM 2 3 b__law_all_equal_u4
theorem d__law_all_equal_u4 {ad : Addr} {od an : Option Addr} {osl : Array (Option Value)} {kV doc pm cdv ct oc : Value} (hg : mg "_law_all_equal" = some (.ref ad)) (lk : K.lookup ad = some ⟨oc, od, .func (PySem.W.fnOf "_law_all_equal" "_law_all_equal" (defArgs s__law_all_equal) (defBody s__law_all_equal) (defScope s__law_all_equal) .none kV doc pm an cdv ct), osl⟩)
    (hcd : PySem.W.codeIn K cdv "_law_all_equal" = true) (hk : PySem.W.keepIn K (.ref ad) = true) (D__law_equal_u3 : Def P w K mg base tabs 4 "_law_equal" ["actual", "due"] r__law_equal_u3) (z_range : mg "range" = none) (z_len : mg "len" = none) : Def P w K mg base tabs 5 "_law_all_equal" ["actual", "due"] r__law_all_equal_u4 :=
  ⟨ad, _, hg, hk, .all (fun us hl => match us, hl with | [_, _], _ => rfl), fn_ok (k := 4) lk hcd sc__law_all_equal (fun X W A outer s H E hX at_ => by subst hX; exact
    (xs_cons (xs_for_range1 at_ z_range (x_len z_len (xa_cons (xe_var 1) xa_nil)) (xg_slot 2 at_.nd) (xs_one (xs_if (xt_not (xt_val (xe_call at_ D__law_equal_u3 (by decide) (xa_cons (xe_ix (xe_var 0) (xe_var 2)) (xa_cons (xe_ix (xe_var 1) (xe_var 2)) xa_nil))))) (xs_one (xs_ret xe_bl)) xs_nil)))
  (xs_one (xs_ret xe_bl))))⟩
noncomputable def b__law_equal_u5 : Sv :=
  sSeq (sIf (tVal (eCall bIsi (aCons (eVar 1) (aCons (eC (.ty "list")) (aNil))))) (sSeq (sIf (tOr (tNot (tVal (eCall bIsi (aCons (eVar 0) (aCons (eC (.ty "list")) (aNil)))))) (tVal (eOp oNe (eCall bLen (aCons (eVar 0) (aNil))) (eCall bLen (aCons (eVar 1) (aNil)))))) (sRet (eC (.bl false))) (sNext))
  (sRet (eCall r__law_all_equal_u4 (aCons (eVar 0) (aCons (eVar 1) (aNil)))))) (sNext))
  (sSeq (sIf (tVal (eCall bIsi (aCons (eVar 1) (aCons (eC (.ty "tuple")) (aNil))))) (sSeq (sIf (tOr (tNot (tVal (eCall bIsi (aCons (eVar 0) (aCons (eC (.ty "tuple")) (aNil)))))) (tVal (eOp oNe (eCall bLen (aCons (eVar 0) (aNil))) (eCall bLen (aCons (eVar 1) (aNil)))))) (sRet (eC (.bl false))) (sNext))
  (sRet (eCall r__law_all_equal_u4 (aCons (eVar 0) (aCons (eVar 1) (aNil)))))) (sNext))
  (sSeq (sIf (tVal (eCall bIsi (aCons (eVar 1) (aCons (eC (.ty "bool")) (aNil))))) (sRet (eAnd (eCall bIsi (aCons (eVar 0) (aCons (eC (.ty "bool")) (aNil)))) (eOp oEq (eVar 0) (eVar 1)))) (sNext))
  (sSeq (sIf (tVal (eCall bIsi (aCons (eVar 1) (aCons (eC (.ty "int")) (aNil))))) (sRet (eAnd (eCall bIsi (aCons (eVar 0) (aCons (eC (.ty "int")) (aNil)))) (eAnd (eNot (eCall bIsi (aCons (eVar 0) (aCons (eC (.ty "bool")) (aNil))))) (eOp oEq (eVar 0) (eVar 1))))) (sNext))
  (sSeq (sIf (tVal (eCall bIsi (aCons (eVar 1) (aCons (eC (.ty "str")) (aNil))))) (sRet (eAnd (eCall bIsi (aCons (eVar 0) (aCons (eC (.ty "str")) (aNil)))) (eOp oEq (eVar 0) (eVar 1)))) (sNext))
  (sRet (eOp oIs0 (eVar 0) (eC .non)))))))
noncomputable def r__law_equal_u5 : List Vl → M Vl := fnM 2 2 b__law_equal_u5
theorem d__law_equal_u5 {ad : Addr} {od an : Option Addr} {osl : Array (Option Value)} {kV doc pm cdv ct oc : Value} (hg : mg "_law_equal" = some (.ref ad)) (lk : K.lookup ad = some ⟨oc, od, .func (PySem.W.fnOf "_law_equal" "_law_equal" (defArgs s__law_equal) (defBody s__law_equal) (defScope s__law_equal) .none kV doc pm an cdv ct), osl⟩)
    (hcd : PySem.W.codeIn K cdv "_law_equal" = true) (hk : PySem.W.keepIn K (.ref ad) = true) (D__law_all_equal_u4 : Def P w K mg base tabs 5 "_law_all_equal" ["actual", "due"] r__law_all_equal_u4) (z_isinstance : mg "isinstance" = none) (z_list : mg "list" = none) (z_len : mg "len" = none) (z_tuple : mg "tuple" = none) (z_bool : mg "bool" = none) (z_int : mg "int" = none) (z_str : mg "str" = none) : Def P w K mg base tabs 6 "_law_equal" ["actual", "due"] r__law_equal_u5 :=
  ⟨ad, _, hg, hk, .all (fun us hl => match us, hl with | [_, _], _ => rfl), fn_ok (k := 5) lk hcd sc__law_equal (fun X W A outer s H E hX at_ => by subst hX; exact
    (xs_cons (xs_if (xt_val (x_isi z_isinstance (xa_cons (xe_var 1) (xa_cons (xe_ty z_list (by decide +kernel)) xa_nil)))) (xs_cons (xs_if (xw_or (xt_not (xt_val (x_isi z_isinstance (xa_cons (xe_var 0) (xa_cons (xe_ty z_list (by decide +kernel)) xa_nil))))) (xw_or1 (xt_ne at_ (x_len z_len (xa_cons (xe_var 0) xa_nil)) (x_len z_len (xa_cons (xe_var 1) xa_nil))))).pt (xs_one (xs_ret xe_bl)) xs_nil)
  (xs_one (xs_ret (xe_call at_ D__law_all_equal_u4 (by decide) (xa_cons (xe_var 0) (xa_cons (xe_var 1) xa_nil)))))) xs_nil)
  (xs_cons (xs_if (xt_val (x_isi z_isinstance (xa_cons (xe_var 1) (xa_cons (xe_ty z_tuple (by decide +kernel)) xa_nil)))) (xs_cons (xs_if (xw_or (xt_not (xt_val (x_isi z_isinstance (xa_cons (xe_var 0) (xa_cons (xe_ty z_tuple (by decide +kernel)) xa_nil))))) (xw_or1 (xt_ne at_ (x_len z_len (xa_cons (xe_var 0) xa_nil)) (x_len z_len (xa_cons (xe_var 1) xa_nil))))).pt (xs_one (xs_ret xe_bl)) xs_nil)
  (xs_one (xs_ret (xe_call at_ D__law_all_equal_u4 (by decide) (xa_cons (xe_var 0) (xa_cons (xe_var 1) xa_nil)))))) xs_nil)
  (xs_cons (xs_if (xt_val (x_isi z_isinstance (xa_cons (xe_var 1) (xa_cons (xe_ty z_bool (by decide +kernel)) xa_nil)))) (xs_one (xs_ret (xe_and (x_isi z_isinstance (xa_cons (xe_var 0) (xa_cons (xe_ty z_bool (by decide +kernel)) xa_nil))) (xe_one (x_eq at_ (xe_var 0) (xe_var 1)))))) xs_nil)
  (xs_cons (xs_if (xt_val (x_isi z_isinstance (xa_cons (xe_var 1) (xa_cons (xe_ty z_int (by decide +kernel)) xa_nil)))) (xs_one (xs_ret (xe_and (x_isi z_isinstance (xa_cons (xe_var 0) (xa_cons (xe_ty z_int (by decide +kernel)) xa_nil))) (xe_and (xe_not (x_isi z_isinstance (xa_cons (xe_var 0) (xa_cons (xe_ty z_bool (by decide +kernel)) xa_nil)))) (xe_one (x_eq at_ (xe_var 0) (xe_var 1))))))) xs_nil)
  (xs_cons (xs_if (xt_val (x_isi z_isinstance (xa_cons (xe_var 1) (xa_cons (xe_ty z_str (by decide +kernel)) xa_nil)))) (xs_one (xs_ret (xe_and (x_isi z_isinstance (xa_cons (xe_var 0) (xa_cons (xe_ty z_str (by decide +kernel)) xa_nil))) (xe_one (x_eq at_ (xe_var 0) (xe_var 1)))))) xs_nil)
  (xs_one (xs_ret (x_is0 (xe_var 0) xe_non)))))))))⟩
noncomputable def b__law_all_equal_u5 : Sv :=
  sSeq (sForR1 (eCall bLen (aCons (eVar 1) (aNil))) (gSlot 2) (sIf (tNot (tVal (eCall r__law_equal_u4 (aCons (eOp oIx (eVar 0) (eVar 2)) (aCons (eOp oIx (eVar 1) (eVar 2)) (aNil)))))) (sRet (eC (.bl false))) (sNext)))
  (sRet (eC (.bl true)))
noncomputable def r__law_all_equal_u5 : List Vl → M Vl := fnM 2 3 b__law_all_equal_u5
theorem d__law_all_equal_u5 {ad : Addr} {od an : Option Addr} {osl : Array (Option Value)} {kV doc pm cdv ct oc : Value} (hg : mg "_law_all_equal" = some (.ref ad)) (lk : K.lookup ad = some ⟨oc, od, .func (PySem.W.fnOf "_law_all_equal" "_law_all_equal" (defArgs s__law_all_equal) (defBody s__law_all_equal) (defScope s__law_all_equal) .none kV doc pm an cdv ct), osl⟩)
    (hcd : PySem.W.codeIn K cdv "_law_all_equal" = true) (hk : PySem.W.keepIn K (.ref ad) = true) (D__law_equal_u4 : Def P w K mg base tabs 5 "_law_equal" ["actual", "due"] r__law_equal_u4) (z_range : mg "range" = none) (z_len : mg "len" = none) : Def P w K mg base tabs 6 "_law_all_equal" ["actual", "due"] r__law_all_equal_u5 :=
  ⟨ad, _, hg, hk, .all (fun us hl => match us, hl with | [_, _], _ => rfl), fn_ok (k := 5) lk hcd sc__law_all_equal (fun X W A outer s H E hX at_ => by subst hX; exact
    (xs_cons (xs_for_range1 at_ z_range (x_len z_len (xa_cons (xe_var 1) xa_nil)) (xg_slot 2 at_.nd) (xs_one (xs_if (xt_not (xt_val (xe_call at_ D__law_equal_u4 (by decide) (xa_cons (xe_ix (xe_var 0) (xe_var 2)) (xa_cons (xe_ix (xe_var 1) (xe_var 2)) xa_nil))))) (xs_one (xs_ret xe_bl)) xs_nil)))
  (xs_one (xs_ret xe_bl))))⟩
noncomputable def b__law_equal_u6 : Sv :=
  sSeq (sIf (tVal (eCall bIsi (aCons (eVar 1) (aCons (eC (.ty "list")) (aNil))))) (sSeq (sIf (tOr (tNot (tVal (eCall bIsi (aCons (eVar 0) (aCons (eC (.ty "list")) (aNil)))))) (tVal (eOp oNe (eCall bLen (aCons (eVar 0) (aNil))) (eCall bLen (aCons (eVar 1) (aNil)))))) (sRet (eC (.bl false))) (sNext))
  (sRet (eCall r__law_all_equal_u5 (aCons (eVar 0) (aCons (eVar 1) (aNil)))))) (sNext))
  (sSeq (sIf (tVal (eCall bIsi (aCons (eVar 1) (aCons (eC (.ty "tuple")) (aNil))))) (sSeq (sIf (tOr (tNot (tVal (eCall bIsi (aCons (eVar 0) (aCons (eC (.ty "tuple")) (aNil)))))) (tVal (eOp oNe (eCall bLen (aCons (eVar 0) (aNil))) (eCall bLen (aCons (eVar 1) (aNil)))))) (sRet (eC (.bl false))) (sNext))
  (sRet (eCall r__law_all_equal_u5 (aCons (eVar 0) (aCons (eVar 1) (aNil)))))) (sNext))
  (sSeq (sIf (tVal (eCall bIsi (aCons (eVar 1) (aCons (eC (.ty "bool")) (aNil))))) (sRet (eAnd (eCall bIsi (aCons (eVar 0) (aCons (eC (.ty "bool")) (aNil)))) (eOp oEq (eVar 0) (eVar 1)))) (sNext))
  (sSeq (sIf (tVal (eCall bIsi (aCons (eVar 1) (aCons (eC (.ty "int")) (aNil))))) (sRet (eAnd (eCall bIsi (aCons (eVar 0) (aCons (eC (.ty "int")) (aNil)))) (eAnd (eNot (eCall bIsi (aCons (eVar 0) (aCons (eC (.ty "bool")) (aNil))))) (eOp oEq (eVar 0) (eVar 1))))) (sNext))
  (sSeq (sIf (tVal (eCall bIsi (aCons (eVar 1) (aCons (eC (.ty "str")) (aNil))))) (sRet (eAnd (eCall bIsi (aCons (eVar 0) (aCons (eC (.ty "str")) (aNil)))) (eOp oEq (eVar 0) (eVar 1)))) (sNext))
  (sRet (eOp oIs0 (eVar 0) (eC .non)))))))
noncomputable def r__law_equal_u6 : List Vl → M Vl := fnM 2 2 b__law_equal_u6
theorem d__law_equal_u6 {ad : Addr} {od an : Option Addr} {osl : Array (Option Value)} {kV doc pm cdv ct oc : Value} (hg : mg "_law_equal" = some (.ref ad)) (lk : K.lookup ad = some ⟨oc, od, .func (PySem.W.fnOf "_law_equal" "_law_equal" (defArgs s__law_equal) (defBody s__law_equal) (defScope s__law_equal) .none kV doc pm an cdv ct), osl⟩)
    (hcd : PySem.W.codeIn K cdv "_law_equal" = true) (hk : PySem.W.keepIn K (.ref ad) = true) (D__law_all_equal_u5 : Def P w K mg base tabs 6 "_law_all_equal" ["actual", "due"] r__law_all_equal_u5) (z_isinstance : mg "isinstance" = none) (z_list : mg "list" = none) (z_len : mg "len" = none) (z_tuple : mg "tuple" = none) (z_bool : mg "bool" = none) (z_int : mg "int" = none) (z_str : mg "str" = none) : Def P w K mg base tabs 7 "_law_equal" ["actual", "due"] r__law_equal_u6 :=
  ⟨ad, _, hg, hk, .all (fun us hl => match us, hl with | [_, _], _ => rfl), fn_ok (k := 6) lk hcd sc__law_equal (fun X W A outer s H E hX at_ => by subst hX; exact
    (xs_cons (xs_if (xt_val (x_isi z_isinstance (xa_cons (xe_var 1) (xa_cons (xe_ty z_list (by decide +kernel)) xa_nil)))) (xs_cons (xs_if (xw_or (xt_not (xt_val (x_isi z_isinstance (xa_cons (xe_var 0) (xa_cons (xe_ty z_list (by decide +kernel)) xa_nil))))) (xw_or1 (xt_ne at_ (x_len z_len (xa_cons (xe_var 0) xa_nil)) (x_len z_len (xa_cons (xe_var 1) xa_nil))))).pt (xs_one (xs_ret xe_bl)) xs_nil)
  (xs_one (xs_ret (xe_call at_ D__law_all_equal_u5 (by decide) (xa_cons (xe_var 0) (xa_cons (xe_var 1) xa_nil)))))) xs_nil)
  (xs_cons (xs_if (xt_val (x_isi z_isinstance (xa_cons (xe_var 1) (xa_cons (xe_ty z_tuple (by decide +kernel)) xa_nil)))) (xs_cons (xs_if (xw_or (xt_not (xt_val (x_isi z_isinstance (xa_cons (xe_var 0) (xa_cons (xe_ty z_tuple (by decide +kernel)) xa_nil))))) (xw_or1 (xt_ne at_ (x_len z_len (xa_cons (xe_var 0) xa_nil)) (x_len z_len (xa_cons (xe_var 1) xa_nil))))).pt (xs_one (xs_ret xe_bl)) xs_nil)
  (xs_one (xs_ret (xe_call at_ D__law_all_equal_u5 (by decide) (xa_cons (xe_var 0) (xa_cons (xe_var 1) xa_nil)))))) xs_nil)
  (xs_cons (xs_if (xt_val (x_isi z_isinstance (xa_cons (xe_var 1) (xa_cons (xe_ty z_bool (by decide +kernel)) xa_nil)))) (xs_one (xs_ret (xe_and (x_isi z_isinstance (xa_cons (xe_var 0) (xa_cons (xe_ty z_bool (by decide +kernel)) xa_nil))) (xe_one (x_eq at_ (xe_var 0) (xe_var 1)))))) xs_nil)
  (xs_cons (xs_if (xt_val (x_isi z_isinstance (xa_cons (xe_var 1) (xa_cons (xe_ty z_int (by decide +kernel)) xa_nil)))) (xs_one (xs_ret (xe_and (x_isi z_isinstance (xa_cons (xe_var 0) (xa_cons (xe_ty z_int (by decide +kernel)) xa_nil))) (xe_and (xe_not (x_isi z_isinstance (xa_cons (xe_var 0) (xa_cons (xe_ty z_bool (by decide +kernel)) xa_nil)))) (xe_one (x_eq at_ (xe_var 0) (xe_var 1))))))) xs_nil)
  (xs_cons (xs_if (xt_val (x_isi z_isinstance (xa_cons (xe_var 1) (xa_cons (xe_ty z_str (by decide +kernel)) xa_nil)))) (xs_one (xs_ret (xe_and (x_isi z_isinstance (xa_cons (xe_var 0) (xa_cons (xe_ty z_str (by decide +kernel)) xa_nil))) (xe_one (x_eq at_ (xe_var 0) (xe_var 1)))))) xs_nil)
  (xs_one (xs_ret (x_is0 (xe_var 0) xe_non)))))))))⟩
noncomputable def b__law_all_equal_u6 : Sv :=
  sSeq (sForR1 (eCall bLen (aCons (eVar 1) (aNil))) (gSlot 2) (sIf (tNot (tVal (eCall r__law_equal_u5 (aCons (eOp oIx (eVar 0) (eVar 2)) (aCons (eOp oIx (eVar 1) (eVar 2)) (aNil)))))) (sRet (eC (.bl false))) (sNext)))
  (sRet (eC (.bl true)))
noncomputable def r__law_all_equal_u6 : List Vl → M Vl := fnM 2 3 b__law_all_equal_u6
theorem d__law_all_equal_u6 {ad : Addr} {od an : Option Addr} {osl : Array (Option Value)} {kV doc pm cdv ct oc : Value} (hg : mg "_law_all_equal" = some (.ref ad)) (lk : K.lookup ad = some ⟨oc, od, .func (PySem.W.fnOf "_law_all_equal" "_law_all_equal" (defArgs s__law_all_equal) (defBody s__law_all_equal) (defScope s__law_all_equal) .none kV doc pm an cdv ct), osl⟩)
    (hcd : PySem.W.codeIn K cdv "_law_all_equal" = true) (hk : PySem.W.keepIn K (.ref ad) = true) (D__law_equal_u5 : Def P w K mg base tabs 6 "_law_equal" ["actual", "due"] r__law_equal_u5) (z_range : mg "range" = none) (z_len : mg "len" = none) : Def P w K mg base tabs 7 "_law_all_equal" ["actual", "due"] r__law_all_equal_u6 :=
  ⟨ad, _, hg, hk, .all (fun us hl => match us, hl with | [_, _], _ => rfl), fn_ok (k := 6) lk hcd sc__law_all_equal (fun X W A outer s H E hX at_ => by subst hX; exact
    (xs_cons (xs_for_range1 at_ z_range (x_len z_len (xa_cons (xe_var 1) xa_nil)) (xg_slot 2 at_.nd) (xs_one (xs_if (xt_not (xt_val (xe_call at_ D__law_equal_u5 (by decide) (xa_cons (xe_ix (xe_var 0) (xe_var 2)) (xa_cons (xe_ix (xe_var 1) (xe_var 2)) xa_nil))))) (xs_one (xs_ret xe_bl)) xs_nil)))
  (xs_one (xs_ret xe_bl))))⟩
noncomputable def b__law_equal_u7 : Sv :=
  sSeq (sIf (tVal (eCall bIsi (aCons (eVar 1) (aCons (eC (.ty "list")) (aNil))))) (sSeq (sIf (tOr (tNot (tVal (eCall bIsi (aCons (eVar 0) (aCons (eC (.ty "list")) (aNil)))))) (tVal (eOp oNe (eCall bLen (aCons (eVar 0) (aNil))) (eCall bLen (aCons (eVar 1) (aNil)))))) (sRet (eC (.bl false))) (sNext))
  (sRet (eCall r__law_all_equal_u6 (aCons (eVar 0) (aCons (eVar 1) (aNil)))))) (sNext))
  (sSeq (sIf (tVal (eCall bIsi (aCons (eVar 1) (aCons (eC (.ty "tuple")) (aNil))))) (sSeq (sIf (tOr (tNot (tVal (eCall bIsi (aCons (eVar 0) (aCons (eC (.ty "tuple")) (aNil)))))) (tVal (eOp oNe (eCall bLen (aCons (eVar 0) (aNil))) (eCall bLen (aCons (eVar 1) (aNil)))))) (sRet (eC (.bl false))) (sNext))
  (sRet (eCall r__law_all_equal_u6 (aCons (eVar 0) (aCons (eVar 1) (aNil)))))) (sNext))
  (sSeq (sIf (tVal (eCall bIsi (aCons (eVar 1) (aCons (eC (.ty "bool")) (aNil))))) (sRet (eAnd (eCall bIsi (aCons (eVar 0) (aCons (eC (.ty "bool")) (aNil)))) (eOp oEq (eVar 0) (eVar 1)))) (sNext))
  (sSeq (sIf (tVal (eCall bIsi (aCons (eVar 1) (aCons (eC (.ty "int")) (aNil))))) (sRet (eAnd (eCall bIsi (aCons (eVar 0) (aCons (eC (.ty "int")) (aNil)))) (eAnd (eNot (eCall bIsi (aCons (eVar 0) (aCons (eC (.ty "bool")) (aNil))))) (eOp oEq (eVar 0) (eVar 1))))) (sNext))
  (sSeq (sIf (tVal (eCall bIsi (aCons (eVar 1) (aCons (eC (.ty "str")) (aNil))))) (sRet (eAnd (eCall bIsi (aCons (eVar 0) (aCons (eC (.ty "str")) (aNil)))) (eOp oEq (eVar 0) (eVar 1)))) (sNext))
  (sRet (eOp oIs0 (eVar 0) (eC .non)))))))
noncomputable def r__law_equal_u7 : List Vl → M Vl := fnM 2 2 b__law_equal_u7
theorem d__law_equal_u7 {ad : Addr} {od an : Option Addr} {osl : Array (Option Value)} {kV doc pm cdv ct oc : Value} (hg : mg "_law_equal" = some (.ref ad)) (lk : K.lookup ad = some ⟨oc, od, .func (PySem.W.fnOf "_law_equal" "_law_equal" (defArgs s__law_equal) (defBody s__law_equal) (defScope s__law_equal) .none kV doc pm an cdv ct), osl⟩)
    (hcd : PySem.W.codeIn K cdv "_law_equal" = true) (hk : PySem.W.keepIn K (.ref ad) = true) (D__law_all_equal_u6 : Def P w K mg base tabs 7 "_law_all_equal" ["actual", "due"] r__law_all_equal_u6) (z_isinstance : mg "isinstance" = none) (z_list : mg "list" = none) (z_len : mg "len" = none) (z_tuple : mg "tuple" = none) (z_bool : mg "bool" = none) (z_int : mg "int" = none) (z_str : mg "str" = none) : Def P w K mg base tabs 8 "_law_equal" ["actual", "due"] r__law_equal_u7 :=
  ⟨ad, _, hg, hk, .all (fun us hl => match us, hl with | [_, _], _ => rfl), fn_ok (k := 7) lk hcd sc__law_equal (fun X W A outer s H E hX at_ => by subst hX; exact
    (xs_cons (xs_if (xt_val (x_isi z_isinstance (xa_cons (xe_var 1) (xa_cons (xe_ty z_list (by decide +kernel)) xa_nil)))) (xs_cons (xs_if (xw_or (xt_not (xt_val (x_isi z_isinstance (xa_cons (xe_var 0) (xa_cons (xe_ty z_list (by decide +kernel)) xa_nil))))) (xw_or1 (xt_ne at_ (x_len z_len (xa_cons (xe_var 0) xa_nil)) (x_len z_len (xa_cons (xe_var 1) xa_nil))))).pt (xs_one (xs_ret xe_bl)) xs_nil)
  (xs_one (xs_ret (xe_call at_ D__law_all_equal_u6 (by decide) (xa_cons (xe_var 0) (xa_cons (xe_var 1) xa_nil)))))) xs_nil)
  (xs_cons (xs_if (xt_val (x_isi z_isinstance (xa_cons (xe_var 1) (xa_cons (xe_ty z_tuple (by decide +kernel)) xa_nil)))) (xs_cons (xs_if (xw_or (xt_not (xt_val (x_isi z_isinstance (xa_cons (xe_var 0) (xa_cons (xe_ty z_tuple (by decide +kernel)) xa_nil))))) (xw_or1 (xt_ne at_ (x_len z_len (xa_cons (xe_var 0) xa_nil)) (x_len z_len (xa_cons (xe_var 1) xa_nil))))).pt (xs_one (xs_ret xe_bl)) xs_nil)
  (xs_one (xs_ret (xe_call at_ D__law_all_equal_u6 (by decide) (xa_cons (xe_var 0) (xa_cons (xe_var 1) xa_nil)))))) xs_nil)
  (xs_cons (xs_if (xt_val (x_isi z_isinstance (xa_cons (xe_var 1) (xa_cons (xe_ty z_bool (by decide +kernel)) xa_nil)))) (xs_one (xs_ret (xe_and (x_isi z_isinstance (xa_cons (xe_var 0) (xa_cons (xe_ty z_bool (by decide +kernel)) xa_nil))) (xe_one (x_eq at_ (xe_var 0) (xe_var 1)))))) xs_nil)
  (xs_cons (xs_if (xt_val (x_isi z_isinstance (xa_cons (xe_var 1) (xa_cons (xe_ty z_int (by decide +kernel)) xa_nil)))) (xs_one (xs_ret (xe_and (x_isi z_isinstance (xa_cons (xe_var 0) (xa_cons (xe_ty z_int (by decide +kernel)) xa_nil))) (xe_and (xe_not (x_isi z_isinstance (xa_cons (xe_var 0) (xa_cons (xe_ty z_bool (by decide +kernel)) xa_nil)))) (xe_one (x_eq at_ (xe_var 0) (xe_var 1))))))) xs_nil)
  (xs_cons (xs_if (xt_val (x_isi z_isinstance (xa_cons (xe_var 1) (xa_cons (xe_ty z_str (by decide +kernel)) xa_nil)))) (xs_one (xs_ret (xe_and (x_isi z_isinstance (xa_cons (xe_var 0) (xa_cons (xe_ty z_str (by decide +kernel)) xa_nil))) (xe_one (x_eq at_ (xe_var 0) (xe_var 1)))))) xs_nil)
  (xs_one (xs_ret (x_is0 (xe_var 0) xe_non)))))))))⟩
noncomputable def b__law_all_equal_u7 : Sv :=
  sSeq (sForR1 (eCall bLen (aCons (eVar 1) (aNil))) (gSlot 2) (sIf (tNot (tVal (eCall r__law_equal_u6 (aCons (eOp oIx (eVar 0) (eVar 2)) (aCons (eOp oIx (eVar 1) (eVar 2)) (aNil)))))) (sRet (eC (.bl false))) (sNext)))
  (sRet (eC (.bl true)))
noncomputable def r__law_all_equal_u7 : List Vl → M Vl := fnM 2 3 b__law_all_equal_u7
theorem d__law_all_equal_u7 {ad : Addr} {od an : Option Addr} {osl : Array (Option Value)} {kV doc pm cdv ct oc : Value} (hg : mg "_law_all_equal" = some (.ref ad)) (lk : K.lookup ad = some ⟨oc, od, .func (PySem.W.fnOf "_law_all_equal" "_law_all_equal" (defArgs s__law_all_equal) (defBody s__law_all_equal) (defScope s__law_all_equal) .none kV doc pm an cdv ct), osl⟩)
    (hcd : PySem.W.codeIn K cdv "_law_all_equal" = true) (hk : PySem.W.keepIn K (.ref ad) = true) (D__law_equal_u6 : Def P w K mg base tabs 7 "_law_equal" ["actual", "due"] r__law_equal_u6) (z_range : mg "range" = none) (z_len : mg "len" = none) : Def P w K mg base tabs 8 "_law_all_equal" ["actual", "due"] r__law_all_equal_u7 :=
  ⟨ad, _, hg, hk, .all (fun us hl => match us, hl with | [_, _], _ => rfl), fn_ok (k := 7) lk hcd sc__law_all_equal (fun X W A outer s H E hX at_ => by subst hX; exact
    (xs_cons (xs_for_range1 at_ z_range (x_len z_len (xa_cons (xe_var 1) xa_nil)) (xg_slot 2 at_.nd) (xs_one (xs_if (xt_not (xt_val (xe_call at_ D__law_equal_u6 (by decide) (xa_cons (xe_ix (xe_var 0) (xe_var 2)) (xa_cons (xe_ix (xe_var 1) (xe_var 2)) xa_nil))))) (xs_one (xs_ret xe_bl)) xs_nil)))
  (xs_one (xs_ret xe_bl))))⟩
noncomputable def b__law_equal_u8 : Sv :=
  sSeq (sIf (tVal (eCall bIsi (aCons (eVar 1) (aCons (eC (.ty "list")) (aNil))))) (sSeq (sIf (tOr (tNot (tVal (eCall bIsi (aCons (eVar 0) (aCons (eC (.ty "list")) (aNil)))))) (tVal (eOp oNe (eCall bLen (aCons (eVar 0) (aNil))) (eCall bLen (aCons (eVar 1) (aNil)))))) (sRet (eC (.bl false))) (sNext))
  (sRet (eCall r__law_all_equal_u7 (aCons (eVar 0) (aCons (eVar 1) (aNil)))))) (sNext))
  (sSeq (sIf (tVal (eCall bIsi (aCons (eVar 1) (aCons (eC (.ty "tuple")) (aNil))))) (sSeq (sIf (tOr (tNot (tVal (eCall bIsi (aCons (eVar 0) (aCons (eC (.ty "tuple")) (aNil)))))) (tVal (eOp oNe (eCall bLen (aCons (eVar 0) (aNil))) (eCall bLen (aCons (eVar 1) (aNil)))))) (sRet (eC (.bl false))) (sNext))
  (sRet (eCall r__law_all_equal_u7 (aCons (eVar 0) (aCons (eVar 1) (aNil)))))) (sNext))
  (sSeq (sIf (tVal (eCall bIsi (aCons (eVar 1) (aCons (eC (.ty "bool")) (aNil))))) (sRet (eAnd (eCall bIsi (aCons (eVar 0) (aCons (eC (.ty "bool")) (aNil)))) (eOp oEq (eVar 0) (eVar 1)))) (sNext))
  (sSeq (sIf (tVal (eCall bIsi (aCons (eVar 1) (aCons (eC (.ty "int")) (aNil))))) (sRet (eAnd (eCall bIsi (aCons (eVar 0) (aCons (eC (.ty "int")) (aNil)))) (eAnd (eNot (eCall bIsi (aCons (eVar 0) (aCons (eC (.ty "bool")) (aNil))))) (eOp oEq (eVar 0) (eVar 1))))) (sNext))
  (sSeq (sIf (tVal (eCall bIsi (aCons (eVar 1) (aCons (eC (.ty "str")) (aNil))))) (sRet (eAnd (eCall bIsi (aCons (eVar 0) (aCons (eC (.ty "str")) (aNil)))) (eOp oEq (eVar 0) (eVar 1)))) (sNext))
  (sRet (eOp oIs0 (eVar 0) (eC .non)))))))
noncomputable def r__law_equal_u8 : List Vl → M Vl := fnM 2 2 b__law_equal_u8
theorem d__law_equal_u8 {ad : Addr} {od an : Option Addr} {osl : Array (Option Value)} {kV doc pm cdv ct oc : Value} (hg : mg "_law_equal" = some (.ref ad)) (lk : K.lookup ad = some ⟨oc, od, .func (PySem.W.fnOf "_law_equal" "_law_equal" (defArgs s__law_equal) (defBody s__law_equal) (defScope s__law_equal) .none kV doc pm an cdv ct), osl⟩)
    (hcd : PySem.W.codeIn K cdv "_law_equal" = true) (hk : PySem.W.keepIn K (.ref ad) = true) (D__law_all_equal_u7 : Def P w K mg base tabs 8 "_law_all_equal" ["actual", "due"] r__law_all_equal_u7) (z_isinstance : mg "isinstance" = none) (z_list : mg "list" = none) (z_len : mg "len" = none) (z_tuple : mg "tuple" = none) (z_bool : mg "bool" = none) (z_int : mg "int" = none) (z_str : mg "str" = none) : Def P w K mg base tabs 9 "_law_equal" ["actual", "due"] r__law_equal_u8 :=
  ⟨ad, _, hg, hk, .all (fun us hl => match us, hl with | [_, _], _ => rfl), fn_ok (k := 8) lk hcd sc__law_equal (fun X W A outer s H E hX at_ => by subst hX; exact
    (xs_cons (xs_if (xt_val (x_isi z_isinstance (xa_cons (xe_var 1) (xa_cons (xe_ty z_list (by decide +kernel)) xa_nil)))) (xs_cons (xs_if (xw_or (xt_not (xt_val (x_isi z_isinstance (xa_cons (xe_var 0) (xa_cons (xe_ty z_list (by decide +kernel)) xa_nil))))) (xw_or1 (xt_ne at_ (x_len z_len (xa_cons (xe_var 0) xa_nil)) (x_len z_len (xa_cons (xe_var 1) xa_nil))))).pt (xs_one (xs_ret xe_bl)) xs_nil)
  (xs_one (xs_ret (xe_call at_ D__law_all_equal_u7 (by decide) (xa_cons (xe_var 0) (xa_cons (xe_var 1) xa_nil)))))) xs_nil)
  (xs_cons (xs_if (xt_val (x_isi z_isinstance (xa_cons (xe_var 1) (xa_cons (xe_ty z_tuple (by decide +kernel)) xa_nil)))) (xs_cons (xs_if (xw_or (xt_not (xt_val (x_isi z_isinstance (xa_cons (xe_var 0) (xa_cons (xe_ty z_tuple (by decide +kernel)) xa_nil))))) (xw_or1 (xt_ne at_ (x_len z_len (xa_cons (xe_var 0) xa_nil)) (x_len z_len (xa_cons (xe_var 1) xa_nil))))).pt (xs_one (xs_ret xe_bl)) xs_nil)
  (xs_one (xs_ret (xe_call at_ D__law_all_equal_u7 (by decide) (xa_cons (xe_var 0) (xa_cons (xe_var 1) xa_nil)))))) xs_nil)
  (xs_cons (xs_if (xt_val (x_isi z_isinstance (xa_cons (xe_var 1) (xa_cons (xe_ty z_bool (by decide +kernel)) xa_nil)))) (xs_one (xs_ret (xe_and (x_isi z_isinstance (xa_cons (xe_var 0) (xa_cons (xe_ty z_bool (by decide +kernel)) xa_nil))) (xe_one (x_eq at_ (xe_var 0) (xe_var 1)))))) xs_nil)
  (xs_cons (xs_if (xt_val (x_isi z_isinstance (xa_cons (xe_var 1) (xa_cons (xe_ty z_int (by decide +kernel)) xa_nil)))) (xs_one (xs_ret (xe_and (x_isi z_isinstance (xa_cons (xe_var 0) (xa_cons (xe_ty z_int (by decide +kernel)) xa_nil))) (xe_and (xe_not (x_isi z_isinstance (xa_cons (xe_var 0) (xa_cons (xe_ty z_bool (by decide +kernel)) xa_nil)))) (xe_one (x_eq at_ (xe_var 0) (xe_var 1))))))) xs_nil)
  (xs_cons (xs_if (xt_val (x_isi z_isinstance (xa_cons (xe_var 1) (xa_cons (xe_ty z_str (by decide +kernel)) xa_nil)))) (xs_one (xs_ret (xe_and (x_isi z_isinstance (xa_cons (xe_var 0) (xa_cons (xe_ty z_str (by decide +kernel)) xa_nil))) (xe_one (x_eq at_ (xe_var 0) (xe_var 1)))))) xs_nil)
  (xs_one (xs_ret (x_is0 (xe_var 0) xe_non)))))))))⟩
noncomputable def b__law_all_equal_u8 : Sv :=
  sSeq (sForR1 (eCall bLen (aCons (eVar 1) (aNil))) (gSlot 2) (sIf (tNot (tVal (eCall r__law_equal_u7 (aCons (eOp oIx (eVar 0) (eVar 2)) (aCons (eOp oIx (eVar 1) (eVar 2)) (aNil)))))) (sRet (eC (.bl false))) (sNext)))
  (sRet (eC (.bl true)))
noncomputable def r__law_all_equal_u8 : List Vl → M Vl := fnM 2 3 b__law_all_equal_u8
theorem d__law_all_equal_u8 {ad : Addr} {od an : Option Addr} {osl : Array (Option Value)} {kV doc pm cdv ct oc : Value} (hg : mg "_law_all_equal" = some (.ref ad)) (lk : K.lookup ad = some ⟨oc, od, .func (PySem.W.fnOf "_law_all_equal" "_law_all_equal" (defArgs s__law_all_equal) (defBody s__law_all_equal) (defScope s__law_all_equal) .none kV doc pm an cdv ct), osl⟩)
    (hcd : PySem.W.codeIn K cdv "_law_all_equal" = true) (hk : PySem.W.keepIn K (.ref ad) = true) (D__law_equal_u7 : Def P w K mg base tabs 8 "_law_equal" ["actual", "due"] r__law_equal_u7) (z_range : mg "range" = none) (z_len : mg "len" = none) : Def P w K mg base tabs 9 "_law_all_equal" ["actual", "due"] r__law_all_equal_u8 :=
  ⟨ad, _, hg, hk, .all (fun us hl => match us, hl with | [_, _], _ => rfl), fn_ok (k := 8) lk hcd sc__law_all_equal (fun X W A outer s H E hX at_ => by subst hX; exact
    (xs_cons (xs_for_range1 at_ z_range (x_len z_len (xa_cons (xe_var 1) xa_nil)) (xg_slot 2 at_.nd) (xs_one (xs_if (xt_not (xt_val (xe_call at_ D__law_equal_u7 (by decide) (xa_cons (xe_ix (xe_var 0) (xe_var 2)) (xa_cons (xe_ix (xe_var 1) (xe_var 2)) xa_nil))))) (xs_one (xs_ret xe_bl)) xs_nil)))
  (xs_one (xs_ret xe_bl))))⟩
noncomputable def b__law_equal_u9 : Sv :=
  sSeq (sIf (tVal (eCall bIsi (aCons (eVar 1) (aCons (eC (.ty "list")) (aNil))))) (sSeq (sIf (tOr (tNot (tVal (eCall bIsi (aCons (eVar 0) (aCons (eC (.ty "list")) (aNil)))))) (tVal (eOp oNe (eCall bLen (aCons (eVar 0) (aNil))) (eCall bLen (aCons (eVar 1) (aNil)))))) (sRet (eC (.bl false))) (sNext))
  (sRet (eCall r__law_all_equal_u8 (aCons (eVar 0) (aCons (eVar 1) (aNil)))))) (sNext))
  (sSeq (sIf (tVal (eCall bIsi (aCons (eVar 1) (aCons (eC (.ty "tuple")) (aNil))))) (sSeq (sIf (tOr (tNot (tVal (eCall bIsi (aCons (eVar 0) (aCons (eC (.ty "tuple")) (aNil)))))) (tVal (eOp oNe (eCall bLen (aCons (eVar 0) (aNil))) (eCall bLen (aCons (eVar 1) (aNil)))))) (sRet (eC (.bl false))) (sNext))
  (sRet (eCall r__law_all_equal_u8 (aCons (eVar 0) (aCons (eVar 1) (aNil)))))) (sNext))
  (sSeq (sIf (tVal (eCall bIsi (aCons (eVar 1) (aCons (eC (.ty "bool")) (aNil))))) (sRet (eAnd (eCall bIsi (aCons (eVar 0) (aCons (eC (.ty "bool")) (aNil)))) (eOp oEq (eVar 0) (eVar 1)))) (sNext))
  (sSeq (sIf (tVal (eCall bIsi (aCons (eVar 1) (aCons (eC (.ty "int")) (aNil))))) (sRet (eAnd (eCall bIsi (aCons (eVar 0) (aCons (eC (.ty "int")) (aNil)))) (eAnd (eNot (eCall bIsi (aCons (eVar 0) (aCons (eC (.ty "bool")) (aNil))))) (eOp oEq (eVar 0) (eVar 1))))) (sNext))
  (sSeq (sIf (tVal (eCall bIsi (aCons (eVar 1) (aCons (eC (.ty "str")) (aNil))))) (sRet (eAnd (eCall bIsi (aCons (eVar 0) (aCons (eC (.ty "str")) (aNil)))) (eOp oEq (eVar 0) (eVar 1)))) (sNext))
  (sRet (eOp oIs0 (eVar 0) (eC .non)))))))
noncomputable def r__law_equal_u9 : List Vl → M Vl := fnM 2 2 b__law_equal_u9
theorem d__law_equal_u9 {ad : Addr} {od an : Option Addr} {osl : Array (Option Value)} {kV doc pm cdv ct oc : Value} (hg : mg "_law_equal" = some (.ref ad)) (lk : K.lookup ad = some ⟨oc, od, .func (PySem.W.fnOf "_law_equal" "_law_equal" (defArgs s__law_equal) (defBody s__law_equal) (defScope s__law_equal) .none kV doc pm an cdv ct), osl⟩)
    (hcd : PySem.W.codeIn K cdv "_law_equal" = true) (hk : PySem.W.keepIn K (.ref ad) = true) (D__law_all_equal_u8 : Def P w K mg base tabs 9 "_law_all_equal" ["actual", "due"] r__law_all_equal_u8) (z_isinstance : mg "isinstance" = none) (z_list : mg "list" = none) (z_len : mg "len" = none) (z_tuple : mg "tuple" = none) (z_bool : mg "bool" = none) (z_int : mg "int" = none) (z_str : mg "str" = none) : Def P w K mg base tabs 10 "_law_equal" ["actual", "due"] r__law_equal_u9 :=
  ⟨ad, _, hg, hk, .all (fun us hl => match us, hl with | [_, _], _ => rfl), fn_ok (k := 9) lk hcd sc__law_equal (fun X W A outer s H E hX at_ => by subst hX; exact
    (xs_cons (xs_if (xt_val (x_isi z_isinstance (xa_cons (xe_var 1) (xa_cons (xe_ty z_list (by decide +kernel)) xa_nil)))) (xs_cons (xs_if (xw_or (xt_not (xt_val (x_isi z_isinstance (xa_cons (xe_var 0) (xa_cons (xe_ty z_list (by decide +kernel)) xa_nil))))) (xw_or1 (xt_ne at_ (x_len z_len (xa_cons (xe_var 0) xa_nil)) (x_len z_len (xa_cons (xe_var 1) xa_nil))))).pt (xs_one (xs_ret xe_bl)) xs_nil)
  (xs_one (xs_ret (xe_call at_ D__law_all_equal_u8 (by decide) (xa_cons (xe_var 0) (xa_cons (xe_var 1) xa_nil)))))) xs_nil)
  (xs_cons (xs_if (xt_val (x_isi z_isinstance (xa_cons (xe_var 1) (xa_cons (xe_ty z_tuple (by decide +kernel)) xa_nil)))) (xs_cons (xs_if (xw_or (xt_not (xt_val (x_isi z_isinstance (xa_cons (xe_var 0) (xa_cons (xe_ty z_tuple (by decide +kernel)) xa_nil))))) (xw_or1 (xt_ne at_ (x_len z_len (xa_cons (xe_var 0) xa_nil)) (x_len z_len (xa_cons (xe_var 1) xa_nil))))).pt (xs_one (xs_ret xe_bl)) xs_nil)
  (xs_one (xs_ret (xe_call at_ D__law_all_equal_u8 (by decide) (xa_cons (xe_var 0) (xa_cons (xe_var 1) xa_nil)))))) xs_nil)
  (xs_cons (xs_if (xt_val (x_isi z_isinstance (xa_cons (xe_var 1) (xa_cons (xe_ty z_bool (by decide +kernel)) xa_nil)))) (xs_one (xs_ret (xe_and (x_isi z_isinstance (xa_cons (xe_var 0) (xa_cons (xe_ty z_bool (by decide +kernel)) xa_nil))) (xe_one (x_eq at_ (xe_var 0) (xe_var 1)))))) xs_nil)
  (xs_cons (xs_if (xt_val (x_isi z_isinstance (xa_cons (xe_var 1) (xa_cons (xe_ty z_int (by decide +kernel)) xa_nil)))) (xs_one (xs_ret (xe_and (x_isi z_isinstance (xa_cons (xe_var 0) (xa_cons (xe_ty z_int (by decide +kernel)) xa_nil))) (xe_and (xe_not (x_isi z_isinstance (xa_cons (xe_var 0) (xa_cons (xe_ty z_bool (by decide +kernel)) xa_nil)))) (xe_one (x_eq at_ (xe_var 0) (xe_var 1))))))) xs_nil)
  (xs_cons (xs_if (xt_val (x_isi z_isinstance (xa_cons (xe_var 1) (xa_cons (xe_ty z_str (by decide +kernel)) xa_nil)))) (xs_one (xs_ret (xe_and (x_isi z_isinstance (xa_cons (xe_var 0) (xa_cons (xe_ty z_str (by decide +kernel)) xa_nil))) (xe_one (x_eq at_ (xe_var 0) (xe_var 1)))))) xs_nil)
  (xs_one (xs_ret (x_is0 (xe_var 0) xe_non)))))))))⟩
noncomputable def b__law_all_equal_u9 : Sv :=
  sSeq (sForR1 (eCall bLen (aCons (eVar 1) (aNil))) (gSlot 2) (sIf (tNot (tVal (eCall r__law_equal_u8 (aCons (eOp oIx (eVar 0) (eVar 2)) (aCons (eOp oIx (eVar 1) (eVar 2)) (aNil)))))) (sRet (eC (.bl false))) (sNext)))
  (sRet (eC (.bl true)))
noncomputable def r__law_all_equal_u9 : List Vl → M Vl := fnM 2 3 b__law_all_equal_u9
theorem d__law_all_equal_u9 {ad : Addr} {od an : Option Addr} {osl : Array (Option Value)} {kV doc pm cdv ct oc : Value} (hg : mg "_law_all_equal" = some (.ref ad)) (lk : K.lookup ad = some ⟨oc, od, .func (PySem.W.fnOf "_law_all_equal" "_law_all_equal" (defArgs s__law_all_equal) (defBody s__law_all_equal) (defScope s__law_all_equal) .none kV doc pm an cdv ct), osl⟩)
    (hcd : PySem.W.codeIn K cdv "_law_all_equal" = true) (hk : PySem.W.keepIn K (.ref ad) = true) (D__law_equal_u8 : Def P w K mg base tabs 9 "_law_equal" ["actual", "due"] r__law_equal_u8) (z_range : mg "range" = none) (z_len : mg "len" = none) : Def P w K mg base tabs 10 "_law_all_equal" ["actual", "due"] r__law_all_equal_u9 :=
  ⟨ad, _, hg, hk, .all (fun us hl => match us, hl with | [_, _], _ => rfl), fn_ok (k := 9) lk hcd sc__law_all_equal (fun X W A outer s H E hX at_ => by subst hX; exact
    (xs_cons (xs_for_range1 at_ z_range (x_len z_len (xa_cons (xe_var 1) xa_nil)) (xg_slot 2 at_.nd) (xs_one (xs_if (xt_not (xt_val (xe_call at_ D__law_equal_u8 (by decide) (xa_cons (xe_ix (xe_var 0) (xe_var 2)) (xa_cons (xe_ix (xe_var 1) (xe_var 2)) xa_nil))))) (xs_one (xs_ret xe_bl)) xs_nil)))
  (xs_one (xs_ret xe_bl))))⟩
abbrev s__law_fan : Stmt := top 40
theorem sc__law_fan : FnScope ["draws", "base", "ray", "room", "start", "rays", "k", "p", "q"] ["draws", "base", "ray"] (defScope s__law_fan) := ⟨rfl, rfl, rfl, by decide +kernel, rfl, by decide +kernel, by decide +kernel⟩
noncomputable def b__law_fan : Sv :=
  sSeq (sSet 3 (eOp oMod (eCall r__law_draw (aCons (eVar 0) (aNil))) (eC (.int 3))))
  (sSeq (sSet 4 (eTup (aCons (eOp oMod (eCall r__law_draw (aCons (eVar 0) (aNil))) (eOp oAdd (eVar 1) (eC (.int 1)))) (aCons (eOp oMod (eCall r__law_draw (aCons (eVar 0) (aNil))) (eOp oAdd (eVar 1) (eC (.int 1)))) (aNil)))))
  (sSeq (sSet 5 (eLst (aNil)))
  (sSeq (sForR1 (eOp oIx (eLst (aCons (eC (.int 0)) (aCons (eC (.int 1)) (aCons (eC (.int 2)) (aCons (eC (.int 2)) (aCons (eC (.int 1)) (aNil))))))) (eOp oMod (eCall r__law_draw (aCons (eVar 0) (aNil))) (eC (.int 5)))) (gSlot 6) (sSeq (sSet 7 (eOp oMod (eCall r__law_draw (aCons (eVar 0) (aNil))) (eOp oAdd (eVar 2) (eC (.int 1)))))
  (sSeq (sSet 8 (eOp oMod (eCall r__law_draw (aCons (eVar 0) (aNil))) (eOp oAdd (eVar 2) (eC (.int 1)))))
  (sSeq (sIf (tAnd (tVal (eOp oEq (eVar 7) (eC (.int 0)))) (tVal (eOp oEq (eVar 8) (eC (.int 0))))) (sSet 8 (eC (.int 1))) (sNext))
  (sIf (tOr (tVal (eOp oEq (eVar 5) (eLst (aNil)))) (tVal (eOp oNe (eOp oMulA (eOp oIx (eOp oIx (eVar 5) (eC (.int 0))) (eC (.int 0))) (eVar 8)) (eOp oMulA (eOp oIx (eOp oIx (eVar 5) (eC (.int 0))) (eC (.int 1))) (eVar 7))))) (sExpr (eApp (eVar 5) (eTup (aCons (eVar 7) (aCons (eVar 8) (aNil)))))) (sNext))))))
  (sRet (eTup (aCons (eVar 3) (aCons (eVar 4) (aCons (eCall bTuple (aCons (eVar 5) (aNil))) (aNil)))))))))
noncomputable def r__law_fan : List Vl → M Vl := fnM 3 9 b__law_fan
theorem d__law_fan {ad : Addr} {od an : Option Addr} {osl : Array (Option Value)} {kV doc pm cdv ct oc : Value} (hg : mg "_law_fan" = some (.ref ad)) (lk : K.lookup ad = some ⟨oc, od, .func (PySem.W.fnOf "_law_fan" "_law_fan" (defArgs s__law_fan) (defBody s__law_fan) (defScope s__law_fan) .none kV doc pm an cdv ct), osl⟩)
    (hcd : PySem.W.codeIn K cdv "_law_fan" = true) (hk : PySem.W.keepIn K (.ref ad) = true) (D__law_draw : Def P w K mg base tabs 2 "_law_draw" ["draws"] r__law_draw) (z_range : mg "range" = none) (z_tuple : mg "tuple" = none) : Def P w K mg base tabs 3 "_law_fan" ["draws", "base", "ray"] r__law_fan :=
  ⟨ad, _, hg, hk, .all (fun us hl => match us, hl with | [_, _, _], _ => rfl), fn_ok (k := 2) lk hcd sc__law_fan (fun X W A outer s H E hX at_ => by subst hX; exact
    (xs_cons (xs_set 3 at_.nd (x_mod (xe_call at_ D__law_draw (by decide) (xa_cons (xe_var 0) xa_nil)) xe_int))
  (xs_cons (xs_set 4 at_.nd (xe_tup (xa_cons (x_mod (xe_call at_ D__law_draw (by decide) (xa_cons (xe_var 0) xa_nil)) (x_add (xe_var 1) xe_int)) (xa_cons (x_mod (xe_call at_ D__law_draw (by decide) (xa_cons (xe_var 0) xa_nil)) (x_add (xe_var 1) xe_int)) xa_nil))))
  (xs_cons (xs_set 5 at_.nd (xe_lst xa_nil))
  (xs_cons (xs_for_range1 at_ z_range (xe_ix (xe_lst (xa_cons xe_int (xa_cons xe_int (xa_cons xe_int (xa_cons xe_int (xa_cons xe_int xa_nil)))))) (x_mod (xe_call at_ D__law_draw (by decide) (xa_cons (xe_var 0) xa_nil)) xe_int)) (xg_slot 6 at_.nd) (xs_cons (xs_set 7 at_.nd (x_mod (xe_call at_ D__law_draw (by decide) (xa_cons (xe_var 0) xa_nil)) (x_add (xe_var 2) xe_int)))
  (xs_cons (xs_set 8 at_.nd (x_mod (xe_call at_ D__law_draw (by decide) (xa_cons (xe_var 0) xa_nil)) (x_add (xe_var 2) xe_int)))
  (xs_cons (xs_if (xw_and (xt_eq at_ (xe_var 7) xe_int) (xw_and1 (xt_eq at_ (xe_var 8) xe_int))).pt (xs_one (xs_set 8 at_.nd xe_int)) xs_nil)
  (xs_one (xs_if (xw_or (xt_eq at_ (xe_var 5) (xe_lst xa_nil)) (xw_or1 (xt_ne at_ (x_mulA (xe_ix (xe_ix (xe_var 5) xe_int) xe_int) (xe_var 8)) (x_mulA (xe_ix (xe_ix (xe_var 5) xe_int) xe_int) (xe_var 7))))).pt (xs_one (xs_expr (xe_append (xe_var 5) (xe_tup (xa_cons (xe_var 7) (xa_cons (xe_var 8) xa_nil)))))) xs_nil))))))
  (xs_one (xs_ret (xe_tup (xa_cons (xe_var 3) (xa_cons (xe_var 4) (xa_cons (x_tuple z_tuple (xa_cons (xe_var 5) xa_nil)) xa_nil)))))))))))⟩
abbrev s__law_lot : Stmt := top 41
theorem sc__law_lot : FnScope ["draws", "most", "base", "ray", "k"] ["draws", "most", "base", "ray"] (defScope s__law_lot) := ⟨rfl, rfl, rfl, by decide +kernel, rfl, by decide +kernel, by decide +kernel⟩
noncomputable def b__law_lot : Sv :=
  sRet (eComp (wRg1 (eOp oMod (eCall r__law_draw (aCons (eVar 0) (aNil))) (eOp oAdd (eVar 1) (eC (.int 1))))) 4 (tTrue) (eCall r__law_fan (aCons (eVar 0) (aCons (eVar 2) (aCons (eVar 3) (aNil))))))
noncomputable def r__law_lot : List Vl → M Vl := fnM 4 5 b__law_lot
theorem d__law_lot {ad : Addr} {od an : Option Addr} {osl : Array (Option Value)} {kV doc pm cdv ct oc : Value} (hg : mg "_law_lot" = some (.ref ad)) (lk : K.lookup ad = some ⟨oc, od, .func (PySem.W.fnOf "_law_lot" "_law_lot" (defArgs s__law_lot) (defBody s__law_lot) (defScope s__law_lot) .none kV doc pm an cdv ct), osl⟩)
    (hcd : PySem.W.codeIn K cdv "_law_lot" = true) (hk : PySem.W.keepIn K (.ref ad) = true) (D__law_draw : Def P w K mg base tabs 2 "_law_draw" ["draws"] r__law_draw) (D__law_fan : Def P w K mg base tabs 3 "_law_fan" ["draws", "base", "ray"] r__law_fan) (z_range : mg "range" = none) : Def P w K mg base tabs 4 "_law_lot" ["draws", "most", "base", "ray"] r__law_lot :=
  ⟨ad, _, hg, hk, .all (fun us hl => match us, hl with | [_, _, _, _], _ => rfl), fn_ok (k := 3) lk hcd sc__law_lot (fun X W A outer s H E hX at_ => by subst hX; exact
    (xs_one (xs_ret (x_comp at_ (by first | rfl | kernel_rfl) (xi_range1 z_range (x_mod (xe_call at_ D__law_draw (by decide) (xa_cons (xe_var 0) xa_nil)) (x_add (xe_var 1) xe_int))) rfl (fun _ _ => rfl) (fun Y atc1 hY => by obtain ⟨s1, H1, C1, cl1, fp1, rfl⟩ := hY; exact xts_nil) (fun Y atc1 hY => by obtain ⟨s1, H1, C1, cl1, fp1, rfl⟩ := hY; exact (xe_call atc1 D__law_fan (by decide) (xa_cons (xe_var 0) (xa_cons (xe_var 2) (xa_cons (xe_var 3) xa_nil)))))))))⟩
abbrev s__law_divisor : Stmt := top 42
theorem sc__law_divisor : FnScope ["a", "b"] ["a", "b"] (defScope s__law_divisor) := ⟨rfl, rfl, rfl, by decide +kernel, rfl, by decide +kernel, by decide +kernel⟩
noncomputable def b__law_divisor : Sv :=
  sSeq (sWhile (tVal (eOp oGt (eVar 1) (eC (.int 0)))) (sPar2 0 1 (aCons (eVar 1) (aCons (eOp oMod (eVar 0) (eVar 1)) (aNil)))) 1000000)
  (sRet (eVar 0))
noncomputable def r__law_divisor : List Vl → M Vl := fnM 2 2 b__law_divisor
theorem d__law_divisor {ad : Addr} {od an : Option Addr} {osl : Array (Option Value)} {kV doc pm cdv ct oc : Value} (hg : mg "_law_divisor" = some (.ref ad)) (lk : K.lookup ad = some ⟨oc, od, .func (PySem.W.fnOf "_law_divisor" "_law_divisor" (defArgs s__law_divisor) (defBody s__law_divisor) (defScope s__law_divisor) .none kV doc pm an cdv ct), osl⟩)
    (hcd : PySem.W.codeIn K cdv "_law_divisor" = true) (hk : PySem.W.keepIn K (.ref ad) = true) : Def P w K mg base tabs 1 "_law_divisor" ["a", "b"] r__law_divisor :=
  ⟨ad, _, hg, hk, .all (fun us hl => match us, hl with | [_, _], _ => rfl), fn_ok (k := 0) lk hcd sc__law_divisor (fun X W A outer s H E hX at_ => by subst hX; exact
    (xs_cons (xs_while 1000000 at_ (xt_gt (xe_var 1) xe_int) (xs_one (xs_par2 0 1 at_ rfl rfl (by decide) rfl rfl (xa_cons (xe_var 1) (xa_cons (x_mod (xe_var 0) (xe_var 1)) xa_nil)) (by rfl))))
  (xs_one (xs_ret (xe_var 0)))))⟩
abbrev s__law_grain : Stmt := top 43
theorem sc__law_grain : FnScope ["fan", "rays"] ["fan"] (defScope s__law_grain) := ⟨rfl, rfl, rfl, by decide +kernel, rfl, by decide +kernel, by decide +kernel⟩
noncomputable def b__law_grain : Sv :=
  sSeq (sSet 1 (eOp oIx (eVar 0) (eC (.int 2))))
  (sSeq (sIf (tVal (eOp oEq (eCall bLen (aCons (eVar 1) (aNil))) (eC (.int 0)))) (sRet (eC (.int 1))) (sNext))
  (sSeq (sIf (tVal (eOp oEq (eCall bLen (aCons (eVar 1) (aNil))) (eC (.int 1)))) (sRet (eCall r__law_divisor (aCons (eOp oIx (eOp oIx (eVar 1) (eC (.int 0))) (eC (.int 0))) (aCons (eOp oIx (eOp oIx (eVar 1) (eC (.int 0))) (eC (.int 1))) (aNil))))) (sNext))
  (sRet (eCall bAbs (aCons (eOp oSub (eOp oMulA (eOp oIx (eOp oIx (eVar 1) (eC (.int 0))) (eC (.int 0))) (eOp oIx (eOp oIx (eVar 1) (eC (.int 1))) (eC (.int 1)))) (eOp oMulA (eOp oIx (eOp oIx (eVar 1) (eC (.int 0))) (eC (.int 1))) (eOp oIx (eOp oIx (eVar 1) (eC (.int 1))) (eC (.int 0))))) (aNil))))))
noncomputable def r__law_grain : List Vl → M Vl := fnM 1 2 b__law_grain
theorem d__law_grain {ad : Addr} {od an : Option Addr} {osl : Array (Option Value)} {kV doc pm cdv ct oc : Value} (hg : mg "_law_grain" = some (.ref ad)) (lk : K.lookup ad = some ⟨oc, od, .func (PySem.W.fnOf "_law_grain" "_law_grain" (defArgs s__law_grain) (defBody s__law_grain) (defScope s__law_grain) .none kV doc pm an cdv ct), osl⟩)
    (hcd : PySem.W.codeIn K cdv "_law_grain" = true) (hk : PySem.W.keepIn K (.ref ad) = true) (D__law_divisor : Def P w K mg base tabs 1 "_law_divisor" ["a", "b"] r__law_divisor) (z_len : mg "len" = none) (z_abs : mg "abs" = none) : Def P w K mg base tabs 2 "_law_grain" ["fan"] r__law_grain :=
  ⟨ad, _, hg, hk, .all (fun us hl => match us, hl with | [_], _ => rfl), fn_ok (k := 1) lk hcd sc__law_grain (fun X W A outer s H E hX at_ => by subst hX; exact
    (xs_cons (xs_set 1 at_.nd (xe_ix (xe_var 0) xe_int))
  (xs_cons (xs_if (xt_eq at_ (x_len z_len (xa_cons (xe_var 1) xa_nil)) xe_int) (xs_one (xs_ret xe_int)) xs_nil)
  (xs_cons (xs_if (xt_eq at_ (x_len z_len (xa_cons (xe_var 1) xa_nil)) xe_int) (xs_one (xs_ret (xe_call at_ D__law_divisor (by decide) (xa_cons (xe_ix (xe_ix (xe_var 1) xe_int) xe_int) (xa_cons (xe_ix (xe_ix (xe_var 1) xe_int) xe_int) xa_nil))))) xs_nil)
  (xs_one (xs_ret (x_abs z_abs (xa_cons (x_sub (x_mulA (xe_ix (xe_ix (xe_var 1) xe_int) xe_int) (xe_ix (xe_ix (xe_var 1) xe_int) xe_int)) (x_mulA (xe_ix (xe_ix (xe_var 1) xe_int) xe_int) (xe_ix (xe_ix (xe_var 1) xe_int) xe_int))) xa_nil))))))))⟩
abbrev s__law_fits : Stmt := top 44
theorem sc__law_fits : FnScope ["lots", "multiple", "lot", "fan", "ray", "grain"] ["lots"] (defScope s__law_fits) := ⟨rfl, rfl, rfl, by decide +kernel, rfl, by decide +kernel, by decide +kernel⟩
noncomputable def b__law_fits : Sv :=
  sSeq (sSet 1 (eC (.int 1)))
  (sSeq (sFor (eVar 0) (gSlot 2) (sSeq (sIf (tVal (eOp oGt (eCall bLen (aCons (eVar 2) (aNil))) (eC (.int 4)))) (sRet (eC (.bl false))) (sNext))
  (sFor (eVar 2) (gSlot 3) (sSeq (sIf (tOr (tVal (eOp oGt (eCall (bBestS maxL) (aCons (eOp oIx (eVar 3) (eC (.int 1))) (aNil))) (eC (.int 12)))) (tVal (eOp oGt (eCall (bBestS maxL) (aCons (eOp oAdd (eLst (aCons (eC (.int 0)) (aNil))) (eComp (wSeq (eOp oIx (eVar 3) (eC (.int 2)))) 4 (tTrue) (eCall (bBestS maxL) (aCons (eVar 4) (aNil))))) (aNil))) (eC (.int 4))))) (sRet (eC (.bl false))) (sNext))
  (sSeq (sSet 5 (eCall r__law_grain (aCons (eVar 3) (aNil))))
  (sSet 1 (eOp oDiv (eOp oMulA (eVar 1) (eVar 5)) (eCall r__law_divisor (aCons (eVar 1) (aCons (eVar 5) (aNil)))))))))))
  (sRet (eOp oLe (eVar 1) (eC (.int 6)))))
noncomputable def r__law_fits : List Vl → M Vl := fnM 1 6 b__law_fits
theorem d__law_fits {ad : Addr} {od an : Option Addr} {osl : Array (Option Value)} {kV doc pm cdv ct oc : Value} (hg : mg "_law_fits" = some (.ref ad)) (lk : K.lookup ad = some ⟨oc, od, .func (PySem.W.fnOf "_law_fits" "_law_fits" (defArgs s__law_fits) (defBody s__law_fits) (defScope s__law_fits) .none kV doc pm an cdv ct), osl⟩)
    (hcd : PySem.W.codeIn K cdv "_law_fits" = true) (hk : PySem.W.keepIn K (.ref ad) = true) (D__law_grain : Def P w K mg base tabs 2 "_law_grain" ["fan"] r__law_grain) (D__law_divisor : Def P w K mg base tabs 1 "_law_divisor" ["a", "b"] r__law_divisor) (z_len : mg "len" = none) (z_max : mg "max" = none) : Def P w K mg base tabs 3 "_law_fits" ["lots"] r__law_fits :=
  ⟨ad, _, hg, hk, .all (fun us hl => match us, hl with | [_], _ => rfl), fn_ok (k := 2) lk hcd sc__law_fits (fun X W A outer s H E hX at_ => by subst hX; exact
    (xs_cons (xs_set 1 at_.nd xe_int)
  (xs_cons (xs_for at_ (xe_var 0) (xg_slot 2 at_.nd) (xs_cons (xs_if (xt_gt (x_len z_len (xa_cons (xe_var 2) xa_nil)) xe_int) (xs_one (xs_ret xe_bl)) xs_nil)
  (xs_one (xs_for at_ (xe_var 2) (xg_slot 3 at_.nd) (xs_cons (xs_if (xw_or (xt_gt (x_maxS at_ z_max (xa_cons (xe_ix (xe_var 3) xe_int) xa_nil)) xe_int) (xw_or1 (xt_gt (x_maxS at_ z_max (xa_cons (x_add (xe_lst (xa_cons xe_int xa_nil)) (x_comp at_ (by first | rfl | kernel_rfl) (xi_seq at_.K (xe_ix (xe_var 3) xe_int)) rfl (fun _ _ => rfl) (fun Y atc1 hY => by obtain ⟨s1, H1, C1, cl1, fp1, rfl⟩ := hY; exact xts_nil) (fun Y atc1 hY => by obtain ⟨s1, H1, C1, cl1, fp1, rfl⟩ := hY; exact (x_maxS atc1 z_max (xa_cons (xe_var 4) xa_nil))))) xa_nil)) xe_int))).pt (xs_one (xs_ret xe_bl)) xs_nil)
  (xs_cons (xs_set 5 at_.nd (xe_call at_ D__law_grain (by decide) (xa_cons (xe_var 3) xa_nil)))
  (xs_one (xs_set 1 at_.nd (x_div (x_mulA (xe_var 1) (xe_var 5)) (xe_call at_ D__law_divisor (by decide) (xa_cons (xe_var 1) (xa_cons (xe_var 5) xa_nil))))))))))))
  (xs_one (xs_ret (x_le (xe_var 1) xe_int))))))⟩
abbrev s__law_key : Stmt := top 45
theorem sc__law_key : FnScope ["standing"] ["standing"] (defScope s__law_key) := ⟨rfl, rfl, rfl, by decide +kernel, rfl, by decide +kernel, by decide +kernel⟩
noncomputable def b__law_key : Sv :=
  sRet (eTup (aCons (eOp oAdd (eOp oIx (eVar 0) (eC (.int 1))) (eOp oIx (eVar 0) (eC (.int 2)))) (aCons (eOp oIx (eVar 0) (eC (.int 1))) (aCons (eOp oIx (eVar 0) (eC (.int 0))) (aNil)))))
noncomputable def r__law_key : List Vl → M Vl := fnM 1 1 b__law_key
theorem d__law_key {ad : Addr} {od an : Option Addr} {osl : Array (Option Value)} {kV doc pm cdv ct oc : Value} (hg : mg "_law_key" = some (.ref ad)) (lk : K.lookup ad = some ⟨oc, od, .func (PySem.W.fnOf "_law_key" "_law_key" (defArgs s__law_key) (defBody s__law_key) (defScope s__law_key) .none kV doc pm an cdv ct), osl⟩)
    (hcd : PySem.W.codeIn K cdv "_law_key" = true) (hk : PySem.W.keepIn K (.ref ad) = true) : Def P w K mg base tabs 1 "_law_key" ["standing"] r__law_key :=
  ⟨ad, _, hg, hk, .all (fun us hl => match us, hl with | [_], _ => rfl), fn_ok (k := 0) lk hcd sc__law_key (fun X W A outer s H E hX at_ => by subst hX; exact
    (xs_one (xs_ret (xe_tup (xa_cons (x_add (xe_ix (xe_var 0) xe_int) (xe_ix (xe_var 0) xe_int)) (xa_cons (xe_ix (xe_var 0) xe_int) (xa_cons (xe_ix (xe_var 0) xe_int) xa_nil)))))))⟩
abbrev s__law_least : Stmt := top 46
theorem sc__law_least : FnScope ["standings", "row", "standing"] ["standings"] (defScope s__law_least) := ⟨rfl, rfl, rfl, by decide +kernel, rfl, by decide +kernel, by decide +kernel⟩
noncomputable def b__law_least : Sv :=
  sSeq (sIf (tVal (eOp oEq (eVar 0) (eLst (aNil)))) (sRet (eC .non)) (sNext))
  (sSeq (sSet 1 (eOp oIx (eCall bSort3 (aCons (eComp (wSeq (eVar 0)) 2 (tTrue) (eCall r__law_key (aCons (eVar 2) (aNil)))) (aNil))) (eC (.int 0))))
  (sRet (eTup (aCons (eOp oIx (eVar 1) (eC (.int 2))) (aCons (eOp oIx (eVar 1) (eC (.int 1))) (aCons (eOp oSub (eOp oIx (eVar 1) (eC (.int 0))) (eOp oIx (eVar 1) (eC (.int 1)))) (aNil)))))))
noncomputable def r__law_least : List Vl → M Vl := fnM 1 3 b__law_least
theorem d__law_least {ad : Addr} {od an : Option Addr} {osl : Array (Option Value)} {kV doc pm cdv ct oc : Value} (hg : mg "_law_least" = some (.ref ad)) (lk : K.lookup ad = some ⟨oc, od, .func (PySem.W.fnOf "_law_least" "_law_least" (defArgs s__law_least) (defBody s__law_least) (defScope s__law_least) .none kV doc pm an cdv ct), osl⟩)
    (hcd : PySem.W.codeIn K cdv "_law_least" = true) (hk : PySem.W.keepIn K (.ref ad) = true) (D__law_key : Def P w K mg base tabs 1 "_law_key" ["standing"] r__law_key) (z_sorted : mg "sorted" = none) : Def P w K mg base tabs 2 "_law_least" ["standings"] r__law_least :=
  ⟨ad, _, hg, hk, .all (fun us hl => match us, hl with | [_], _ => rfl), fn_ok (k := 1) lk hcd sc__law_least (fun X W A outer s H E hX at_ => by subst hX; exact
    (xs_cons (xs_if (xt_eq at_ (xe_var 0) (xe_lst xa_nil)) (xs_one (xs_ret xe_non)) xs_nil)
  (xs_cons (xs_set 1 at_.nd (xe_ix (x_sort3 at_ z_sorted (xa_cons (x_comp at_ (by first | rfl | kernel_rfl) (xi_seq at_.K (xe_var 0)) rfl (fun _ _ => rfl) (fun Y atc1 hY => by obtain ⟨s1, H1, C1, cl1, fp1, rfl⟩ := hY; exact xts_nil) (fun Y atc1 hY => by obtain ⟨s1, H1, C1, cl1, fp1, rfl⟩ := hY; exact (xe_call atc1 D__law_key (by decide) (xa_cons (xe_var 2) xa_nil)))) xa_nil)) xe_int))
  (xs_one (xs_ret (xe_tup (xa_cons (xe_ix (xe_var 1) xe_int) (xa_cons (xe_ix (xe_var 1) xe_int) (xa_cons (x_sub (xe_ix (xe_var 1) xe_int) (xe_ix (xe_var 1) xe_int)) xa_nil)))))))))⟩
abbrev s__law_told : Stmt := top 47
theorem sc__law_told : FnScope ["name", "lot"] ["name", "lot"] (defScope s__law_told) := ⟨rfl, rfl, rfl, by decide +kernel, rfl, by decide +kernel, by decide +kernel⟩
noncomputable def b__law_told : Sv :=
  sTry (sRet (eTup (aCons (eCallE (eOp oIx (eLst (aCons (eC (.fn "least")) (aCons (eC (.fn "number")) (aNil)))) (eVar 0)) (gsel [("least", r_least), ("number", r_number)]) ["least", "number"] (aCons (eVar 1) (aNil))) (aNil)))) ((tkx "TooLarge" [], sRet (eC .non)) :: [])
noncomputable def r__law_told : List Vl → M Vl := fnM 2 2 b__law_told
theorem d__law_told {ad : Addr} {od an : Option Addr} {osl : Array (Option Value)} {kV doc pm cdv ct oc : Value} (hg : mg "_law_told" = some (.ref ad)) (lk : K.lookup ad = some ⟨oc, od, .func (PySem.W.fnOf "_law_told" "_law_told" (defArgs s__law_told) (defBody s__law_told) (defScope s__law_told) .none kV doc pm an cdv ct), osl⟩)
    (hcd : PySem.W.codeIn K cdv "_law_told" = true) (hk : PySem.W.keepIn K (.ref ad) = true) (D_least : Def P w K mg base tabs 11 "least" ["lot"] r_least) (D_number : Def P w K mg base tabs 11 "number" ["lot"] r_number) {e_TooLarge : Addr} (x_TooLarge : XFact K mg "TooLarge" e_TooLarge) (kc_TooLarge : Clause ⟨K, mg, tabs⟩ (.ref e_TooLarge) (tkx "TooLarge" [])) : Def P w K mg base tabs 12 "_law_told" ["name", "lot"] r__law_told :=
  ⟨ad, _, hg, hk, .all (fun us hl => match us, hl with | [_, _], _ => rfl), fn_ok (k := 11) lk hcd sc__law_told (fun X W A outer s H E hX at_ => by subst hX; exact
    (xs_one (xs_try at_ rfl rfl (fun W1 pn1 xe1 at_' => (xs_one (xs_ret (xe_tup (xa_cons (xe_callE (g := gsel [("least", r_least), ("number", r_number)]) (names := ["least", "number"]) at_' (by intro y hy; simp only [List.mem_cons, List.not_mem_nil, or_false] at hy; rcases hy with rfl | rfl; exact ⟨_, _, by decide, D_least⟩; exact ⟨_, _, by decide, D_number⟩) (xe_ix (xe_lst (xa_cons (let ⟨_, _, hm, _⟩ := D_least; xe_fn rfl hm) (xa_cons (let ⟨_, _, hm, _⟩ := D_number; xe_fn rfl hm) xa_nil))) (xe_var 0)) (xa_cons (xe_var 1) xa_nil)) xa_nil))))) (XHs.cons ⟨rfl, by decide, .inl x_TooLarge.2.1⟩ kc_TooLarge (fun a pn => (xs_one (xs_ret xe_non))) XHs.nil))))⟩
abbrev s__law_number : Stmt := top 48
theorem sc__law_number : FnScope ["lot", "fan"] ["lot"] (defScope s__law_number) := ⟨rfl, rfl, rfl, by decide +kernel, rfl, by decide +kernel, by decide +kernel⟩
noncomputable def b__law_number : Sv :=
  sSeq (sIf (tVal (eOp oGt (eCall bLen (aCons (eComp (wSeq (eVar 0)) 1 (tVal (eOp oGt (eCall bLen (aCons (eOp oIx (eVar 1) (eC (.int 2))) (aNil))) (eC (.int 0)))) (eVar 1)) (aNil))) (eC (.int 0)))) (sRet (eC .non)) (sNext))
  (sRet (eLenSet (eComp (wSeq (eVar 0)) 1 (tTrue) (eTup (aCons (eOp oIx (eVar 1) (eC (.int 0))) (aCons (eOp oIx (eVar 1) (eC (.int 1))) (aNil)))))))
noncomputable def r__law_number : List Vl → M Vl := fnM 1 2 b__law_number
theorem d__law_number {ad : Addr} {od an : Option Addr} {osl : Array (Option Value)} {kV doc pm cdv ct oc : Value} (hg : mg "_law_number" = some (.ref ad)) (lk : K.lookup ad = some ⟨oc, od, .func (PySem.W.fnOf "_law_number" "_law_number" (defArgs s__law_number) (defBody s__law_number) (defScope s__law_number) .none kV doc pm an cdv ct), osl⟩)
    (hcd : PySem.W.codeIn K cdv "_law_number" = true) (hk : PySem.W.keepIn K (.ref ad) = true) (z_len : mg "len" = none) (z_set : mg "set" = none) : Def P w K mg base tabs 1 "_law_number" ["lot"] r__law_number :=
  ⟨ad, _, hg, hk, .all (fun us hl => match us, hl with | [_], _ => rfl), fn_ok (k := 0) lk hcd sc__law_number (fun X W A outer s H E hX at_ => by subst hX; exact
    (xs_cons (xs_if (xt_gt (x_len z_len (xa_cons (x_comp at_ (by first | rfl | kernel_rfl) (xi_seq at_.K (xe_var 0)) rfl (fun _ _ => rfl) (fun Y atc1 hY => by obtain ⟨s1, H1, C1, cl1, fp1, rfl⟩ := hY; exact (xts_one (xt_gt (x_len z_len (xa_cons (xe_ix (xe_var 1) xe_int) xa_nil)) xe_int))) (fun Y atc1 hY => by obtain ⟨s1, H1, C1, cl1, fp1, rfl⟩ := hY; exact (xe_var 1))) xa_nil)) xe_int) (xs_one (xs_ret xe_non)) xs_nil)
  (xs_one (xs_ret (x_lenSet at_ z_len z_set (x_comp at_ (by first | rfl | kernel_rfl) (xi_seq at_.K (xe_var 0)) rfl (fun _ _ => rfl) (fun Y atc1 hY => by obtain ⟨s1, H1, C1, cl1, fp1, rfl⟩ := hY; exact xts_nil) (fun Y atc1 hY => by obtain ⟨s1, H1, C1, cl1, fp1, rfl⟩ := hY; exact (xe_tup (xa_cons (xe_ix (xe_var 1) xe_int) (xa_cons (xe_ix (xe_var 1) xe_int) xa_nil))))))))))⟩
abbrev s__law_least_of : Stmt := top 49
theorem sc__law_least_of : FnScope ["lot", "fan"] ["lot"] (defScope s__law_least_of) := ⟨rfl, rfl, rfl, by decide +kernel, rfl, by decide +kernel, by decide +kernel⟩
noncomputable def b__law_least_of : Sv :=
  sRet (eCall r__law_least (aCons (eComp (wSeq (eVar 0)) 1 (tTrue) (eTup (aCons (eOp oIx (eVar 1) (eC (.int 0))) (aCons (eOp oIx (eOp oIx (eVar 1) (eC (.int 1))) (eC (.int 0))) (aCons (eOp oIx (eOp oIx (eVar 1) (eC (.int 1))) (eC (.int 1))) (aNil)))))) (aNil)))
noncomputable def r__law_least_of : List Vl → M Vl := fnM 1 2 b__law_least_of
theorem d__law_least_of {ad : Addr} {od an : Option Addr} {osl : Array (Option Value)} {kV doc pm cdv ct oc : Value} (hg : mg "_law_least_of" = some (.ref ad)) (lk : K.lookup ad = some ⟨oc, od, .func (PySem.W.fnOf "_law_least_of" "_law_least_of" (defArgs s__law_least_of) (defBody s__law_least_of) (defScope s__law_least_of) .none kV doc pm an cdv ct), osl⟩)
    (hcd : PySem.W.codeIn K cdv "_law_least_of" = true) (hk : PySem.W.keepIn K (.ref ad) = true) (D__law_least : Def P w K mg base tabs 2 "_law_least" ["standings"] r__law_least) : Def P w K mg base tabs 3 "_law_least_of" ["lot"] r__law_least_of :=
  ⟨ad, _, hg, hk, .all (fun us hl => match us, hl with | [_], _ => rfl), fn_ok (k := 2) lk hcd sc__law_least_of (fun X W A outer s H E hX at_ => by subst hX; exact
    (xs_one (xs_ret (xe_call at_ D__law_least (by decide) (xa_cons (x_comp at_ (by first | rfl | kernel_rfl) (xi_seq at_.K (xe_var 0)) rfl (fun _ _ => rfl) (fun Y atc1 hY => by obtain ⟨s1, H1, C1, cl1, fp1, rfl⟩ := hY; exact xts_nil) (fun Y atc1 hY => by obtain ⟨s1, H1, C1, cl1, fp1, rfl⟩ := hY; exact (xe_tup (xa_cons (xe_ix (xe_var 1) xe_int) (xa_cons (xe_ix (xe_ix (xe_var 1) xe_int) xe_int) (xa_cons (xe_ix (xe_ix (xe_var 1) xe_int) xe_int) xa_nil)))))) xa_nil)))))⟩
abbrev s_law : Stmt := top 50
theorem sc_law : FnScope ["script", "draws", "turn", "base", "lot", "fan", "handed", "name", "told"] ["script"] (defScope s_law) := ⟨rfl, rfl, rfl, by decide +kernel, rfl, by decide +kernel, by decide +kernel⟩
noncomputable def b_law : Sv :=
  sSeq (sSet 1 (eLst (aCons (eCall r__law_numbers (aCons (eVar 0) (aNil))) (aCons (eC (.int 0)) (aNil)))))
  (sSeq (sForR1 (eC (.int 4)) (gSlot 2) (sSeq (sSet 3 (eOp oIx (eLst (aCons (eC (.int 6)) (aCons (eC (.int 2)) (aCons (eC (.int 12)) (aNil))))) (eOp oMod (eCall r__law_draw (aCons (eVar 1) (aNil))) (eC (.int 3)))))
  (sSeq (sSet 4 (eCall r__law_lot (aCons (eVar 1) (aCons (eC (.int 4)) (aCons (eVar 3) (aCons (eOp oIx (eLst (aCons (eC (.int 2)) (aCons (eC (.int 2)) (aCons (eC (.int 4)) (aNil))))) (eOp oMod (eCall r__law_draw (aCons (eVar 1) (aNil))) (eC (.int 3)))) (aNil)))))))
  (sSeq (sIf (tVal (eOp oEq (eOp oMod (eCall r__law_draw (aCons (eVar 1) (aNil))) (eC (.int 2))) (eC (.int 0)))) (sSet 4 (eComp (wSeq (eVar 4)) 5 (tTrue) (eTup (aCons (eOp oIx (eVar 5) (eC (.int 0))) (aCons (eOp oIx (eVar 5) (eC (.int 1))) (aCons (eTup (aNil)) (aNil))))))) (sNext))
  (sSeq (sSet 6 (eCall bList (aCons (eVar 4) (aNil))))
  (sSeq (sForR1 (eC (.int 2)) (gSlot 7) (sSeq (sSet 8 (eCall r__law_told (aCons (eVar 7) (aCons (eVar 6) (aNil)))))
  (sIf (tNot (tVal (eCall r__law_fits (aCons (eLst (aCons (eVar 4) (aNil))) (aNil))))) (sIf (tVal (eOp oNot0 (eVar 8) (eC .non))) (sRet (eC (.bl false))) (sNext)) (sIf (tOr (tVal (eOp oIs0 (eVar 8) (eC .non))) (tNot (tVal (eCall r__law_equal_u9 (aCons (eOp oIx (eVar 8) (eC (.int 0))) (aCons (eCallE (eOp oIx (eLst (aCons (eC (.fn "_law_least_of")) (aCons (eC (.fn "_law_number")) (aNil)))) (eVar 7)) (gsel [("_law_least_of", r__law_least_of), ("_law_number", r__law_number)]) ["_law_least_of", "_law_number"] (aCons (eVar 4) (aNil))) (aNil))))))) (sRet (eC (.bl false))) (sNext)))))
  (sIf (tNot (tVal (eCall r__law_equal_u9 (aCons (eVar 6) (aCons (eVar 4) (aNil)))))) (sRet (eC (.bl false))) (sNext))))))))
  (sRet (eC (.bl true))))
noncomputable def r_law : List Vl → M Vl := fnM 1 9 b_law
theorem g_law {ad : Addr} {od an : Option Addr} {osl : Array (Option Value)} {kV doc pm cdv ct oc : Value} (lk : K.lookup ad = some ⟨oc, od, .func (PySem.W.fnOf "law" "law" (defArgs s_law) (defBody s_law) (defScope s_law) .none kV doc pm an cdv ct), osl⟩) (hcd : PySem.W.codeIn K cdv "law" = true) (D__law_numbers : Def P w K mg base tabs 2 "_law_numbers" ["script"] r__law_numbers) (D__law_draw : Def P w K mg base tabs 2 "_law_draw" ["draws"] r__law_draw) (D__law_lot : Def P w K mg base tabs 4 "_law_lot" ["draws", "most", "base", "ray"] r__law_lot) (D__law_told : Def P w K mg base tabs 12 "_law_told" ["name", "lot"] r__law_told) (D__law_fits : Def P w K mg base tabs 3 "_law_fits" ["lots"] r__law_fits) (D__law_equal_u9 : Def P w K mg base tabs 10 "_law_equal" ["actual", "due"] r__law_equal_u9) (D__law_least_of : Def P w K mg base tabs 3 "_law_least_of" ["lot"] r__law_least_of) (D__law_number : Def P w K mg base tabs 1 "_law_number" ["lot"] r__law_number) (z_list : mg "list" = none) (z_range : mg "range" = none) :
    FnG P w K mg base 13 ad (PySem.W.fnOf "law" "law" (defArgs s_law) (defBody s_law) (defScope s_law) .none kV doc pm an cdv ct) ["script"] (spM ⟨K, mg, tabs⟩ r_law) :=
  fn_ok (k := 12) lk hcd sc_law (fun X W A outer s H E hX at_ => by subst hX; exact
    (xs_cons (xs_set 1 at_.nd (xe_lst (xa_cons (xe_call at_ D__law_numbers (by decide) (xa_cons (xe_var 0) xa_nil)) (xa_cons xe_int xa_nil))))
  (xs_cons (xs_for_range1 at_ z_range xe_int (xg_slot 2 at_.nd) (xs_cons (xs_set 3 at_.nd (xe_ix (xe_lst (xa_cons xe_int (xa_cons xe_int (xa_cons xe_int xa_nil)))) (x_mod (xe_call at_ D__law_draw (by decide) (xa_cons (xe_var 1) xa_nil)) xe_int)))
  (xs_cons (xs_set 4 at_.nd (xe_call at_ D__law_lot (by decide) (xa_cons (xe_var 1) (xa_cons xe_int (xa_cons (xe_var 3) (xa_cons (xe_ix (xe_lst (xa_cons xe_int (xa_cons xe_int (xa_cons xe_int xa_nil)))) (x_mod (xe_call at_ D__law_draw (by decide) (xa_cons (xe_var 1) xa_nil)) xe_int)) xa_nil))))))
  (xs_cons (xs_if (xt_eq at_ (x_mod (xe_call at_ D__law_draw (by decide) (xa_cons (xe_var 1) xa_nil)) xe_int) xe_int) (xs_one (xs_setComp 4 at_ (by first | rfl | kernel_rfl) (xi_seq at_.K (xe_var 4)) rfl (fun _ _ => rfl) (fun Y atc1 hY => by obtain ⟨s1, H1, C1, cl1, fp1, rfl⟩ := hY; exact xts_nil) (fun Y atc1 hY => by obtain ⟨s1, H1, C1, cl1, fp1, rfl⟩ := hY; exact (xe_tup (xa_cons (xe_ix (xe_var 5) xe_int) (xa_cons (xe_ix (xe_var 5) xe_int) (xa_cons (xe_tup xa_nil) xa_nil))))) (sw_true rfl rfl rfl (by decide +kernel)))) xs_nil)
  (xs_cons (xs_set 6 at_.nd (x_list z_list (xa_cons (xe_var 4) xa_nil)))
  (xs_cons (xs_for_range1 at_ z_range xe_int (xg_slot 7 at_.nd) (xs_cons (xs_set 8 at_.nd (xe_call at_ D__law_told (by decide) (xa_cons (xe_var 7) (xa_cons (xe_var 6) xa_nil))))
  (xs_one (xs_if (xt_not (xt_val (xe_call at_ D__law_fits (by decide) (xa_cons (xe_lst (xa_cons (xe_var 4) xa_nil)) xa_nil)))) (xs_one (xs_if (xt_not0 (xe_var 8) xe_non) (xs_one (xs_ret xe_bl)) xs_nil)) (xs_one (xs_if (xw_or (xt_is0 (xe_var 8) xe_non) (xw_or1 (xt_not (xt_val (xe_call at_ D__law_equal_u9 (by decide) (xa_cons (xe_ix (xe_var 8) xe_int) (xa_cons (xe_callE (g := gsel [("_law_least_of", r__law_least_of), ("_law_number", r__law_number)]) (names := ["_law_least_of", "_law_number"]) at_ (by intro y hy; simp only [List.mem_cons, List.not_mem_nil, or_false] at hy; rcases hy with rfl | rfl; exact ⟨_, _, by decide, D__law_least_of⟩; exact ⟨_, _, by decide, D__law_number⟩) (xe_ix (xe_lst (xa_cons (let ⟨_, _, hm, _⟩ := D__law_least_of; xe_fn rfl hm) (xa_cons (let ⟨_, _, hm, _⟩ := D__law_number; xe_fn rfl hm) xa_nil))) (xe_var 7)) (xa_cons (xe_var 4) xa_nil)) xa_nil))))))).pt (xs_one (xs_ret xe_bl)) xs_nil))))))
  (xs_one (xs_if (xt_not (xt_val (xe_call at_ D__law_equal_u9 (by decide) (xa_cons (xe_var 6) (xa_cons (xe_var 4) xa_nil))))) (xs_one (xs_ret xe_bl)) xs_nil))))))))
  (xs_one (xs_ret xe_bl)))))
end
end LW
end Tw
end
section
set_option Elab.async false
set_option maxRecDepth 100000
set_option maxHeartbeats 3000000
set_option linter.all false
namespace Tw
namespace LW
open PySem L2
theorem mixed_ok {a k : Int} (ha : 0 ≤ a ∧ a < 1099511627776) (hk : 0 ≤ k ∧ k < 1099511627776) {S : Store} {Q : Vl → Store → Prop} {E : Str → Store → Prop} (h : ∀ r : Int, 0 ≤ r → r < 2147483647 → Q (.int r) S) : Wp (r__law_mixed [.int a, .int k]) S Q E := by
  unfold r__law_mixed b__law_mixed
  rw [wp_fn]
  simp only [wp_ret, wp_stuck, wp_ifs, wp_newL, wp_var, wp_c, wp_op, wp_un, wp_tval, wp_tnot, wp_not, wp_nil, wp_cons, wp_tup, wp_lst, wp_dct, wp_call, wp_app, wp_append, wp_ixT, wp_ixL, wp_put, wp_sl, wp_pn, wp_ps, wp_slT, wp_addI, wp_addT, wp_sub, wp_mul, wp_mulT, wp_mulAI, wp_mulAT, wp_div, wp_mod, wp_pow, wp_neg, wp_cmp, wp_eqI, wp_neI, wp_eqS, wp_neS, wp_is0, wp_not0, wp_isB, wp_notB, wp_lenT, wp_lenL, wp_tupT, wp_tupL, wp_lstT, ws_next, ws_brk, ws_cont, ws_seq, ws_expr, ws_ret, ws_retN, ws_set, ws_asg, ws_put, ws_raise, ws_if, ws_for1, wp_and, wp_or, wp_tand, wp_tor, wp_ifE, wp_chain, gSlot, List.getElem?_cons_succ, List.getElem?_cons_zero, List.map_cons, List.map_nil, List.length_cons, List.length_nil, List.replicate_succ, List.replicate_zero, List.cons_append, List.nil_append, List.set_cons_succ, List.set_cons_zero, Option.some.injEq, exists_eq_left', Nat.reduceAdd, Nat.reduceSub, Nat.zero_add, Nat.add_zero, true_and, and_true, Vl.int.injEq, Vl.bl.injEq, Vl.loc.injEq, Vl.tup.injEq, exists_eq', exists_eq_left, Ob.lst.injEq]
  generalize hs : (a * 48271 + k * 69621 + 12345).fmod 2147483647 = s
  have s0 : 0 ≤ s := by rw [← hs]; exact Int.fmod_nonneg_of_pos _ (by decide)
  have s1 : s < 2147483647 := by rw [← hs]; exact Int.fmod_lt_of_pos _ (by decide)
  generalize hd : s.fdiv 65536 = d
  have d0 : 0 ≤ d := by rw [← hd, Int.fdiv_eq_ediv_of_nonneg _ (by decide)]; exact Int.ediv_nonneg s0 (by decide)
  have d1 : d < 2147483647 := by rw [← hd, Int.fdiv_eq_ediv_of_nonneg _ (by decide)]; omega
  have l1 := lg40 (i := a) (by omega) ha.2
  have l2 := lg40 (i := k) (by omega) hk.2
  have l3 := lg40 (i := s) (by omega) (by omega)
  have l4 := lg40 (i := d + 3) (by omega) (by omega)
  have c1 : (Int.natAbs 48271).log2 < 40 := by decide
  have c2 : (Int.natAbs 69621).log2 < 40 := by decide
  and_intros
  all_goals first | exact h _ (Int.fmod_nonneg_of_pos _ (by decide)) (Int.fmod_lt_of_pos _ (by decide)) | decide | omega
theorem get_last {S : Store} {o : Ob} : (S ++ [o])[S.length]? = some o := by simp
theorem set_last {S : Store} {o u : Ob} : (S ++ [o]).set S.length u = S ++ [u] := by simp
/-- numbers below a million -/
def Nums (xs : List Vl) : Prop := ∃ ms : List Int, xs = ms.map .int ∧ ∀ m ∈ ms, 0 ≤ m ∧ m < 1000000
theorem Nums.nil : Nums [] := ⟨[], rfl, by simp⟩
theorem Nums.snoc {xs : List Vl} {m : Int} (h : Nums xs) (h0 : 0 ≤ m) (h1 : m < 1000000) : Nums (xs ++ [.int m]) := by
  obtain ⟨ms, rfl, q⟩ := h
  refine ⟨ms ++ [m], by simp, fun x hx => ?_⟩
  rcases List.mem_append.mp hx with hx | hx
  · exact q x hx
  · simp at hx; subst hx; exact ⟨h0, h1⟩
theorem fm0 {i j : Int} (h : 0 < j) : 0 ≤ i.fmod j := Int.fmod_nonneg_of_pos _ h
theorem fm1 {i j : Int} (h : 0 < j) : i.fmod j < j := Int.fmod_lt_of_pos _ h
theorem numbers_ok {ns : List Int} (hl : ns.length ≤ 63) {S : Store} {Q : Vl → Store → Prop} {E : Str → Store → Prop} (h : ∀ xs, Nums xs → xs.length ≤ 3780 → Q (.loc S.length) (S ++ [.lst xs])) :
    Wp (r__law_numbers [.frz (ns.map .int)]) S Q E := by
  unfold r__law_numbers b__law_numbers
  rw [wp_fn]
  simp only [wp_ret, wp_stuck, wp_ifs, wp_newL, wp_var, wp_c, wp_op, wp_un, wp_tval, wp_tnot, wp_not, wp_nil, wp_cons, wp_tup, wp_lst, wp_dct, wp_call, wp_app, wp_append, wp_ixT, wp_ixL, wp_put, wp_sl, wp_pn, wp_ps, wp_slT, wp_addI, wp_addT, wp_sub, wp_mul, wp_mulT, wp_mulAI, wp_mulAT, wp_div, wp_mod, wp_pow, wp_neg, wp_cmp, wp_eqI, wp_neI, wp_eqS, wp_neS, wp_is0, wp_not0, wp_isB, wp_notB, wp_lenT, wp_lenL, wp_tupT, wp_tupL, wp_lstT, ws_next, ws_brk, ws_cont, ws_seq, ws_expr, ws_ret, ws_retN, ws_set, ws_asg, ws_put, ws_raise, ws_if, ws_for1, wp_and, wp_or, wp_tand, wp_tor, wp_ifE, wp_chain, gSlot, List.getElem?_cons_succ, List.getElem?_cons_zero, List.map_cons, List.map_nil, List.length_cons, List.length_nil, List.replicate_succ, List.replicate_zero, List.cons_append, List.nil_append, List.set_cons_succ, List.set_cons_zero, Option.some.injEq, exists_eq_left', Nat.reduceAdd, Nat.reduceSub, Nat.zero_add, Nat.add_zero, true_and, and_true, Vl.int.injEq, Vl.bl.injEq, Vl.loc.injEq, Vl.tup.injEq, exists_eq', exists_eq_left, Ob.lst.injEq]
  refine ⟨by decide, ws_forF (xs := ns.map .int) ?_⟩
  simp only [wp_ret, wp_stuck, wp_ifs, wp_newL, wp_var, wp_c, wp_op, wp_un, wp_tval, wp_tnot, wp_not, wp_nil, wp_cons, wp_tup, wp_lst, wp_dct, wp_call, wp_app, wp_append, wp_ixT, wp_ixL, wp_put, wp_sl, wp_pn, wp_ps, wp_slT, wp_addI, wp_addT, wp_sub, wp_mul, wp_mulT, wp_mulAI, wp_mulAT, wp_div, wp_mod, wp_pow, wp_neg, wp_cmp, wp_eqI, wp_neI, wp_eqS, wp_neS, wp_is0, wp_not0, wp_isB, wp_notB, wp_lenT, wp_lenL, wp_tupT, wp_tupL, wp_lstT, ws_next, ws_brk, ws_cont, ws_seq, ws_expr, ws_ret, ws_retN, ws_set, ws_asg, ws_put, ws_raise, ws_if, ws_for1, wp_and, wp_or, wp_tand, wp_tor, wp_ifE, wp_chain, gSlot, List.getElem?_cons_succ, List.getElem?_cons_zero, List.map_cons, List.map_nil, List.length_cons, List.length_nil, List.replicate_succ, List.replicate_zero, List.cons_append, List.nil_append, List.set_cons_succ, List.set_cons_zero, Option.some.injEq, exists_eq_left', Nat.reduceAdd, Nat.reduceSub, Nat.zero_add, Nat.add_zero, true_and, and_true, Vl.int.injEq, Vl.bl.injEq, Vl.loc.injEq, Vl.tup.injEq, exists_eq', exists_eq_left, Ob.lst.injEq]
  refine ⟨.inr trivial, ?_⟩
  refine ws_loop (fun i ρ S' => ∃ xs a b c, ρ = [some (.frz (ns.map .int)), some (.loc S.length), a, b, c] ∧ S' = S ++ [.lst xs] ∧ Nums xs ∧ xs.length ≤ 60 * i) ⟨[], _, _, _, rfl, rfl, .nil, by simp⟩ ?_ ?_
  · rintro i x ρ S' hx ⟨xs, a, b, c, rfl, rfl, hn, hlen⟩
    have hi : i < 63 := by
      have := (List.getElem?_eq_some_iff.mp hx).1
      simp at this; omega
    rw [List.getElem?_map] at hx
    obtain ⟨m, hm, rfl⟩ := Option.map_eq_some_iff.mp hx
    refine ⟨_, rfl, ?_⟩
    simp only [wp_ret, wp_stuck, wp_ifs, wp_newL, wp_var, wp_c, wp_op, wp_un, wp_tval, wp_tnot, wp_not, wp_nil, wp_cons, wp_tup, wp_lst, wp_dct, wp_call, wp_app, wp_append, wp_ixT, wp_ixL, wp_put, wp_sl, wp_pn, wp_ps, wp_slT, wp_addI, wp_addT, wp_sub, wp_mul, wp_mulT, wp_mulAI, wp_mulAT, wp_div, wp_mod, wp_pow, wp_neg, wp_cmp, wp_eqI, wp_neI, wp_eqS, wp_neS, wp_is0, wp_not0, wp_isB, wp_notB, wp_lenT, wp_lenL, wp_tupT, wp_tupL, wp_lstT, ws_next, ws_brk, ws_cont, ws_seq, ws_expr, ws_ret, ws_retN, ws_set, ws_asg, ws_put, ws_raise, ws_if, ws_for1, wp_and, wp_or, wp_tand, wp_tor, wp_ifE, wp_chain, gSlot, List.getElem?_cons_succ, List.getElem?_cons_zero, List.map_cons, List.map_nil, List.length_cons, List.length_nil, List.replicate_succ, List.replicate_zero, List.cons_append, List.nil_append, List.set_cons_succ, List.set_cons_zero, Option.some.injEq, exists_eq_left', Nat.reduceAdd, Nat.reduceSub, Nat.zero_add, Nat.add_zero, true_and, and_true, Vl.int.injEq, Vl.bl.injEq, Vl.loc.injEq, Vl.tup.injEq, exists_eq', exists_eq_left, Ob.lst.injEq]
    refine ⟨by decide, ?_⟩
    split
    · simp only [wp_ret, wp_stuck, wp_ifs, wp_newL, wp_var, wp_c, wp_op, wp_un, wp_tval, wp_tnot, wp_not, wp_nil, wp_cons, wp_tup, wp_lst, wp_dct, wp_call, wp_app, wp_append, wp_ixT, wp_ixL, wp_put, wp_sl, wp_pn, wp_ps, wp_slT, wp_addI, wp_addT, wp_sub, wp_mul, wp_mulT, wp_mulAI, wp_mulAT, wp_div, wp_mod, wp_pow, wp_neg, wp_cmp, wp_eqI, wp_neI, wp_eqS, wp_neS, wp_is0, wp_not0, wp_isB, wp_notB, wp_lenT, wp_lenL, wp_tupT, wp_tupL, wp_lstT, ws_next, ws_brk, ws_cont, ws_seq, ws_expr, ws_ret, ws_retN, ws_set, ws_asg, ws_put, ws_raise, ws_if, ws_for1, wp_and, wp_or, wp_tand, wp_tor, wp_ifE, wp_chain, gSlot, List.getElem?_cons_succ, List.getElem?_cons_zero, List.map_cons, List.map_nil, List.length_cons, List.length_nil, List.replicate_succ, List.replicate_zero, List.cons_append, List.nil_append, List.set_cons_succ, List.set_cons_zero, Option.some.injEq, exists_eq_left', Nat.reduceAdd, Nat.reduceSub, Nat.zero_add, Nat.add_zero, true_and, and_true, Vl.int.injEq, Vl.bl.injEq, Vl.loc.injEq, Vl.tup.injEq, exists_eq', exists_eq_left, Ob.lst.injEq]
      refine ⟨by decide, ws_range (fun k ρ S' => ∃ ys r c, ρ = [some (.frz (ns.map .int)), some (.loc S.length), some (.int m), some (.int r), c] ∧ S' = S ++ [.lst ys] ∧ Nums ys ∧ ys.length ≤ 60 * i + k) ⟨xs, _, _, rfl, rfl, hn, by omega⟩ ?_ ?_⟩
      · rintro k ρ S' hk ⟨ys, r, c, rfl, rfl, hy, hyl⟩
        refine ⟨_, rfl, ?_⟩
        have hk : k < 60 := hk
        simp only [wp_ret, wp_stuck, wp_ifs, wp_newL, wp_var, wp_c, wp_op, wp_un, wp_tval, wp_tnot, wp_not, wp_nil, wp_cons, wp_tup, wp_lst, wp_dct, wp_call, wp_app, wp_append, wp_ixT, wp_ixL, wp_put, wp_sl, wp_pn, wp_ps, wp_slT, wp_addI, wp_addT, wp_sub, wp_mul, wp_mulT, wp_mulAI, wp_mulAT, wp_div, wp_mod, wp_pow, wp_neg, wp_cmp, wp_eqI, wp_neI, wp_eqS, wp_neS, wp_is0, wp_not0, wp_isB, wp_notB, wp_lenT, wp_lenL, wp_tupT, wp_tupL, wp_lstT, ws_next, ws_brk, ws_cont, ws_seq, ws_expr, ws_ret, ws_retN, ws_set, ws_asg, ws_put, ws_raise, ws_if, ws_for1, wp_and, wp_or, wp_tand, wp_tor, wp_ifE, wp_chain, gSlot, List.getElem?_cons_succ, List.getElem?_cons_zero, List.map_cons, List.map_nil, List.length_cons, List.length_nil, List.replicate_succ, List.replicate_zero, List.cons_append, List.nil_append, List.set_cons_succ, List.set_cons_zero, Option.some.injEq, exists_eq_left', Nat.reduceAdd, Nat.reduceSub, Nat.zero_add, Nat.add_zero, true_and, and_true, Vl.int.injEq, Vl.bl.injEq, Vl.loc.injEq, Vl.tup.injEq, exists_eq', exists_eq_left, Ob.lst.injEq]
        split
        · simp only [wp_ret, wp_stuck, wp_ifs, wp_newL, wp_var, wp_c, wp_op, wp_un, wp_tval, wp_tnot, wp_not, wp_nil, wp_cons, wp_tup, wp_lst, wp_dct, wp_call, wp_app, wp_append, wp_ixT, wp_ixL, wp_put, wp_sl, wp_pn, wp_ps, wp_slT, wp_addI, wp_addT, wp_sub, wp_mul, wp_mulT, wp_mulAI, wp_mulAT, wp_div, wp_mod, wp_pow, wp_neg, wp_cmp, wp_eqI, wp_neI, wp_eqS, wp_neS, wp_is0, wp_not0, wp_isB, wp_notB, wp_lenT, wp_lenL, wp_tupT, wp_tupL, wp_lstT, ws_next, ws_brk, ws_cont, ws_seq, ws_expr, ws_ret, ws_retN, ws_set, ws_asg, ws_put, ws_raise, ws_if, ws_for1, wp_and, wp_or, wp_tand, wp_tor, wp_ifE, wp_chain, gSlot, List.getElem?_cons_succ, List.getElem?_cons_zero, List.map_cons, List.map_nil, List.length_cons, List.length_nil, List.replicate_succ, List.replicate_zero, List.cons_append, List.nil_append, List.set_cons_succ, List.set_cons_zero, Option.some.injEq, exists_eq_left', Nat.reduceAdd, Nat.reduceSub, Nat.zero_add, Nat.add_zero, true_and, and_true, Vl.int.injEq, Vl.bl.injEq, Vl.loc.injEq, Vl.tup.injEq, exists_eq', exists_eq_left, Ob.lst.injEq, get_last, set_last]
          refine ⟨by decide, ?_, by decide, ys ++ [_], _, _, rfl, rfl, hy.snoc (fm0 (by decide)) (fm1 (by decide)), by simp; omega⟩
          show ys.length < 16777216
          omega
        · simp only [wp_ret, wp_stuck, wp_ifs, wp_newL, wp_var, wp_c, wp_op, wp_un, wp_tval, wp_tnot, wp_not, wp_nil, wp_cons, wp_tup, wp_lst, wp_dct, wp_call, wp_app, wp_append, wp_ixT, wp_ixL, wp_put, wp_sl, wp_pn, wp_ps, wp_slT, wp_addI, wp_addT, wp_sub, wp_mul, wp_mulT, wp_mulAI, wp_mulAT, wp_div, wp_mod, wp_pow, wp_neg, wp_cmp, wp_eqI, wp_neI, wp_eqS, wp_neS, wp_is0, wp_not0, wp_isB, wp_notB, wp_lenT, wp_lenL, wp_tupT, wp_tupL, wp_lstT, ws_next, ws_brk, ws_cont, ws_seq, ws_expr, ws_ret, ws_retN, ws_set, ws_asg, ws_put, ws_raise, ws_if, ws_for1, wp_and, wp_or, wp_tand, wp_tor, wp_ifE, wp_chain, gSlot, List.getElem?_cons_succ, List.getElem?_cons_zero, List.map_cons, List.map_nil, List.length_cons, List.length_nil, List.replicate_succ, List.replicate_zero, List.cons_append, List.nil_append, List.set_cons_succ, List.set_cons_zero, Option.some.injEq, exists_eq_left', Nat.reduceAdd, Nat.reduceSub, Nat.zero_add, Nat.add_zero, true_and, and_true, Vl.int.injEq, Vl.bl.injEq, Vl.loc.injEq, Vl.tup.injEq, exists_eq', exists_eq_left, Ob.lst.injEq]
          exact ⟨ys, _, _, rfl, rfl, hy, by omega⟩
      · rintro ρ S' ⟨ys, r, c, rfl, rfl, hy, hyl⟩
        have hyl : ys.length ≤ 60 * i + 60 := hyl
        exact ⟨ys, _, _, _, rfl, rfl, hy, by omega⟩
    · simp only [wp_ret, wp_stuck, wp_ifs, wp_newL, wp_var, wp_c, wp_op, wp_un, wp_tval, wp_tnot, wp_not, wp_nil, wp_cons, wp_tup, wp_lst, wp_dct, wp_call, wp_app, wp_append, wp_ixT, wp_ixL, wp_put, wp_sl, wp_pn, wp_ps, wp_slT, wp_addI, wp_addT, wp_sub, wp_mul, wp_mulT, wp_mulAI, wp_mulAT, wp_div, wp_mod, wp_pow, wp_neg, wp_cmp, wp_eqI, wp_neI, wp_eqS, wp_neS, wp_is0, wp_not0, wp_isB, wp_notB, wp_lenT, wp_lenL, wp_tupT, wp_tupL, wp_lstT, ws_next, ws_brk, ws_cont, ws_seq, ws_expr, ws_ret, ws_retN, ws_set, ws_asg, ws_put, ws_raise, ws_if, ws_for1, wp_and, wp_or, wp_tand, wp_tor, wp_ifE, wp_chain, gSlot, List.getElem?_cons_succ, List.getElem?_cons_zero, List.map_cons, List.map_nil, List.length_cons, List.length_nil, List.replicate_succ, List.replicate_zero, List.cons_append, List.nil_append, List.set_cons_succ, List.set_cons_zero, Option.some.injEq, exists_eq_left', Nat.reduceAdd, Nat.reduceSub, Nat.zero_add, Nat.add_zero, true_and, and_true, Vl.int.injEq, Vl.bl.injEq, Vl.loc.injEq, Vl.tup.injEq, exists_eq', exists_eq_left, Ob.lst.injEq, get_last, set_last]
      refine ⟨by decide, ?_, ?_⟩
      · show xs.length < 16777216
        omega
      refine ⟨by decide, ws_range (fun k ρ S' => ∃ ys r c, ρ = [some (.frz (ns.map .int)), some (.loc S.length), some (.int m), r, c] ∧ S' = S ++ [.lst ys] ∧ Nums ys ∧ ys.length ≤ 60 * i + 1 + k) ⟨xs ++ [_], _, _, rfl, rfl, hn.snoc (fm0 (by decide)) (fm1 (by decide)), by simp; omega⟩ ?_ ?_⟩
      · rintro k ρ S' hk ⟨ys, r, c, rfl, rfl, hy, hyl⟩
        refine ⟨_, rfl, ?_⟩
        have hk : k < 5 := hk
        simp only [wp_ret, wp_stuck, wp_ifs, wp_newL, wp_var, wp_c, wp_op, wp_un, wp_tval, wp_tnot, wp_not, wp_nil, wp_cons, wp_tup, wp_lst, wp_dct, wp_call, wp_app, wp_append, wp_ixT, wp_ixL, wp_put, wp_sl, wp_pn, wp_ps, wp_slT, wp_addI, wp_addT, wp_sub, wp_mul, wp_mulT, wp_mulAI, wp_mulAT, wp_div, wp_mod, wp_pow, wp_neg, wp_cmp, wp_eqI, wp_neI, wp_eqS, wp_neS, wp_is0, wp_not0, wp_isB, wp_notB, wp_lenT, wp_lenL, wp_tupT, wp_tupL, wp_lstT, ws_next, ws_brk, ws_cont, ws_seq, ws_expr, ws_ret, ws_retN, ws_set, ws_asg, ws_put, ws_raise, ws_if, ws_for1, wp_and, wp_or, wp_tand, wp_tor, wp_ifE, wp_chain, gSlot, List.getElem?_cons_succ, List.getElem?_cons_zero, List.map_cons, List.map_nil, List.length_cons, List.length_nil, List.replicate_succ, List.replicate_zero, List.cons_append, List.nil_append, List.set_cons_succ, List.set_cons_zero, Option.some.injEq, exists_eq_left', Nat.reduceAdd, Nat.reduceSub, Nat.zero_add, Nat.add_zero, true_and, and_true, Vl.int.injEq, Vl.bl.injEq, Vl.loc.injEq, Vl.tup.injEq, exists_eq', exists_eq_left, Ob.lst.injEq, get_last, set_last]
        refine ⟨by decide, mixed_ok ⟨fm0 (by decide), Int.lt_trans (fm1 (by decide)) (by decide)⟩ ⟨by omega, by omega⟩ fun r1 h1 h2 => ?_⟩
        refine mixed_ok ⟨by omega, by omega⟩ ⟨by omega, by omega⟩ fun r2 h3 h4 => ?_
        simp only [wp_ret, wp_stuck, wp_ifs, wp_newL, wp_var, wp_c, wp_op, wp_un, wp_tval, wp_tnot, wp_not, wp_nil, wp_cons, wp_tup, wp_lst, wp_dct, wp_call, wp_app, wp_append, wp_ixT, wp_ixL, wp_put, wp_sl, wp_pn, wp_ps, wp_slT, wp_addI, wp_addT, wp_sub, wp_mul, wp_mulT, wp_mulAI, wp_mulAT, wp_div, wp_mod, wp_pow, wp_neg, wp_cmp, wp_eqI, wp_neI, wp_eqS, wp_neS, wp_is0, wp_not0, wp_isB, wp_notB, wp_lenT, wp_lenL, wp_tupT, wp_tupL, wp_lstT, ws_next, ws_brk, ws_cont, ws_seq, ws_expr, ws_ret, ws_retN, ws_set, ws_asg, ws_put, ws_raise, ws_if, ws_for1, wp_and, wp_or, wp_tand, wp_tor, wp_ifE, wp_chain, gSlot, List.getElem?_cons_succ, List.getElem?_cons_zero, List.map_cons, List.map_nil, List.length_cons, List.length_nil, List.replicate_succ, List.replicate_zero, List.cons_append, List.nil_append, List.set_cons_succ, List.set_cons_zero, Option.some.injEq, exists_eq_left', Nat.reduceAdd, Nat.reduceSub, Nat.zero_add, Nat.add_zero, true_and, and_true, Vl.int.injEq, Vl.bl.injEq, Vl.loc.injEq, Vl.tup.injEq, exists_eq', exists_eq_left, Ob.lst.injEq, get_last, set_last]
        refine ⟨by decide, ?_, ys ++ [_], _, _, rfl, rfl, hy.snoc (fm0 (by decide)) (fm1 (by decide)), by simp; omega⟩
        show ys.length < 16777216
        omega
      · rintro ρ S' ⟨ys, r, c, rfl, rfl, hy, hyl⟩
        have hyl : ys.length ≤ 60 * i + 1 + 5 := hyl
        exact ⟨ys, _, _, _, rfl, rfl, hy, by omega⟩
  · rintro ρ S' ⟨xs, a, b, c, rfl, rfl, hn, hlen⟩
    simp only [wp_ret, wp_stuck, wp_ifs, wp_newL, wp_var, wp_c, wp_op, wp_un, wp_tval, wp_tnot, wp_not, wp_nil, wp_cons, wp_tup, wp_lst, wp_dct, wp_call, wp_app, wp_append, wp_ixT, wp_ixL, wp_put, wp_sl, wp_pn, wp_ps, wp_slT, wp_addI, wp_addT, wp_sub, wp_mul, wp_mulT, wp_mulAI, wp_mulAT, wp_div, wp_mod, wp_pow, wp_neg, wp_cmp, wp_eqI, wp_neI, wp_eqS, wp_neS, wp_is0, wp_not0, wp_isB, wp_notB, wp_lenT, wp_lenL, wp_tupT, wp_tupL, wp_lstT, ws_next, ws_brk, ws_cont, ws_seq, ws_expr, ws_ret, ws_retN, ws_set, ws_asg, ws_put, ws_raise, ws_if, ws_for1, wp_and, wp_or, wp_tand, wp_tor, wp_ifE, wp_chain, gSlot, List.getElem?_cons_succ, List.getElem?_cons_zero, List.map_cons, List.map_nil, List.length_cons, List.length_nil, List.replicate_succ, List.replicate_zero, List.cons_append, List.nil_append, List.set_cons_succ, List.set_cons_zero, Option.some.injEq, exists_eq_left', Nat.reduceAdd, Nat.reduceSub, Nat.zero_add, Nat.add_zero, true_and, and_true, Vl.int.injEq, Vl.bl.injEq, Vl.loc.injEq, Vl.tup.injEq, exists_eq', exists_eq_left, Ob.lst.injEq]
    refine h xs hn ?_
    simp at hlen; omega
/-! ### draws -/
/-- the list of draws at 1, of the numbers at 0; f more may be drawn -/
def Dr (S : Store) (f : Nat) : Prop := ∃ (xs : List Vl) (k : Int), S[1]? = some (.lst [.loc 0, .int k]) ∧ S[0]? = some (.lst xs) ∧ Nums xs ∧ xs.length ≤ 3780 ∧ 0 ≤ k ∧ k + f ≤ 1000000
/-- all but the draws stays as it is -/
def Fr (S S' : Store) : Prop := S.length ≤ S'.length ∧ ∀ i : Nat, i ≠ 1 → i < S.length → S'[i]? = S[i]?
theorem Fr.refl {S} : Fr S S := ⟨Nat.le_refl _, fun _ _ _ => rfl⟩
theorem Fr.trans {S S1 S2} (a : Fr S S1) (b : Fr S1 S2) : Fr S S2 := ⟨Nat.le_trans a.1 b.1, fun i h hi => (b.2 i h (Nat.lt_of_lt_of_le hi a.1)).trans (a.2 i h hi)⟩
theorem Fr.app {S T} : Fr S (S ++ T) := ⟨by simp, fun i _ hi => List.getElem?_append_left hi⟩
theorem Fr.set {S S' : Store} {n o} (h : Fr S S') (hn : S.length ≤ n) : Fr S (S'.set n o) := ⟨by simpa using h.1, fun i h1 h2 => by rw [List.getElem?_set_ne (by omega)]; exact h.2 i h1 h2⟩
theorem Fr.get {S S' : Store} {i o} (h : Fr S S') (e : S[i]? = some o) (hi : i ≠ 1) : S'[i]? = some o := (h.2 i hi (List.getElem?_eq_some_iff.mp e).1).trans e
theorem Fr.last {S S' : Store} {o} (h : Fr (S ++ [o]) S') (hl : 2 ≤ S.length) : S'[S.length]? = some o := h.get get_last (by omega)
theorem Dr.two {S f} (h : Dr S f) : 2 ≤ S.length := by
  obtain ⟨_, _, e, _⟩ := h
  exact (List.getElem?_eq_some_iff.mp e).1
theorem Dr.app {S f T} (h : Dr S f) : Dr (S ++ T) f := by
  obtain ⟨xs, k, h2, h3, h4⟩ := h
  exact ⟨xs, k, by rw [List.getElem?_append_left (List.getElem?_eq_some_iff.mp h2).1]; exact h2, by rw [List.getElem?_append_left (List.getElem?_eq_some_iff.mp h3).1]; exact h3, h4⟩
theorem Dr.less {S f g} (h : Dr S f) (hg : g ≤ f := by omega) : Dr S g := by
  obtain ⟨xs, k, h2, h3, h4, h5, h6, h7⟩ := h
  exact ⟨xs, k, h2, h3, h4, h5, h6, by omega⟩
theorem Dr.set {S f n o} (h : Dr S f) (hn : 2 ≤ n) : Dr (S.set n o) f := by
  obtain ⟨xs, k, h2, h3, h4⟩ := h
  exact ⟨xs, k, by rw [List.getElem?_set_ne (by omega)]; exact h2, by rw [List.getElem?_set_ne (by omega)]; exact h3, h4⟩
theorem nums_at {xs : List Vl} (h : Nums xs) {i : Int} (h0 : 0 ≤ i) (h1 : i < xs.length) : ∃ m : Int, atI xs i = some (.int m) ∧ 0 ≤ m ∧ m < 1000000 := by
  obtain ⟨ms, rfl, q⟩ := h
  simp at h1
  have hi : i.toNat < ms.length := by omega
  refine ⟨ms[i.toNat], ?_, q _ (List.getElem_mem hi)⟩
  unfold atI ixN
  rw [if_pos h0, if_pos (by simpa using h1)]
  simp [List.getElem?_eq_getElem hi]
theorem draw_ok {f : Nat} {S : Store} (h : Dr S f) (hf : 1 ≤ f) {Q : Vl → Store → Prop} {E : Str → Store → Prop} (hQ : ∀ (m : Int) S', 0 ≤ m → m < 1000000 → S'.length = S.length → Dr S' (f - 1) → Fr S S' → Q (.int m) S') :
    Wp (r__law_draw [.loc 1]) S Q E := by
  obtain ⟨xs, k, h2, h3, h4, h5, h6, h7⟩ := h
  have hd : 1 < S.length := (List.getElem?_eq_some_iff.mp h2).1
  have a0 : atI [Vl.loc 0, Vl.int k] 0 = some (.loc 0) := rfl
  have a1 : atI [Vl.loc 0, Vl.int k] 1 = some (.int k) := rfl
  have b0 : atI [Vl.loc 0, Vl.int (k + 1)] 0 = some (.loc 0) := rfl
  have i1 : ixN 2 1 = some 1 := rfl
  have g1 : (S.set 1 (.lst [.loc 0, .int (k + 1)]))[1]? = some (.lst [.loc 0, .int (k + 1)]) := List.getElem?_set_self hd
  have g2 : (S.set 1 (.lst [.loc 0, .int (k + 1)]))[0]? = some (.lst xs) := by rw [List.getElem?_set_ne (by decide)]; exact h3
  have fin : ∀ m : Int, 0 ≤ m → m < 1000000 → Q (.int m) (S.set 1 (.lst [.loc 0, .int (k + 1)])) := fun m m0 m1 =>
    hQ m _ m0 m1 (by simp) ⟨xs, k + 1, g1, g2, h4, h5, by omega, by omega⟩ ⟨by simp, fun i hi _ => List.getElem?_set_ne (Ne.symm hi)⟩
  unfold r__law_draw b__law_draw
  rw [wp_fn]
  simp only [wp_ret, wp_stuck, wp_ifs, wp_newL, wp_var, wp_c, wp_op, wp_un, wp_tval, wp_tnot, wp_not, wp_nil, wp_cons, wp_tup, wp_lst, wp_dct, wp_call, wp_app, wp_append, wp_ixT, wp_ixL, wp_put, wp_sl, wp_pn, wp_ps, wp_slT, wp_addI, wp_addT, wp_sub, wp_mul, wp_mulT, wp_mulAI, wp_mulAT, wp_div, wp_mod, wp_pow, wp_neg, wp_cmp, wp_eqI, wp_neI, wp_eqS, wp_neS, wp_is0, wp_not0, wp_isB, wp_notB, wp_lenT, wp_lenL, wp_tupT, wp_tupL, wp_lstT, ws_next, ws_brk, ws_cont, ws_seq, ws_expr, ws_ret, ws_retN, ws_set, ws_asg, ws_put, ws_raise, ws_if, ws_for1, wp_and, wp_or, wp_tand, wp_tor, wp_ifE, wp_chain, gSlot, List.getElem?_cons_succ, List.getElem?_cons_zero, List.map_cons, List.map_nil, List.length_cons, List.length_nil, List.replicate_succ, List.replicate_zero, List.cons_append, List.nil_append, List.set_cons_succ, List.set_cons_zero, Option.some.injEq, exists_eq_left', Nat.reduceAdd, Nat.reduceSub, Nat.zero_add, Nat.add_zero, true_and, and_true, Vl.int.injEq, Vl.bl.injEq, Vl.loc.injEq, Vl.tup.injEq, exists_eq', exists_eq_left, Ob.lst.injEq, h2, h3, a0, a1, i1, g1, g2, b0]
  split
  · next hc =>
    have hc : k < xs.length := of_decide_eq_true hc
    obtain ⟨m, hm, m0, m1⟩ := nums_at h4 h6 hc
    simp only [wp_ret, wp_stuck, wp_ifs, wp_newL, wp_var, wp_c, wp_op, wp_un, wp_tval, wp_tnot, wp_not, wp_nil, wp_cons, wp_tup, wp_lst, wp_dct, wp_call, wp_app, wp_append, wp_ixT, wp_ixL, wp_put, wp_sl, wp_pn, wp_ps, wp_slT, wp_addI, wp_addT, wp_sub, wp_mul, wp_mulT, wp_mulAI, wp_mulAT, wp_div, wp_mod, wp_pow, wp_neg, wp_cmp, wp_eqI, wp_neI, wp_eqS, wp_neS, wp_is0, wp_not0, wp_isB, wp_notB, wp_lenT, wp_lenL, wp_tupT, wp_tupL, wp_lstT, ws_next, ws_brk, ws_cont, ws_seq, ws_expr, ws_ret, ws_retN, ws_set, ws_asg, ws_put, ws_raise, ws_if, ws_for1, wp_and, wp_or, wp_tand, wp_tor, wp_ifE, wp_chain, gSlot, List.getElem?_cons_succ, List.getElem?_cons_zero, List.map_cons, List.map_nil, List.length_cons, List.length_nil, List.replicate_succ, List.replicate_zero, List.cons_append, List.nil_append, List.set_cons_succ, List.set_cons_zero, Option.some.injEq, exists_eq_left', Nat.reduceAdd, Nat.reduceSub, Nat.zero_add, Nat.add_zero, true_and, and_true, Vl.int.injEq, Vl.bl.injEq, Vl.loc.injEq, Vl.tup.injEq, exists_eq', exists_eq_left, Ob.lst.injEq, g1, g2, b0, hm]
    exact fin m m0 m1
  · simp only [wp_ret, wp_stuck, wp_ifs, wp_newL, wp_var, wp_c, wp_op, wp_un, wp_tval, wp_tnot, wp_not, wp_nil, wp_cons, wp_tup, wp_lst, wp_dct, wp_call, wp_app, wp_append, wp_ixT, wp_ixL, wp_put, wp_sl, wp_pn, wp_ps, wp_slT, wp_addI, wp_addT, wp_sub, wp_mul, wp_mulT, wp_mulAI, wp_mulAT, wp_div, wp_mod, wp_pow, wp_neg, wp_cmp, wp_eqI, wp_neI, wp_eqS, wp_neS, wp_is0, wp_not0, wp_isB, wp_notB, wp_lenT, wp_lenL, wp_tupT, wp_tupL, wp_lstT, ws_next, ws_brk, ws_cont, ws_seq, ws_expr, ws_ret, ws_retN, ws_set, ws_asg, ws_put, ws_raise, ws_if, ws_for1, wp_and, wp_or, wp_tand, wp_tor, wp_ifE, wp_chain, gSlot, List.getElem?_cons_succ, List.getElem?_cons_zero, List.map_cons, List.map_nil, List.length_cons, List.length_nil, List.replicate_succ, List.replicate_zero, List.cons_append, List.nil_append, List.set_cons_succ, List.set_cons_zero, Option.some.injEq, exists_eq_left', Nat.reduceAdd, Nat.reduceSub, Nat.zero_add, Nat.add_zero, true_and, and_true, Vl.int.injEq, Vl.bl.injEq, Vl.loc.injEq, Vl.tup.injEq, exists_eq', exists_eq_left, Ob.lst.injEq, g1, g2, b0]
    split
    · next hc =>
      have hc : (0 : Int) < xs.length := of_decide_eq_true hc
      obtain ⟨m, hm, m0, m1⟩ := nums_at h4 (Int.le_refl 0) hc
      simp only [wp_ret, wp_stuck, wp_ifs, wp_newL, wp_var, wp_c, wp_op, wp_un, wp_tval, wp_tnot, wp_not, wp_nil, wp_cons, wp_tup, wp_lst, wp_dct, wp_call, wp_app, wp_append, wp_ixT, wp_ixL, wp_put, wp_sl, wp_pn, wp_ps, wp_slT, wp_addI, wp_addT, wp_sub, wp_mul, wp_mulT, wp_mulAI, wp_mulAT, wp_div, wp_mod, wp_pow, wp_neg, wp_cmp, wp_eqI, wp_neI, wp_eqS, wp_neS, wp_is0, wp_not0, wp_isB, wp_notB, wp_lenT, wp_lenL, wp_tupT, wp_tupL, wp_lstT, ws_next, ws_brk, ws_cont, ws_seq, ws_expr, ws_ret, ws_retN, ws_set, ws_asg, ws_put, ws_raise, ws_if, ws_for1, wp_and, wp_or, wp_tand, wp_tor, wp_ifE, wp_chain, gSlot, List.getElem?_cons_succ, List.getElem?_cons_zero, List.map_cons, List.map_nil, List.length_cons, List.length_nil, List.replicate_succ, List.replicate_zero, List.cons_append, List.nil_append, List.set_cons_succ, List.set_cons_zero, Option.some.injEq, exists_eq_left', Nat.reduceAdd, Nat.reduceSub, Nat.zero_add, Nat.add_zero, true_and, and_true, Vl.int.injEq, Vl.bl.injEq, Vl.loc.injEq, Vl.tup.injEq, exists_eq', exists_eq_left, Ob.lst.injEq, g1, g2, b0, hm]
      have l1 := lg40 (i := m) (by omega) (by omega)
      have l2 : (Int.natAbs 1009).log2 < 40 := by decide
      refine ⟨by omega, mixed_ok ⟨by omega, by omega⟩ ⟨by omega, by omega⟩ fun r1 h1 h2 => mixed_ok ⟨by omega, by omega⟩ ⟨by omega, by omega⟩ fun r2 h3 h4 => ?_⟩
      simp only [wp_ret, wp_stuck, wp_ifs, wp_newL, wp_var, wp_c, wp_op, wp_un, wp_tval, wp_tnot, wp_not, wp_nil, wp_cons, wp_tup, wp_lst, wp_dct, wp_call, wp_app, wp_append, wp_ixT, wp_ixL, wp_put, wp_sl, wp_pn, wp_ps, wp_slT, wp_addI, wp_addT, wp_sub, wp_mul, wp_mulT, wp_mulAI, wp_mulAT, wp_div, wp_mod, wp_pow, wp_neg, wp_cmp, wp_eqI, wp_neI, wp_eqS, wp_neS, wp_is0, wp_not0, wp_isB, wp_notB, wp_lenT, wp_lenL, wp_tupT, wp_tupL, wp_lstT, ws_next, ws_brk, ws_cont, ws_seq, ws_expr, ws_ret, ws_retN, ws_set, ws_asg, ws_put, ws_raise, ws_if, ws_for1, wp_and, wp_or, wp_tand, wp_tor, wp_ifE, wp_chain, gSlot, List.getElem?_cons_succ, List.getElem?_cons_zero, List.map_cons, List.map_nil, List.length_cons, List.length_nil, List.replicate_succ, List.replicate_zero, List.cons_append, List.nil_append, List.set_cons_succ, List.set_cons_zero, Option.some.injEq, exists_eq_left', Nat.reduceAdd, Nat.reduceSub, Nat.zero_add, Nat.add_zero, true_and, and_true, Vl.int.injEq, Vl.bl.injEq, Vl.loc.injEq, Vl.tup.injEq, exists_eq', exists_eq_left, Ob.lst.injEq]
      exact ⟨by decide, fin _ (fm0 (by decide)) (fm1 (by decide))⟩
    · simp only [wp_ret, wp_stuck, wp_ifs, wp_newL, wp_var, wp_c, wp_op, wp_un, wp_tval, wp_tnot, wp_not, wp_nil, wp_cons, wp_tup, wp_lst, wp_dct, wp_call, wp_app, wp_append, wp_ixT, wp_ixL, wp_put, wp_sl, wp_pn, wp_ps, wp_slT, wp_addI, wp_addT, wp_sub, wp_mul, wp_mulT, wp_mulAI, wp_mulAT, wp_div, wp_mod, wp_pow, wp_neg, wp_cmp, wp_eqI, wp_neI, wp_eqS, wp_neS, wp_is0, wp_not0, wp_isB, wp_notB, wp_lenT, wp_lenL, wp_tupT, wp_tupL, wp_lstT, ws_next, ws_brk, ws_cont, ws_seq, ws_expr, ws_ret, ws_retN, ws_set, ws_asg, ws_put, ws_raise, ws_if, ws_for1, wp_and, wp_or, wp_tand, wp_tor, wp_ifE, wp_chain, gSlot, List.getElem?_cons_succ, List.getElem?_cons_zero, List.map_cons, List.map_nil, List.length_cons, List.length_nil, List.replicate_succ, List.replicate_zero, List.cons_append, List.nil_append, List.set_cons_succ, List.set_cons_zero, Option.some.injEq, exists_eq_left', Nat.reduceAdd, Nat.reduceSub, Nat.zero_add, Nat.add_zero, true_and, and_true, Vl.int.injEq, Vl.bl.injEq, Vl.loc.injEq, Vl.tup.injEq, exists_eq', exists_eq_left, Ob.lst.injEq]
      refine mixed_ok ⟨by omega, by omega⟩ ⟨by omega, by omega⟩ fun r1 h1 h2 => mixed_ok ⟨by omega, by omega⟩ ⟨by omega, by omega⟩ fun r2 h3 h4 => ?_
      simp only [wp_ret, wp_stuck, wp_ifs, wp_newL, wp_var, wp_c, wp_op, wp_un, wp_tval, wp_tnot, wp_not, wp_nil, wp_cons, wp_tup, wp_lst, wp_dct, wp_call, wp_app, wp_append, wp_ixT, wp_ixL, wp_put, wp_sl, wp_pn, wp_ps, wp_slT, wp_addI, wp_addT, wp_sub, wp_mul, wp_mulT, wp_mulAI, wp_mulAT, wp_div, wp_mod, wp_pow, wp_neg, wp_cmp, wp_eqI, wp_neI, wp_eqS, wp_neS, wp_is0, wp_not0, wp_isB, wp_notB, wp_lenT, wp_lenL, wp_tupT, wp_tupL, wp_lstT, ws_next, ws_brk, ws_cont, ws_seq, ws_expr, ws_ret, ws_retN, ws_set, ws_asg, ws_put, ws_raise, ws_if, ws_for1, wp_and, wp_or, wp_tand, wp_tor, wp_ifE, wp_chain, gSlot, List.getElem?_cons_succ, List.getElem?_cons_zero, List.map_cons, List.map_nil, List.length_cons, List.length_nil, List.replicate_succ, List.replicate_zero, List.cons_append, List.nil_append, List.set_cons_succ, List.set_cons_zero, Option.some.injEq, exists_eq_left', Nat.reduceAdd, Nat.reduceSub, Nat.zero_add, Nat.add_zero, true_and, and_true, Vl.int.injEq, Vl.bl.injEq, Vl.loc.injEq, Vl.tup.injEq, exists_eq', exists_eq_left, Ob.lst.injEq]
      exact ⟨by decide, fin _ (fm0 (by decide)) (fm1 (by decide))⟩
theorem get_mid {S : Store} {o u : Ob} : (S ++ [o] ++ [u])[S.length]? = some o := by simp
theorem ix_mod {xs : List Vl} {m j : Int} (hj : j = (xs.length : Int)) (h0 : 0 < j) : ∃ v, atI xs (m.fmod j) = some v ∧ v ∈ xs := by
  have a := fm0 (i := m) h0
  have b := fm1 (i := m) h0
  have hi : (m.fmod j).toNat < xs.length := by omega
  refine ⟨xs[(m.fmod j).toNat], ?_, List.getElem_mem hi⟩
  unfold atI ixN
  rw [if_pos a, if_pos (by omega)]
  simp [List.getElem?_eq_getElem hi]
end LW
end Tw
end
section
set_option Elab.async false
set_option maxRecDepth 100000
set_option maxHeartbeats 3000000
set_option linter.all false
namespace Tw
namespace LW
open PySem L2
theorem kb_NoneType_int : kitB "NoneType" "int" = some false := by decide +kernel
theorem kb_NoneType_bool : kitB "NoneType" "bool" = some false := by decide +kernel
theorem kb_NoneType_tuple : kitB "NoneType" "tuple" = some false := by decide +kernel
theorem kb_bool_int : kitB "bool" "int" = some true := by decide +kernel
theorem kb_bool_bool : kitB "bool" "bool" = some true := by decide +kernel
theorem kb_bool_tuple : kitB "bool" "tuple" = some false := by decide +kernel
theorem kb_int_int : kitB "int" "int" = some true := by decide +kernel
theorem kb_int_bool : kitB "int" "bool" = some false := by decide +kernel
theorem kb_int_tuple : kitB "int" "tuple" = some false := by decide +kernel
theorem kb_str_int : kitB "str" "int" = some false := by decide +kernel
theorem kb_str_bool : kitB "str" "bool" = some false := by decide +kernel
theorem kb_str_tuple : kitB "str" "tuple" = some false := by decide +kernel
theorem kb_tuple_int : kitB "tuple" "int" = some false := by decide +kernel
theorem kb_tuple_bool : kitB "tuple" "bool" = some false := by decide +kernel
theorem kb_tuple_tuple : kitB "tuple" "tuple" = some true := by decide +kernel
theorem kb_list_int : kitB "list" "int" = some false := by decide +kernel
theorem kb_list_bool : kitB "list" "bool" = some false := by decide +kernel
theorem kb_list_tuple : kitB "list" "tuple" = some false := by decide +kernel
theorem kb_dict_int : kitB "dict" "int" = some false := by decide +kernel
theorem kb_dict_bool : kitB "dict" "bool" = some false := by decide +kernel
theorem kb_dict_tuple : kitB "dict" "tuple" = some false := by decide +kernel
/-! ### what is a program -/
def Fine (S : Store) (v : Vl) : Prop := (tyN S v).isSome = true
def FineN (S : Store) : Nat → Vl → Prop
  | 0, v => Fine S v
  | n + 1, v => Fine S v ∧ ∀ xs, v = .tup xs → xs.length ≤ line ∧ ∀ x ∈ xs, FineN S n x
def isI : Vl → Bool
  | .int _ => true
  | _ => false
def isB (lo hi : Int) : Vl → Bool
  | .int i => decide (lo ≤ i) && decide (i ≤ hi)
  | _ => false
def isT (n : Int) : Vl → Bool
  | .tup xs => decide ((xs.length : Int) = n)
  | _ => false
def isU (n : Int) : Vl → Bool
  | .tup xs => decide ((xs.length : Int) ≤ n)
  | _ => false
theorem wpe {α : Type} {m : M α} {S : Store} {a : α} (h : Wp m S (fun b S2 => b = a ∧ S2 = S) fun _ _ => False) : m S = some (.ok a S) := wp_eq h fun _ _ z => z
theorem isi_of {S : Store} {v : Vl} {n t : String} {b : Bool} (h : tyN S v = some t) (k : kitB t n = some b) : bIsi [v, .ty n] S = some (.ok (.bl b) S) := by simp [bIsi, h, k]
theorem loc_ty {S : Store} {n : Nat} (h : Fine S (.loc n)) : tyN S (.loc n) = some "list" ∨ tyN S (.loc n) = some "dict" := by
  have e : tyN S (.loc n) = match S[n]? with | some (.lst _) => some "list" | some .dct => some "dict" | none => none := rfl
  unfold Fine at h
  rw [e] at h ⊢
  revert h
  cases S[n]? with
  | none => intro h; cases h
  | some o => cases o <;> simp
def isIB : Vl → Bool
  | .int _ => true
  | .bl _ => true
  | _ => false
def isBl : Vl → Bool
  | .bl _ => true
  | _ => false
def isTp : Vl → Bool
  | .tup _ => true
  | _ => false
theorem isi_int {S v} (h : Fine S v) : bIsi [v, .ty "int"] S = some (.ok (.bl (isIB v)) S) := by
  cases v with
  | loc n => rcases loc_ty h with e | e
             · exact isi_of e kb_list_int
             · exact isi_of e kb_dict_int
  | fn x => cases h
  | ty x => cases h
  | cls x => cases h
  | non => exact isi_of rfl kb_NoneType_int
  | bl b => exact isi_of rfl kb_bool_int
  | int b => exact isi_of rfl kb_int_int
  | str b => exact isi_of rfl kb_str_int
  | tup b => exact isi_of rfl kb_tuple_int
  | frz b => exact isi_of rfl kb_list_int
theorem isi_bool {S v} (h : Fine S v) : bIsi [v, .ty "bool"] S = some (.ok (.bl (isBl v)) S) := by
  cases v with
  | loc n => rcases loc_ty h with e | e
             · exact isi_of e kb_list_bool
             · exact isi_of e kb_dict_bool
  | fn x => cases h
  | ty x => cases h
  | cls x => cases h
  | non => exact isi_of rfl kb_NoneType_bool
  | bl b => exact isi_of rfl kb_bool_bool
  | int b => exact isi_of rfl kb_int_bool
  | str b => exact isi_of rfl kb_str_bool
  | tup b => exact isi_of rfl kb_tuple_bool
  | frz b => exact isi_of rfl kb_list_bool
theorem isi_tuple {S v} (h : Fine S v) : bIsi [v, .ty "tuple"] S = some (.ok (.bl (isTp v)) S) := by
  cases v with
  | loc n => rcases loc_ty h with e | e
             · exact isi_of e kb_list_tuple
             · exact isi_of e kb_dict_tuple
  | fn x => cases h
  | ty x => cases h
  | cls x => cases h
  | non => exact isi_of rfl kb_NoneType_tuple
  | bl b => exact isi_of rfl kb_bool_tuple
  | int b => exact isi_of rfl kb_int_tuple
  | str b => exact isi_of rfl kb_str_tuple
  | tup b => exact isi_of rfl kb_tuple_tuple
  | frz b => exact isi_of rfl kb_list_tuple
theorem wp_ite {α : Type} {c : Bool} {a b : M α} {S : Store} {Q : α → Store → Prop} {E : Str → Store → Prop} : Wp (if c = true then a else b) S Q E ↔ (c = true → Wp a S Q E) ∧ (c = false → Wp b S Q E) := by cases c <;> simp
theorem ws_ite {c : Bool} {a b : Option SR} {D : Dk} : Ws (if c = true then a else b) D ↔ (c = true → Ws a D) ∧ (c = false → Ws b D) := by cases c <;> simp
theorem isI_eq (v : Vl) : isI v = (isIB v && !isBl v) := by cases v <;> rfl
theorem int_ok {S v} (h : Fine S v) : r_is_integer [v] S = some (.ok (.bl (isI v)) S) := by
  refine wpe ?_
  unfold r_is_integer b_is_integer
  rw [wp_fn]
  simp only [wp_ret, wp_stuck, wp_ifs, wp_newL, wp_var, wp_c, wp_op, wp_un, wp_tval, wp_tnot, wp_not, wp_nil, wp_cons, wp_tup, wp_lst, wp_dct, wp_call, wp_app, wp_append, wp_ixT, wp_ixL, wp_put, wp_sl, wp_pn, wp_ps, wp_slT, wp_addI, wp_addT, wp_sub, wp_mul, wp_mulT, wp_mulAI, wp_mulAT, wp_div, wp_mod, wp_pow, wp_neg, wp_cmp, wp_eqI, wp_neI, wp_eqS, wp_neS, wp_is0, wp_not0, wp_isB, wp_notB, wp_lenT, wp_lenL, wp_tupT, wp_tupL, wp_lstT, ws_next, ws_brk, ws_cont, ws_seq, ws_expr, ws_ret, ws_retN, ws_set, ws_asg, ws_put, ws_raise, ws_if, ws_for1, wp_and, wp_or, wp_tand, wp_tor, wp_ifE, wp_chain, gSlot, List.getElem?_cons_succ, List.getElem?_cons_zero, List.map_cons, List.map_nil, List.length_cons, List.length_nil, List.replicate_succ, List.replicate_zero, List.cons_append, List.nil_append, List.set_cons_succ, List.set_cons_zero, Option.some.injEq, exists_eq_left', Nat.reduceAdd, Nat.reduceSub, Nat.zero_add, Nat.add_zero, true_and, and_true, Vl.int.injEq, Vl.bl.injEq, Vl.loc.injEq, Vl.tup.injEq, exists_eq', exists_eq_left, Ob.lst.injEq, wp_of (isi_int h), wp_of (isi_bool h), wp_ite]
  rw [isI_eq]
  exact ⟨fun q => by simp [q], fun q => by simp [q]⟩
theorem isB_I {lo hi : Int} {v : Vl} (h : isI v = false) : isB lo hi v = false := by cases v <;> first | rfl | cases h
theorem isI_int {v : Vl} (h : isI v = true) : ∃ i, v = .int i := by cases v <;> first | exact ⟨_, rfl⟩ | cases h
theorem isTp_tup {v : Vl} (h : isTp v = true) : ∃ i, v = .tup i := by cases v <;> first | exact ⟨_, rfl⟩ | cases h
theorem isT_T {n : Int} {v : Vl} (h : isTp v = false) : isT n v = false := by cases v <;> first | rfl | cases h
theorem isU_T {n : Int} {v : Vl} (h : isTp v = false) : isU n v = false := by cases v <;> first | rfl | cases h
theorem between_ok {S v} (h : Fine S v) (lo hi : Int) : r_is_between [v, .int lo, .int hi] S = some (.ok (.bl (isB lo hi v)) S) := by
  refine wpe ?_
  unfold r_is_between b_is_between
  rw [wp_fn]
  simp only [wp_ret, wp_stuck, wp_ifs, wp_newL, wp_var, wp_c, wp_op, wp_un, wp_tval, wp_tnot, wp_not, wp_nil, wp_cons, wp_tup, wp_lst, wp_dct, wp_call, wp_app, wp_append, wp_ixT, wp_ixL, wp_put, wp_sl, wp_pn, wp_ps, wp_slT, wp_addI, wp_addT, wp_sub, wp_mul, wp_mulT, wp_mulAI, wp_mulAT, wp_div, wp_mod, wp_pow, wp_neg, wp_cmp, wp_eqI, wp_neI, wp_eqS, wp_neS, wp_is0, wp_not0, wp_isB, wp_notB, wp_lenT, wp_lenL, wp_tupT, wp_tupL, wp_lstT, ws_next, ws_brk, ws_cont, ws_seq, ws_expr, ws_ret, ws_retN, ws_set, ws_asg, ws_put, ws_raise, ws_if, ws_for1, wp_and, wp_or, wp_tand, wp_tor, wp_ifE, wp_chain, gSlot, List.getElem?_cons_succ, List.getElem?_cons_zero, List.map_cons, List.map_nil, List.length_cons, List.length_nil, List.replicate_succ, List.replicate_zero, List.cons_append, List.nil_append, List.set_cons_succ, List.set_cons_zero, Option.some.injEq, exists_eq_left', Nat.reduceAdd, Nat.reduceSub, Nat.zero_add, Nat.add_zero, true_and, and_true, Vl.int.injEq, Vl.bl.injEq, Vl.loc.injEq, Vl.tup.injEq, exists_eq', exists_eq_left, Ob.lst.injEq, wp_of (int_ok h), wp_ite]
  refine ⟨fun q => ?_, fun q => by simp [isB_I q]⟩
  obtain ⟨i, rfl⟩ := isI_int q
  simp only [wp_ret, wp_stuck, wp_ifs, wp_newL, wp_var, wp_c, wp_op, wp_un, wp_tval, wp_tnot, wp_not, wp_nil, wp_cons, wp_tup, wp_lst, wp_dct, wp_call, wp_app, wp_append, wp_ixT, wp_ixL, wp_put, wp_sl, wp_pn, wp_ps, wp_slT, wp_addI, wp_addT, wp_sub, wp_mul, wp_mulT, wp_mulAI, wp_mulAT, wp_div, wp_mod, wp_pow, wp_neg, wp_cmp, wp_eqI, wp_neI, wp_eqS, wp_neS, wp_is0, wp_not0, wp_isB, wp_notB, wp_lenT, wp_lenL, wp_tupT, wp_tupL, wp_lstT, ws_next, ws_brk, ws_cont, ws_seq, ws_expr, ws_ret, ws_retN, ws_set, ws_asg, ws_put, ws_raise, ws_if, ws_for1, wp_and, wp_or, wp_tand, wp_tor, wp_ifE, wp_chain, gSlot, List.getElem?_cons_succ, List.getElem?_cons_zero, List.map_cons, List.map_nil, List.length_cons, List.length_nil, List.replicate_succ, List.replicate_zero, List.cons_append, List.nil_append, List.set_cons_succ, List.set_cons_zero, Option.some.injEq, exists_eq_left', Nat.reduceAdd, Nat.reduceSub, Nat.zero_add, Nat.add_zero, true_and, and_true, Vl.int.injEq, Vl.bl.injEq, Vl.loc.injEq, Vl.tup.injEq, exists_eq', exists_eq_left, Ob.lst.injEq, wp_ite, wp_bnd]
  exact ⟨fun q => by simp [isB, of_decide_eq_true q], fun q => by simp [isB, of_decide_eq_false q]⟩
theorem tupof_ok {S v} (h : Fine S v) (hl : ∀ xs, v = .tup xs → xs.length ≤ line) (n : Int) : r_is_tuple_of [v, .int n] S = some (.ok (.bl (isT n v)) S) := by
  refine wpe ?_
  unfold r_is_tuple_of b_is_tuple_of
  rw [wp_fn]
  simp only [wp_ret, wp_stuck, wp_ifs, wp_newL, wp_var, wp_c, wp_op, wp_un, wp_tval, wp_tnot, wp_not, wp_nil, wp_cons, wp_tup, wp_lst, wp_dct, wp_call, wp_app, wp_append, wp_ixT, wp_ixL, wp_put, wp_sl, wp_pn, wp_ps, wp_slT, wp_addI, wp_addT, wp_sub, wp_mul, wp_mulT, wp_mulAI, wp_mulAT, wp_div, wp_mod, wp_pow, wp_neg, wp_cmp, wp_eqI, wp_neI, wp_eqS, wp_neS, wp_is0, wp_not0, wp_isB, wp_notB, wp_lenT, wp_lenL, wp_tupT, wp_tupL, wp_lstT, ws_next, ws_brk, ws_cont, ws_seq, ws_expr, ws_ret, ws_retN, ws_set, ws_asg, ws_put, ws_raise, ws_if, ws_for1, wp_and, wp_or, wp_tand, wp_tor, wp_ifE, wp_chain, gSlot, List.getElem?_cons_succ, List.getElem?_cons_zero, List.map_cons, List.map_nil, List.length_cons, List.length_nil, List.replicate_succ, List.replicate_zero, List.cons_append, List.nil_append, List.set_cons_succ, List.set_cons_zero, Option.some.injEq, exists_eq_left', Nat.reduceAdd, Nat.reduceSub, Nat.zero_add, Nat.add_zero, true_and, and_true, Vl.int.injEq, Vl.bl.injEq, Vl.loc.injEq, Vl.tup.injEq, exists_eq', exists_eq_left, Ob.lst.injEq, wp_of (isi_tuple h), wp_ite]
  refine ⟨fun q => ?_, fun q => by simp [isT_T q]⟩
  obtain ⟨xs, rfl⟩ := isTp_tup q
  simp only [wp_ret, wp_stuck, wp_ifs, wp_newL, wp_var, wp_c, wp_op, wp_un, wp_tval, wp_tnot, wp_not, wp_nil, wp_cons, wp_tup, wp_lst, wp_dct, wp_call, wp_app, wp_append, wp_ixT, wp_ixL, wp_put, wp_sl, wp_pn, wp_ps, wp_slT, wp_addI, wp_addT, wp_sub, wp_mul, wp_mulT, wp_mulAI, wp_mulAT, wp_div, wp_mod, wp_pow, wp_neg, wp_cmp, wp_eqI, wp_neI, wp_eqS, wp_neS, wp_is0, wp_not0, wp_isB, wp_notB, wp_lenT, wp_lenL, wp_tupT, wp_tupL, wp_lstT, ws_next, ws_brk, ws_cont, ws_seq, ws_expr, ws_ret, ws_retN, ws_set, ws_asg, ws_put, ws_raise, ws_if, ws_for1, wp_and, wp_or, wp_tand, wp_tor, wp_ifE, wp_chain, gSlot, List.getElem?_cons_succ, List.getElem?_cons_zero, List.map_cons, List.map_nil, List.length_cons, List.length_nil, List.replicate_succ, List.replicate_zero, List.cons_append, List.nil_append, List.set_cons_succ, List.set_cons_zero, Option.some.injEq, exists_eq_left', Nat.reduceAdd, Nat.reduceSub, Nat.zero_add, Nat.add_zero, true_and, and_true, Vl.int.injEq, Vl.bl.injEq, Vl.loc.injEq, Vl.tup.injEq, exists_eq', exists_eq_left, Ob.lst.injEq]
  exact ⟨hl xs rfl, rfl⟩
theorem upto_ok {S v} (h : Fine S v) (hl : ∀ xs, v = .tup xs → xs.length ≤ line) (n : Int) : r_is_tuple_up_to [v, .int n] S = some (.ok (.bl (isU n v)) S) := by
  refine wpe ?_
  unfold r_is_tuple_up_to b_is_tuple_up_to
  rw [wp_fn]
  simp only [wp_ret, wp_stuck, wp_ifs, wp_newL, wp_var, wp_c, wp_op, wp_un, wp_tval, wp_tnot, wp_not, wp_nil, wp_cons, wp_tup, wp_lst, wp_dct, wp_call, wp_app, wp_append, wp_ixT, wp_ixL, wp_put, wp_sl, wp_pn, wp_ps, wp_slT, wp_addI, wp_addT, wp_sub, wp_mul, wp_mulT, wp_mulAI, wp_mulAT, wp_div, wp_mod, wp_pow, wp_neg, wp_cmp, wp_eqI, wp_neI, wp_eqS, wp_neS, wp_is0, wp_not0, wp_isB, wp_notB, wp_lenT, wp_lenL, wp_tupT, wp_tupL, wp_lstT, ws_next, ws_brk, ws_cont, ws_seq, ws_expr, ws_ret, ws_retN, ws_set, ws_asg, ws_put, ws_raise, ws_if, ws_for1, wp_and, wp_or, wp_tand, wp_tor, wp_ifE, wp_chain, gSlot, List.getElem?_cons_succ, List.getElem?_cons_zero, List.map_cons, List.map_nil, List.length_cons, List.length_nil, List.replicate_succ, List.replicate_zero, List.cons_append, List.nil_append, List.set_cons_succ, List.set_cons_zero, Option.some.injEq, exists_eq_left', Nat.reduceAdd, Nat.reduceSub, Nat.zero_add, Nat.add_zero, true_and, and_true, Vl.int.injEq, Vl.bl.injEq, Vl.loc.injEq, Vl.tup.injEq, exists_eq', exists_eq_left, Ob.lst.injEq, wp_of (isi_tuple h), wp_ite]
  refine ⟨fun q => ?_, fun q => by simp [isU_T q]⟩
  obtain ⟨xs, rfl⟩ := isTp_tup q
  simp only [wp_ret, wp_stuck, wp_ifs, wp_newL, wp_var, wp_c, wp_op, wp_un, wp_tval, wp_tnot, wp_not, wp_nil, wp_cons, wp_tup, wp_lst, wp_dct, wp_call, wp_app, wp_append, wp_ixT, wp_ixL, wp_put, wp_sl, wp_pn, wp_ps, wp_slT, wp_addI, wp_addT, wp_sub, wp_mul, wp_mulT, wp_mulAI, wp_mulAT, wp_div, wp_mod, wp_pow, wp_neg, wp_cmp, wp_eqI, wp_neI, wp_eqS, wp_neS, wp_is0, wp_not0, wp_isB, wp_notB, wp_lenT, wp_lenL, wp_tupT, wp_tupL, wp_lstT, ws_next, ws_brk, ws_cont, ws_seq, ws_expr, ws_ret, ws_retN, ws_set, ws_asg, ws_put, ws_raise, ws_if, ws_for1, wp_and, wp_or, wp_tand, wp_tor, wp_ifE, wp_chain, gSlot, List.getElem?_cons_succ, List.getElem?_cons_zero, List.map_cons, List.map_nil, List.length_cons, List.length_nil, List.replicate_succ, List.replicate_zero, List.cons_append, List.nil_append, List.set_cons_succ, List.set_cons_zero, Option.some.injEq, exists_eq_left', Nat.reduceAdd, Nat.reduceSub, Nat.zero_add, Nat.add_zero, true_and, and_true, Vl.int.injEq, Vl.bl.injEq, Vl.loc.injEq, Vl.tup.injEq, exists_eq', exists_eq_left, Ob.lst.injEq]
  exact ⟨hl xs rfl, rfl⟩
theorem isT_tup {n : Int} {v : Vl} (h : isT n v = true) : ∃ xs, v = .tup xs ∧ (xs.length : Int) = n := by cases v <;> first | exact ⟨_, rfl, of_decide_eq_true h⟩ | cases h
theorem isU_tup {n : Int} {v : Vl} (h : isU n v = true) : ∃ xs, v = .tup xs ∧ (xs.length : Int) ≤ n := by cases v <;> first | exact ⟨_, rfl, of_decide_eq_true h⟩ | cases h
theorem not_t {b : Bool} (h : (!b) = true) : b = false := by cases b <;> first | rfl | cases h
theorem not_f {b : Bool} (h : (!b) = false) : b = true := by cases b <;> first | rfl | cases h
theorem kb_list_list : kitB "list" "list" = some true := by decide +kernel
end LW
end Tw
end
section
set_option Elab.async false
set_option maxRecDepth 100000
set_option maxHeartbeats 3000000
set_option linter.all false
namespace Tw
namespace LW
open PySem L2
theorem fine_atom {S : Store} {v : Vl} (h : Fine S v) (hv : isTp v = false) : ∀ j, FineN S j v
  | 0 => h
  | _ + 1 => ⟨h, fun xs e => by subst e; cases hv⟩
theorem fine_tup {S : Store} {xs : List Vl} (hl : xs.length ≤ line) (h : ∀ x ∈ xs, ∀ j, FineN S j x) : ∀ j, FineN S j (.tup xs)
  | 0 => rfl
  | j + 1 => ⟨rfl, fun ys e => by cases e; exact ⟨hl, fun x hx => h x hx j⟩⟩
theorem FineN.up {S S' : Store} (h : S.length ≤ S'.length) : ∀ {j : Nat} {v : Vl}, FineN S j v → FineN S' j v := by
  have h0 : ∀ {v : Vl}, Fine S v → Fine S' v := fun {v} q => by
    cases v with
    | loc n =>
      have hn : n < S.length := by
        rcases loc_ty q with e | e
        all_goals
          cases z : S[n]? with
          | none => simp [tyN, z] at e
          | some o => exact (List.getElem?_eq_some_iff.mp z).1
      have hn' : n < S'.length := by omega
      show (tyN S' (.loc n)).isSome = true
      have e : tyN S' (.loc n) = match S'[n]? with | some (.lst _) => some "list" | some .dct => some "dict" | none => none := rfl
      rw [e, List.getElem?_eq_getElem hn']
      cases S'[n] <;> rfl
    | _ => exact q
  intro j
  induction j with
  | zero => intro v q; exact h0 q
  | succ j ih => intro v q; exact ⟨h0 q.1, fun xs e => ⟨(q.2 xs e).1, fun x hx => ih ((q.2 xs e).2 x hx)⟩⟩
def isC : Vl → Bool
  | .int i => decide (0 ≤ i)
  | _ => false
theorem isC_I {v : Vl} (h : isI v = false) : isC v = false := by cases v <;> first | rfl | cases h
theorem count_ok {S v} (h : Fine S v) : r_is_count [v] S = some (.ok (.bl (isC v)) S) := by
  refine wpe ?_
  unfold r_is_count b_is_count
  rw [wp_fn]
  simp only [wp_ret, wp_stuck, wp_ifs, wp_newL, wp_var, wp_c, wp_op, wp_un, wp_tval, wp_tnot, wp_not, wp_nil, wp_cons, wp_tup, wp_lst, wp_dct, wp_call, wp_app, wp_append, wp_ixT, wp_ixL, wp_put, wp_sl, wp_pn, wp_ps, wp_slT, wp_addI, wp_addT, wp_sub, wp_mul, wp_mulT, wp_mulAI, wp_mulAT, wp_div, wp_mod, wp_pow, wp_neg, wp_cmp, wp_eqI, wp_neI, wp_eqS, wp_neS, wp_is0, wp_not0, wp_isB, wp_notB, wp_lenT, wp_lenL, wp_tupT, wp_tupL, wp_lstT, ws_next, ws_brk, ws_cont, ws_seq, ws_expr, ws_ret, ws_retN, ws_set, ws_asg, ws_put, ws_raise, ws_if, ws_for1, wp_and, wp_or, wp_tand, wp_tor, wp_ifE, wp_chain, gSlot, List.getElem?_cons_succ, List.getElem?_cons_zero, List.map_cons, List.map_nil, List.length_cons, List.length_nil, List.replicate_succ, List.replicate_zero, List.cons_append, List.nil_append, List.set_cons_succ, List.set_cons_zero, Option.some.injEq, exists_eq_left', Nat.reduceAdd, Nat.reduceSub, Nat.zero_add, Nat.add_zero, true_and, and_true, Vl.int.injEq, Vl.bl.injEq, Vl.loc.injEq, Vl.tup.injEq, exists_eq', exists_eq_left, Ob.lst.injEq, wp_of (int_ok h), wp_ite]
  refine ⟨fun q => ?_, fun q => by simp [isC_I q]⟩
  obtain ⟨i, rfl⟩ := isI_int q
  simp only [wp_ret, wp_stuck, wp_ifs, wp_newL, wp_var, wp_c, wp_op, wp_un, wp_tval, wp_tnot, wp_not, wp_nil, wp_cons, wp_tup, wp_lst, wp_dct, wp_call, wp_app, wp_append, wp_ixT, wp_ixL, wp_put, wp_sl, wp_pn, wp_ps, wp_slT, wp_addI, wp_addT, wp_sub, wp_mul, wp_mulT, wp_mulAI, wp_mulAT, wp_div, wp_mod, wp_pow, wp_neg, wp_cmp, wp_eqI, wp_neI, wp_eqS, wp_neS, wp_is0, wp_not0, wp_isB, wp_notB, wp_lenT, wp_lenL, wp_tupT, wp_tupL, wp_lstT, ws_next, ws_brk, ws_cont, ws_seq, ws_expr, ws_ret, ws_retN, ws_set, ws_asg, ws_put, ws_raise, ws_if, ws_for1, wp_and, wp_or, wp_tand, wp_tor, wp_ifE, wp_chain, gSlot, List.getElem?_cons_succ, List.getElem?_cons_zero, List.map_cons, List.map_nil, List.length_cons, List.length_nil, List.replicate_succ, List.replicate_zero, List.cons_append, List.nil_append, List.set_cons_succ, List.set_cons_zero, Option.some.injEq, exists_eq_left', Nat.reduceAdd, Nat.reduceSub, Nat.zero_add, Nat.add_zero, true_and, and_true, Vl.int.injEq, Vl.bl.injEq, Vl.loc.injEq, Vl.tup.injEq, exists_eq', exists_eq_left, Ob.lst.injEq]
  rfl
end LW
end Tw
end
section
set_option Elab.async false
set_option maxRecDepth 100000
set_option maxHeartbeats 3000000
set_option linter.all false
namespace Tw
namespace LW
open PySem L2
theorem wp_nr {α : Type} {m : M α} {S : Store} {Q : α → Store → Prop} {E : Str → Store → Prop} (h : Wp m S Q fun _ _ => False) : Wp (nr m) S Q E := by
  unfold Wp nr at *
  revert h
  cases m S with
  | none => intro h; exact h
  | some r => cases r with
    | ok a S1 => intro h; exact h
    | er c S1 => intro h; exact h.elim
theorem quantL {stop : Bool} {fi fe : Ev} {ρ : Rho} {S S1 : Store} {n : Nat} {xs : List Vl} {p : Vl → Bool} (hi : fi ρ S = some (.ok (.loc n) S1)) (hn : S1[n]? = some (.lst xs)) (he : ∀ x ∈ xs, fe (ρ ++ [some x]) S1 = some (.ok (.bl (p x)) S1)) :
    eQuant stop fi fe ρ S = some (.ok (.bl (if stop = true then xs.any p else xs.all p)) S1) := by
  have ho : okS (some (n, .lst xs)) S1 := hn
  have go : ∀ ys : List Vl, (∀ x ∈ ys, fe (ρ ++ [some x]) S1 = some (.ok (.bl (p x)) S1)) → quant stop (some (n, .lst xs)) fe ρ ys S1 = some (.ok (.bl (if stop = true then ys.any p else ys.all p)) S1) := by
    intro ys
    induction ys with
    | nil =>
      intro _
      refine (if_pos ho).trans ?_
      cases stop <;> rfl
    | cons y ys ih =>
      intro h
      have ih := ih fun x hx => h x (List.mem_cons_of_mem _ hx)
      refine (if_pos ho).trans ?_
      have e1 : nr (fe (ρ ++ [some y])) S1 = some (.ok (.bl (p y)) S1) := by unfold nr; rw [h y List.mem_cons_self]
      have e2 : bnd (nr (fe (ρ ++ [some y]))) (fun y => bnd (asB y) fun c => if c = stop then ret (.bl stop) else quant stop (some (n, .lst xs)) fe ρ ys) S1 = (if p y = stop then ret (.bl stop) else quant stop (some (n, .lst xs)) fe ρ ys) S1 := by unfold bnd; rw [e1]; rfl
      refine e2.trans ?_
      by_cases hp : p y = stop
      · rw [if_pos hp]
        cases stop <;> simp_all [ret]
      · rw [if_neg hp, ih]
        cases stop <;> simp_all
  have e : eQuant stop fi fe ρ S = quant stop (some (n, .lst xs)) fe ρ xs S1 := by
    unfold eQuant bnd
    simp only [hi, hn]
  exact e.trans (go xs he)
theorem wp_compL {n : Nat} {o : Option (Nat × Ob)} {i : Nat} {tt : Tv} {fe : Ev} {ρ : Rho} {Q : Vl → Store → Prop} {E : Str → Store → Prop} (J : Nat → Store → Prop) : ∀ (xs : List Vl) (k : Nat) (S : Store), J k S →
    (∀ j x S, xs[j]? = some x → J (k + j) S → okS o S ∧ Wp (tt (ρ.set i (some x))) S (fun b S1 => (b = true → Wp (fe (ρ.set i (some x))) S1 (fun y S2 => ∃ acc, S2[n]? = some (.lst acc) ∧ acc.length < line ∧ J (k + j + 1) (S2.set n (.lst (acc ++ [y])))) fun _ _ => False) ∧ (b = false → J (k + j + 1) S1)) fun _ _ => False) →
    (∀ S, J (k + xs.length) S → okS o S ∧ Q (.loc n) S) → Wp (compL n o i tt fe ρ xs) S Q E
  | [], k, S, h0, hs, he => by
    obtain ⟨h1, h2⟩ := he S h0
    have e : compL n o i tt fe ρ [] S = some (.ok (.loc n) S) := if_pos h1
    exact (wp_of e).mpr h2
  | x :: xs, k, S, h0, hs, he => by
    obtain ⟨h1, h2⟩ := hs 0 x S rfl h0
    have go : ∀ S1, J (k + 1) S1 → Wp (compL n o i tt fe ρ xs) S1 Q E := fun S1 h => wp_compL J xs (k + 1) S1 h
      (fun j y S hy hj => by have := hs (j + 1) y S (by simpa using hy) (by rw [show k + (j + 1) = k + 1 + j by omega]; exact hj); rw [show k + (j + 1) = k + 1 + j by omega] at this; exact this)
      (fun S hj => he S (by rw [show k + (x :: xs).length = k + 1 + xs.length by simp; omega]; exact hj))
    have e : compL n o i tt fe ρ (x :: xs) S = bnd (nr (tt (ρ.set i (some x)))) (fun b => if b = true then bnd (nr (fe (ρ.set i (some x)))) (fun y => bnd (mAppend (.loc n) y) fun _ => compL n o i tt fe ρ xs) else compL n o i tt fe ρ xs) S := if_pos h1
    have h3 : Wp (bnd (nr (tt (ρ.set i (some x)))) (fun b => if b = true then bnd (nr (fe (ρ.set i (some x)))) (fun y => bnd (mAppend (.loc n) y) fun _ => compL n o i tt fe ρ xs) else compL n o i tt fe ρ xs)) S Q E := by
      rw [wp_bnd]
      refine wp_nr (h2.imp fun b S1 hb => ?_)
      cases b with
      | false => exact go S1 (hb.2 rfl)
      | true =>
        show Wp (bnd (nr (fe (ρ.set i (some x)))) (fun y => bnd (mAppend (.loc n) y) fun _ => compL n o i tt fe ρ xs)) S1 Q E
        rw [wp_bnd]
        refine wp_nr ((hb.1 rfl).imp fun y S2 ⟨acc, q1, q2, q3⟩ => ?_)
        rw [wp_bnd, wp_append]
        exact ⟨acc, q1, q2, go _ q3⟩
    unfold Wp at h3 ⊢
    rw [e]
    exact h3
/-! ### what is a fan -/
def isCs (n : Int) : Vl → Bool
  | .tup xs => decide ((xs.length : Int) = n) && xs.all isC
  | _ => false
theorem isCs_T {n : Int} {v : Vl} (h : isT n v = false) : isCs n v = false := by
  cases v with
  | tup xs => simp only [isT] at h; simp only [isCs, h, Bool.false_and]
  | _ => rfl
theorem counts_ok {S v} (h : FineN S 1 v) (n : Int) : r_are_counts [v, .int n] S = some (.ok (.bl (isCs n v)) S) := by
  refine wpe ?_
  unfold r_are_counts b_are_counts
  rw [wp_fn]
  simp only [wp_ret, wp_stuck, wp_ifs, wp_newL, wp_var, wp_c, wp_op, wp_un, wp_tval, wp_tnot, wp_not, wp_nil, wp_cons, wp_tup, wp_lst, wp_dct, wp_call, wp_app, wp_append, wp_ixT, wp_ixL, wp_put, wp_sl, wp_pn, wp_ps, wp_slT, wp_addI, wp_addT, wp_sub, wp_mul, wp_mulT, wp_mulAI, wp_mulAT, wp_div, wp_mod, wp_pow, wp_neg, wp_cmp, wp_eqI, wp_neI, wp_eqS, wp_neS, wp_is0, wp_not0, wp_isB, wp_notB, wp_lenT, wp_lenL, wp_tupT, wp_tupL, wp_lstT, ws_next, ws_brk, ws_cont, ws_seq, ws_expr, ws_ret, ws_retN, ws_set, ws_asg, ws_put, ws_raise, ws_if, ws_for1, wp_and, wp_or, wp_tand, wp_tor, wp_ifE, wp_chain, gSlot, List.getElem?_cons_succ, List.getElem?_cons_zero, List.map_cons, List.map_nil, List.length_cons, List.length_nil, List.replicate_succ, List.replicate_zero, List.cons_append, List.nil_append, List.set_cons_succ, List.set_cons_zero, Option.some.injEq, exists_eq_left', Nat.reduceAdd, Nat.reduceSub, Nat.zero_add, Nat.add_zero, true_and, and_true, Vl.int.injEq, Vl.bl.injEq, Vl.loc.injEq, Vl.tup.injEq, exists_eq', exists_eq_left, Ob.lst.injEq, wp_of (tupof_ok h.1 (fun xs e => (h.2 xs e).1) n), wp_ite]
  refine ⟨fun q => ?_, fun q => by rw [isCs_T q]⟩
  obtain ⟨xs, rfl, h4⟩ := isT_tup q
  obtain ⟨hl, hx⟩ := h.2 xs rfl
  have q1 : eQuant false (eVar 0) (eCall r_is_count (aCons (eVar 2) (aNil))) [some (.tup xs), some (.int n)] S = some (.ok (.bl (if false = true then xs.any isC else xs.all isC)) S) :=
    wp_quantT rfl fun x hm => wpe (by simp only [wp_ret, wp_stuck, wp_ifs, wp_newL, wp_var, wp_c, wp_op, wp_un, wp_tval, wp_tnot, wp_not, wp_nil, wp_cons, wp_tup, wp_lst, wp_dct, wp_call, wp_app, wp_append, wp_ixT, wp_ixL, wp_put, wp_sl, wp_pn, wp_ps, wp_slT, wp_addI, wp_addT, wp_sub, wp_mul, wp_mulT, wp_mulAI, wp_mulAT, wp_div, wp_mod, wp_pow, wp_neg, wp_cmp, wp_eqI, wp_neI, wp_eqS, wp_neS, wp_is0, wp_not0, wp_isB, wp_notB, wp_lenT, wp_lenL, wp_tupT, wp_tupL, wp_lstT, ws_next, ws_brk, ws_cont, ws_seq, ws_expr, ws_ret, ws_retN, ws_set, ws_asg, ws_put, ws_raise, ws_if, ws_for1, wp_and, wp_or, wp_tand, wp_tor, wp_ifE, wp_chain, gSlot, List.getElem?_cons_succ, List.getElem?_cons_zero, List.map_cons, List.map_nil, List.length_cons, List.length_nil, List.replicate_succ, List.replicate_zero, List.cons_append, List.nil_append, List.set_cons_succ, List.set_cons_zero, Option.some.injEq, exists_eq_left', Nat.reduceAdd, Nat.reduceSub, Nat.zero_add, Nat.add_zero, true_and, and_true, Vl.int.injEq, Vl.bl.injEq, Vl.loc.injEq, Vl.tup.injEq, exists_eq', exists_eq_left, Ob.lst.injEq, wp_of (count_ok (hx x hm))])
  rw [if_neg (by decide)] at q1
  simp only [wp_ret, wp_stuck, wp_ifs, wp_newL, wp_var, wp_c, wp_op, wp_un, wp_tval, wp_tnot, wp_not, wp_nil, wp_cons, wp_tup, wp_lst, wp_dct, wp_call, wp_app, wp_append, wp_ixT, wp_ixL, wp_put, wp_sl, wp_pn, wp_ps, wp_slT, wp_addI, wp_addT, wp_sub, wp_mul, wp_mulT, wp_mulAI, wp_mulAT, wp_div, wp_mod, wp_pow, wp_neg, wp_cmp, wp_eqI, wp_neI, wp_eqS, wp_neS, wp_is0, wp_not0, wp_isB, wp_notB, wp_lenT, wp_lenL, wp_tupT, wp_tupL, wp_lstT, ws_next, ws_brk, ws_cont, ws_seq, ws_expr, ws_ret, ws_retN, ws_set, ws_asg, ws_put, ws_raise, ws_if, ws_for1, wp_and, wp_or, wp_tand, wp_tor, wp_ifE, wp_chain, gSlot, List.getElem?_cons_succ, List.getElem?_cons_zero, List.map_cons, List.map_nil, List.length_cons, List.length_nil, List.replicate_succ, List.replicate_zero, List.cons_append, List.nil_append, List.set_cons_succ, List.set_cons_zero, Option.some.injEq, exists_eq_left', Nat.reduceAdd, Nat.reduceSub, Nat.zero_add, Nat.add_zero, true_and, and_true, Vl.int.injEq, Vl.bl.injEq, Vl.loc.injEq, Vl.tup.injEq, exists_eq', exists_eq_left, Ob.lst.injEq, wp_of q1]
  show _ = (decide ((xs.length : Int) = n) && _)
  rw [decide_eq_true h4, Bool.true_and]
theorem isC_int {v : Vl} (h : isC v = true) : ∃ i, v = .int i ∧ 0 ≤ i := by cases v <;> first | exact ⟨_, rfl, of_decide_eq_true h⟩ | cases h
theorem isCs_two {v : Vl} (h : isCs 2 v = true) : ∃ a b : Int, v = .tup [.int a, .int b] ∧ 0 ≤ a ∧ 0 ≤ b := by
  cases v with
  | tup xs =>
    simp only [isCs, Bool.and_eq_true, decide_eq_true_eq] at h
    obtain ⟨h1, h2⟩ := h
    match xs, h1, h2 with
    | [x, y], _, h2 =>
      simp only [List.all_cons, List.all_nil, Bool.and_true, Bool.and_eq_true] at h2
      obtain ⟨a, rfl, ha⟩ := isC_int h2.1
      obtain ⟨b, rfl, hb⟩ := isC_int h2.2
      exact ⟨a, b, rfl, ha, hb⟩
  | _ => cases h
def isRay : Vl → Bool
  | .tup [.int a, .int b] => isCs 2 (.tup [.int a, .int b]) && !(decide (a = 0) && decide (b = 0))
  | _ => false
theorem isRay_C {v : Vl} (h : isCs 2 v = false) : isRay v = false := by
  unfold isRay
  split
  · rw [h, Bool.false_and]
  · rfl
theorem ne_two {a b c d : Int} {S : Store} {R : Vl → Store → Prop} {E : Str → Store → Prop} : Wp (oNe (.tup [.int a, .int b]) (.tup [.int c, .int d])) S R E ↔ R (.bl (!(decide (a = c) && decide (b = d)))) S := by
  have e : oNe (.tup [.int a, .int b]) (.tup [.int c, .int d]) S = some (.ok (.bl (!(decide (a = c) && decide (b = d)))) S) := by
    show bnd (eqD (.tup [.int a, .int b]) (.tup [.int c, .int d])) (fun b => ret (Vl.bl (!b))) S = _
    have h1 : pd S (.tup [.int a, .int b]) = some (.tuple [.int a, .int b]) := rfl
    have h2 : pd S (.tup [.int c, .int d]) = some (.tuple [.int c, .int d]) := rfl
    have h3 : PyData.eqv (.tuple [.int a, .int b]) (.tuple [.int c, .int d]) = (decide (a = c) && decide (b = d)) := by
      show ((a == c) && ((b == d) && true)) = _
      rw [Bool.and_true]; rfl
    unfold bnd eqD
    rw [h1, h2]
    simp only [if_pos (show SeqAt.shaped (.tuple [.int a, .int b]) = true ∧ SeqAt.shaped (.tuple [.int c, .int d]) = true from ⟨rfl, rfl⟩), h3]
    rfl
  exact wp_of e
theorem ray_ok {S v} (h : FineN S 1 v) : r__is_ray [v] S = some (.ok (.bl (isRay v)) S) := by
  refine wpe ?_
  unfold r__is_ray b__is_ray
  rw [wp_fn]
  simp only [wp_ret, wp_stuck, wp_ifs, wp_newL, wp_var, wp_c, wp_op, wp_un, wp_tval, wp_tnot, wp_not, wp_nil, wp_cons, wp_tup, wp_lst, wp_dct, wp_call, wp_app, wp_append, wp_ixT, wp_ixL, wp_put, wp_sl, wp_pn, wp_ps, wp_slT, wp_addI, wp_addT, wp_sub, wp_mul, wp_mulT, wp_mulAI, wp_mulAT, wp_div, wp_mod, wp_pow, wp_neg, wp_cmp, wp_eqI, wp_neI, wp_eqS, wp_neS, wp_is0, wp_not0, wp_isB, wp_notB, wp_lenT, wp_lenL, wp_tupT, wp_tupL, wp_lstT, ws_next, ws_brk, ws_cont, ws_seq, ws_expr, ws_ret, ws_retN, ws_set, ws_asg, ws_put, ws_raise, ws_if, ws_for1, wp_and, wp_or, wp_tand, wp_tor, wp_ifE, wp_chain, gSlot, List.getElem?_cons_succ, List.getElem?_cons_zero, List.map_cons, List.map_nil, List.length_cons, List.length_nil, List.replicate_succ, List.replicate_zero, List.cons_append, List.nil_append, List.set_cons_succ, List.set_cons_zero, Option.some.injEq, exists_eq_left', Nat.reduceAdd, Nat.reduceSub, Nat.zero_add, Nat.add_zero, true_and, and_true, Vl.int.injEq, Vl.bl.injEq, Vl.loc.injEq, Vl.tup.injEq, exists_eq', exists_eq_left, Ob.lst.injEq, wp_of (counts_ok h 2), wp_ite]
  refine ⟨fun q => ?_, fun q => by rw [isRay_C q]⟩
  obtain ⟨a, b, rfl, h1, h2⟩ := isCs_two q
  simp only [wp_ret, wp_stuck, wp_ifs, wp_newL, wp_var, wp_c, wp_op, wp_un, wp_tval, wp_tnot, wp_not, wp_nil, wp_cons, wp_tup, wp_lst, wp_dct, wp_call, wp_app, wp_append, wp_ixT, wp_ixL, wp_put, wp_sl, wp_pn, wp_ps, wp_slT, wp_addI, wp_addT, wp_sub, wp_mul, wp_mulT, wp_mulAI, wp_mulAT, wp_div, wp_mod, wp_pow, wp_neg, wp_cmp, wp_eqI, wp_neI, wp_eqS, wp_neS, wp_is0, wp_not0, wp_isB, wp_notB, wp_lenT, wp_lenL, wp_tupT, wp_tupL, wp_lstT, ws_next, ws_brk, ws_cont, ws_seq, ws_expr, ws_ret, ws_retN, ws_set, ws_asg, ws_put, ws_raise, ws_if, ws_for1, wp_and, wp_or, wp_tand, wp_tor, wp_ifE, wp_chain, gSlot, List.getElem?_cons_succ, List.getElem?_cons_zero, List.map_cons, List.map_nil, List.length_cons, List.length_nil, List.replicate_succ, List.replicate_zero, List.cons_append, List.nil_append, List.set_cons_succ, List.set_cons_zero, Option.some.injEq, exists_eq_left', Nat.reduceAdd, Nat.reduceSub, Nat.zero_add, Nat.add_zero, true_and, and_true, Vl.int.injEq, Vl.bl.injEq, Vl.loc.injEq, Vl.tup.injEq, exists_eq', exists_eq_left, Ob.lst.injEq, ne_two]
  refine ⟨by decide, ?_⟩
  show _ = (isCs 2 _ && _)
  rw [q, Bool.true_and]
end LW
end Tw
end
section
set_option Elab.async false
set_option maxRecDepth 100000
set_option maxHeartbeats 3000000
set_option linter.all false
namespace Tw
namespace LW
open PySem L2
/-- no number of it is very great -/
def BdN : Nat → Vl → Prop
  | 0, v => ∀ i, v = .int i → i.natAbs < 2 ^ 200
  | n + 1, v => (∀ i, v = .int i → i.natAbs < 2 ^ 200) ∧ ∀ xs, v = .tup xs → ∀ x ∈ xs, BdN n x
theorem turn_ok {a b c d : Int} (ha : a.natAbs < 2 ^ 200) (hb : b.natAbs < 2 ^ 200) (hc : c.natAbs < 2 ^ 200) (hd : d.natAbs < 2 ^ 200) (S : Store) : r_turn_of [.tup [.int a, .int b], .tup [.int c, .int d]] S = some (.ok (.int (a * d - b * c)) S) := by
  refine wpe ?_
  unfold r_turn_of b_turn_of
  rw [wp_fn]
  have e1 : ∀ x y : Int, atI [Vl.int x, Vl.int y] 0 = some (.int x) := fun x y => rfl
  have e2 : ∀ x y : Int, atI [Vl.int x, Vl.int y] 1 = some (.int y) := fun x y => rfl
  simp only [wp_ret, wp_stuck, wp_ifs, wp_newL, wp_var, wp_c, wp_op, wp_un, wp_tval, wp_tnot, wp_not, wp_nil, wp_cons, wp_tup, wp_lst, wp_dct, wp_call, wp_app, wp_append, wp_ixT, wp_ixL, wp_put, wp_sl, wp_pn, wp_ps, wp_slT, wp_addI, wp_addT, wp_sub, wp_mul, wp_mulT, wp_mulAI, wp_mulAT, wp_div, wp_mod, wp_pow, wp_neg, wp_cmp, wp_eqI, wp_neI, wp_eqS, wp_neS, wp_is0, wp_not0, wp_isB, wp_notB, wp_lenT, wp_lenL, wp_tupT, wp_tupL, wp_lstT, ws_next, ws_brk, ws_cont, ws_seq, ws_expr, ws_ret, ws_retN, ws_set, ws_asg, ws_put, ws_raise, ws_if, ws_for1, wp_and, wp_or, wp_tand, wp_tor, wp_ifE, wp_chain, gSlot, List.getElem?_cons_succ, List.getElem?_cons_zero, List.map_cons, List.map_nil, List.length_cons, List.length_nil, List.replicate_succ, List.replicate_zero, List.cons_append, List.nil_append, List.set_cons_succ, List.set_cons_zero, Option.some.injEq, exists_eq_left', Nat.reduceAdd, Nat.reduceSub, Nat.zero_add, Nat.add_zero, true_and, and_true, Vl.int.injEq, Vl.bl.injEq, Vl.loc.injEq, Vl.tup.injEq, exists_eq', exists_eq_left, Ob.lst.injEq, e1, e2]
  have l1 := lgb (k := 200) ha (by decide)
  have l2 := lgb (k := 200) hb (by decide)
  have l3 := lgb (k := 200) hc (by decide)
  have l4 := lgb (k := 200) hd (by decide)
  exact ⟨by omega, by omega⟩
def crossOk : List Vl → Bool
  | [.tup [.int a, .int b], .tup [.int c, .int d]] => decide (a * d - b * c ≠ 0)
  | _ => true
theorem cross1 (x : Vl) : crossOk [x] = true := by
  unfold crossOk
  split
  · rename_i h; cases h
  · rfl
def isFan : Vl → Bool
  | .tup [r, b, .tup rs] => (isB 0 (3 - 1) r && isCs 2 b) && ((isU 2 (.tup rs) && rs.all isRay) && crossOk rs)
  | _ => false
theorem isFan_T {v : Vl} (h : isT 3 v = false) : isFan v = false := by
  unfold isFan
  split
  · cases h
  · rfl
theorem isFan_of {r s t : Vl} (h : isB 0 (3 - 1) r = false ∨ isCs 2 s = false ∨ isU 2 t = false) : isFan (.tup [r, s, t]) = false := by
  cases t <;> first | rfl | skip
  show ((_ && _) && ((_ && _) && _)) = false
  rcases h with h | h | h <;> rw [h] <;> simp
theorem isFan_ray {r s : Vl} {rs : List Vl} (h : rs.all isRay = false) : isFan (.tup [r, s, .tup rs]) = false := by
  show ((_ && _) && ((_ && _) && _)) = false
  rw [h]; simp
theorem isRay_two {v : Vl} (h : isRay v = true) : ∃ a b : Int, v = .tup [.int a, .int b] ∧ 0 ≤ a ∧ 0 ≤ b ∧ ¬ (a = 0 ∧ b = 0) := by
  unfold isRay at h
  split at h
  · rename_i a b
    simp only [Bool.and_eq_true, Bool.not_eq_true', Bool.and_eq_false_iff, decide_eq_false_iff_not] at h
    obtain ⟨x, y, e, h1, h2⟩ := isCs_two h.1
    cases e
    exact ⟨a, b, rfl, h1, h2, fun z => h.2.elim (fun q => q z.1) fun q => q z.2⟩
  · cases h
theorem fan_ok {S v} (h : FineN S 3 v) (hb : BdN 3 v) : r_is_fan [v] S = some (.ok (.bl (isFan v)) S) := by
  refine wpe ?_
  unfold r_is_fan b_is_fan
  rw [wp_fn]
  simp only [wp_ret, wp_stuck, wp_ifs, wp_newL, wp_var, wp_c, wp_op, wp_un, wp_tval, wp_tnot, wp_not, wp_nil, wp_cons, wp_tup, wp_lst, wp_dct, wp_call, wp_app, wp_append, wp_ixT, wp_ixL, wp_put, wp_sl, wp_pn, wp_ps, wp_slT, wp_addI, wp_addT, wp_sub, wp_mul, wp_mulT, wp_mulAI, wp_mulAT, wp_div, wp_mod, wp_pow, wp_neg, wp_cmp, wp_eqI, wp_neI, wp_eqS, wp_neS, wp_is0, wp_not0, wp_isB, wp_notB, wp_lenT, wp_lenL, wp_tupT, wp_tupL, wp_lstT, ws_next, ws_brk, ws_cont, ws_seq, ws_expr, ws_ret, ws_retN, ws_set, ws_asg, ws_put, ws_raise, ws_if, ws_for1, wp_and, wp_or, wp_tand, wp_tor, wp_ifE, wp_chain, gSlot, List.getElem?_cons_succ, List.getElem?_cons_zero, List.map_cons, List.map_nil, List.length_cons, List.length_nil, List.replicate_succ, List.replicate_zero, List.cons_append, List.nil_append, List.set_cons_succ, List.set_cons_zero, Option.some.injEq, exists_eq_left', Nat.reduceAdd, Nat.reduceSub, Nat.zero_add, Nat.add_zero, true_and, and_true, Vl.int.injEq, Vl.bl.injEq, Vl.loc.injEq, Vl.tup.injEq, exists_eq', exists_eq_left, Ob.lst.injEq, wp_of (tupof_ok h.1 (fun xs e => (h.2 xs e).1) 3), ws_ite]
  refine ⟨fun q => by rw [isFan_T (not_t q)], fun q => ?_⟩
  obtain ⟨xs, rfl, h3⟩ := isT_tup (not_f q)
  obtain ⟨hl, hx⟩ := h.2 xs rfl
  have hbx := hb.2 xs rfl
  match xs, h3 with
  | [r, s, t], _ =>
    have hr := hx r (by simp)
    have hs := hx s (by simp)
    have ht := hx t (by simp)
    have bt := hbx t (by simp)
    refine ⟨_, rfl, ?_⟩
    have hs1 : FineN S 1 s := ⟨hs.1, fun xs e => ⟨(hs.2 xs e).1, fun x hm => ((hs.2 xs e).2 x hm).1⟩⟩
    simp only [wp_ret, wp_stuck, wp_ifs, wp_newL, wp_var, wp_c, wp_op, wp_un, wp_tval, wp_tnot, wp_not, wp_nil, wp_cons, wp_tup, wp_lst, wp_dct, wp_call, wp_app, wp_append, wp_ixT, wp_ixL, wp_put, wp_sl, wp_pn, wp_ps, wp_slT, wp_addI, wp_addT, wp_sub, wp_mul, wp_mulT, wp_mulAI, wp_mulAT, wp_div, wp_mod, wp_pow, wp_neg, wp_cmp, wp_eqI, wp_neI, wp_eqS, wp_neS, wp_is0, wp_not0, wp_isB, wp_notB, wp_lenT, wp_lenL, wp_tupT, wp_tupL, wp_lstT, ws_next, ws_brk, ws_cont, ws_seq, ws_expr, ws_ret, ws_retN, ws_set, ws_asg, ws_put, ws_raise, ws_if, ws_for1, wp_and, wp_or, wp_tand, wp_tor, wp_ifE, wp_chain, gSlot, List.getElem?_cons_succ, List.getElem?_cons_zero, List.map_cons, List.map_nil, List.length_cons, List.length_nil, List.replicate_succ, List.replicate_zero, List.cons_append, List.nil_append, List.set_cons_succ, List.set_cons_zero, Option.some.injEq, exists_eq_left', Nat.reduceAdd, Nat.reduceSub, Nat.zero_add, Nat.add_zero, true_and, and_true, Vl.int.injEq, Vl.bl.injEq, Vl.loc.injEq, Vl.tup.injEq, exists_eq', exists_eq_left, Ob.lst.injEq, wp_of (between_ok hr.1 0 (3 - 1)), wp_of (counts_ok hs1 2), wp_ite, ws_ite]
    refine ⟨fun q => ⟨fun _ => by rw [isFan_of (.inl (not_t q))], fun z => nomatch z⟩, fun qr => ⟨fun q => by rw [isFan_of (.inr (.inl (not_t q)))], fun qs => ?_⟩⟩
    simp only [wp_ret, wp_stuck, wp_ifs, wp_newL, wp_var, wp_c, wp_op, wp_un, wp_tval, wp_tnot, wp_not, wp_nil, wp_cons, wp_tup, wp_lst, wp_dct, wp_call, wp_app, wp_append, wp_ixT, wp_ixL, wp_put, wp_sl, wp_pn, wp_ps, wp_slT, wp_addI, wp_addT, wp_sub, wp_mul, wp_mulT, wp_mulAI, wp_mulAT, wp_div, wp_mod, wp_pow, wp_neg, wp_cmp, wp_eqI, wp_neI, wp_eqS, wp_neS, wp_is0, wp_not0, wp_isB, wp_notB, wp_lenT, wp_lenL, wp_tupT, wp_tupL, wp_lstT, ws_next, ws_brk, ws_cont, ws_seq, ws_expr, ws_ret, ws_retN, ws_set, ws_asg, ws_put, ws_raise, ws_if, ws_for1, wp_and, wp_or, wp_tand, wp_tor, wp_ifE, wp_chain, gSlot, List.getElem?_cons_succ, List.getElem?_cons_zero, List.map_cons, List.map_nil, List.length_cons, List.length_nil, List.replicate_succ, List.replicate_zero, List.cons_append, List.nil_append, List.set_cons_succ, List.set_cons_zero, Option.some.injEq, exists_eq_left', Nat.reduceAdd, Nat.reduceSub, Nat.zero_add, Nat.add_zero, true_and, and_true, Vl.int.injEq, Vl.bl.injEq, Vl.loc.injEq, Vl.tup.injEq, exists_eq', exists_eq_left, Ob.lst.injEq, wp_of (upto_ok ht.1 (fun xs e => (ht.2 xs e).1) 2), wp_ite, ws_ite]
    refine ⟨fun q => ⟨fun _ => by rw [isFan_of (.inr (.inr (not_t q)))], fun z => nomatch z⟩, fun qt => ?_⟩
    obtain ⟨rs, rfl, h2⟩ := isU_tup (not_f qt)
    obtain ⟨hl2, hrs⟩ := ht.2 rs rfl
    have brs := bt.2 rs rfl
    have q1 : eQuant false (eVar 3) (eCall r__is_ray (aCons (eVar 4) (aNil))) [some (.tup [r, s, .tup rs]), some r, some s, some (.tup rs)] S = some (.ok (.bl (if false = true then rs.any isRay else rs.all isRay)) S) :=
      wp_quantT rfl fun x hm => wpe (by simp only [wp_ret, wp_stuck, wp_ifs, wp_newL, wp_var, wp_c, wp_op, wp_un, wp_tval, wp_tnot, wp_not, wp_nil, wp_cons, wp_tup, wp_lst, wp_dct, wp_call, wp_app, wp_append, wp_ixT, wp_ixL, wp_put, wp_sl, wp_pn, wp_ps, wp_slT, wp_addI, wp_addT, wp_sub, wp_mul, wp_mulT, wp_mulAI, wp_mulAT, wp_div, wp_mod, wp_pow, wp_neg, wp_cmp, wp_eqI, wp_neI, wp_eqS, wp_neS, wp_is0, wp_not0, wp_isB, wp_notB, wp_lenT, wp_lenL, wp_tupT, wp_tupL, wp_lstT, ws_next, ws_brk, ws_cont, ws_seq, ws_expr, ws_ret, ws_retN, ws_set, ws_asg, ws_put, ws_raise, ws_if, ws_for1, wp_and, wp_or, wp_tand, wp_tor, wp_ifE, wp_chain, gSlot, List.getElem?_cons_succ, List.getElem?_cons_zero, List.map_cons, List.map_nil, List.length_cons, List.length_nil, List.replicate_succ, List.replicate_zero, List.cons_append, List.nil_append, List.set_cons_succ, List.set_cons_zero, Option.some.injEq, exists_eq_left', Nat.reduceAdd, Nat.reduceSub, Nat.zero_add, Nat.add_zero, true_and, and_true, Vl.int.injEq, Vl.bl.injEq, Vl.loc.injEq, Vl.tup.injEq, exists_eq', exists_eq_left, Ob.lst.injEq, wp_of (ray_ok (hrs x hm))])
    rw [if_neg (by decide)] at q1
    simp only [wp_ret, wp_stuck, wp_ifs, wp_newL, wp_var, wp_c, wp_op, wp_un, wp_tval, wp_tnot, wp_not, wp_nil, wp_cons, wp_tup, wp_lst, wp_dct, wp_call, wp_app, wp_append, wp_ixT, wp_ixL, wp_put, wp_sl, wp_pn, wp_ps, wp_slT, wp_addI, wp_addT, wp_sub, wp_mul, wp_mulT, wp_mulAI, wp_mulAT, wp_div, wp_mod, wp_pow, wp_neg, wp_cmp, wp_eqI, wp_neI, wp_eqS, wp_neS, wp_is0, wp_not0, wp_isB, wp_notB, wp_lenT, wp_lenL, wp_tupT, wp_tupL, wp_lstT, ws_next, ws_brk, ws_cont, ws_seq, ws_expr, ws_ret, ws_retN, ws_set, ws_asg, ws_put, ws_raise, ws_if, ws_for1, wp_and, wp_or, wp_tand, wp_tor, wp_ifE, wp_chain, gSlot, List.getElem?_cons_succ, List.getElem?_cons_zero, List.map_cons, List.map_nil, List.length_cons, List.length_nil, List.replicate_succ, List.replicate_zero, List.cons_append, List.nil_append, List.set_cons_succ, List.set_cons_zero, Option.some.injEq, exists_eq_left', Nat.reduceAdd, Nat.reduceSub, Nat.zero_add, Nat.add_zero, true_and, and_true, Vl.int.injEq, Vl.bl.injEq, Vl.loc.injEq, Vl.tup.injEq, exists_eq', exists_eq_left, Ob.lst.injEq, wp_of q1, wp_ite, ws_ite]
    refine ⟨fun q => by rw [isFan_ray (not_t q)], fun qy => ?_⟩
    have e0 : isFan (.tup [r, s, .tup rs]) = crossOk rs := by
      show ((_ && _) && ((_ && _) && crossOk rs)) = _
      rw [not_f qr, not_f qs, not_f qt, not_f qy]
      rfl
    rw [e0]
    have hall := List.all_eq_true.mp (not_f qy)
    match rs, h2, brs, hall, hl2 with
    | [], _, _, _, _ => simp only [wp_ret, wp_stuck, wp_ifs, wp_newL, wp_var, wp_c, wp_op, wp_un, wp_tval, wp_tnot, wp_not, wp_nil, wp_cons, wp_tup, wp_lst, wp_dct, wp_call, wp_app, wp_append, wp_ixT, wp_ixL, wp_put, wp_sl, wp_pn, wp_ps, wp_slT, wp_addI, wp_addT, wp_sub, wp_mul, wp_mulT, wp_mulAI, wp_mulAT, wp_div, wp_mod, wp_pow, wp_neg, wp_cmp, wp_eqI, wp_neI, wp_eqS, wp_neS, wp_is0, wp_not0, wp_isB, wp_notB, wp_lenT, wp_lenL, wp_tupT, wp_tupL, wp_lstT, ws_next, ws_brk, ws_cont, ws_seq, ws_expr, ws_ret, ws_retN, ws_set, ws_asg, ws_put, ws_raise, ws_if, ws_for1, wp_and, wp_or, wp_tand, wp_tor, wp_ifE, wp_chain, gSlot, List.getElem?_cons_succ, List.getElem?_cons_zero, List.map_cons, List.map_nil, List.length_cons, List.length_nil, List.replicate_succ, List.replicate_zero, List.cons_append, List.nil_append, List.set_cons_succ, List.set_cons_zero, Option.some.injEq, exists_eq_left', Nat.reduceAdd, Nat.reduceSub, Nat.zero_add, Nat.add_zero, true_and, and_true, Vl.int.injEq, Vl.bl.injEq, Vl.loc.injEq, Vl.tup.injEq, exists_eq', exists_eq_left, Ob.lst.injEq, wp_ite]; exact ⟨by decide, fun _ => rfl, fun z => absurd z (by decide)⟩
    | [x], _, _, _, _ => simp only [wp_ret, wp_stuck, wp_ifs, wp_newL, wp_var, wp_c, wp_op, wp_un, wp_tval, wp_tnot, wp_not, wp_nil, wp_cons, wp_tup, wp_lst, wp_dct, wp_call, wp_app, wp_append, wp_ixT, wp_ixL, wp_put, wp_sl, wp_pn, wp_ps, wp_slT, wp_addI, wp_addT, wp_sub, wp_mul, wp_mulT, wp_mulAI, wp_mulAT, wp_div, wp_mod, wp_pow, wp_neg, wp_cmp, wp_eqI, wp_neI, wp_eqS, wp_neS, wp_is0, wp_not0, wp_isB, wp_notB, wp_lenT, wp_lenL, wp_tupT, wp_tupL, wp_lstT, ws_next, ws_brk, ws_cont, ws_seq, ws_expr, ws_ret, ws_retN, ws_set, ws_asg, ws_put, ws_raise, ws_if, ws_for1, wp_and, wp_or, wp_tand, wp_tor, wp_ifE, wp_chain, gSlot, List.getElem?_cons_succ, List.getElem?_cons_zero, List.map_cons, List.map_nil, List.length_cons, List.length_nil, List.replicate_succ, List.replicate_zero, List.cons_append, List.nil_append, List.set_cons_succ, List.set_cons_zero, Option.some.injEq, exists_eq_left', Nat.reduceAdd, Nat.reduceSub, Nat.zero_add, Nat.add_zero, true_and, and_true, Vl.int.injEq, Vl.bl.injEq, Vl.loc.injEq, Vl.tup.injEq, exists_eq', exists_eq_left, Ob.lst.injEq, wp_ite]; exact ⟨by decide, fun _ => (cross1 x).symm, fun z => absurd z (by decide)⟩
    | [x, y], _, brs, hall, _ =>
      obtain ⟨a, b, rfl, _⟩ := isRay_two (hall x (by simp))
      obtain ⟨c, d, rfl, _⟩ := isRay_two (hall y (by simp))
      have b1 := (brs _ (List.mem_cons_self)).2 _ rfl
      have b2 := (brs (.tup [.int c, .int d]) (by simp)).2 _ rfl
      have e1 : atI [Vl.tup [.int a, .int b], .tup [.int c, .int d]] 0 = some (.tup [.int a, .int b]) := rfl
      have e2 : atI [Vl.tup [.int a, .int b], .tup [.int c, .int d]] 1 = some (.tup [.int c, .int d]) := rfl
      have t1 := turn_ok (b1 (.int a) (by simp) a rfl) (b1 (.int b) (by simp) b rfl) (b2 (.int c) (by simp) c rfl) (b2 (.int d) (by simp) d rfl) S
      simp only [wp_ret, wp_stuck, wp_ifs, wp_newL, wp_var, wp_c, wp_op, wp_un, wp_tval, wp_tnot, wp_not, wp_nil, wp_cons, wp_tup, wp_lst, wp_dct, wp_call, wp_app, wp_append, wp_ixT, wp_ixL, wp_put, wp_sl, wp_pn, wp_ps, wp_slT, wp_addI, wp_addT, wp_sub, wp_mul, wp_mulT, wp_mulAI, wp_mulAT, wp_div, wp_mod, wp_pow, wp_neg, wp_cmp, wp_eqI, wp_neI, wp_eqS, wp_neS, wp_is0, wp_not0, wp_isB, wp_notB, wp_lenT, wp_lenL, wp_tupT, wp_tupL, wp_lstT, ws_next, ws_brk, ws_cont, ws_seq, ws_expr, ws_ret, ws_retN, ws_set, ws_asg, ws_put, ws_raise, ws_if, ws_for1, wp_and, wp_or, wp_tand, wp_tor, wp_ifE, wp_chain, gSlot, List.getElem?_cons_succ, List.getElem?_cons_zero, List.map_cons, List.map_nil, List.length_cons, List.length_nil, List.replicate_succ, List.replicate_zero, List.cons_append, List.nil_append, List.set_cons_succ, List.set_cons_zero, Option.some.injEq, exists_eq_left', Nat.reduceAdd, Nat.reduceSub, Nat.zero_add, Nat.add_zero, true_and, and_true, Vl.int.injEq, Vl.bl.injEq, Vl.loc.injEq, Vl.tup.injEq, exists_eq', exists_eq_left, Ob.lst.injEq, wp_ite, e1, e2, wp_of t1]
      exact ⟨by decide, fun z => absurd z (by decide), fun _ => by show _ = decide (_ ≠ _); simp⟩
theorem clot_ok {S : Store} {n : Nat} {vs : List Vl} (hn : S[n]? = some (.lst vs)) (h : ∀ v ∈ vs, FineN S 3 v ∧ BdN 3 v) {Q : Vl → Store → Prop} {E : Str → Store → Prop} (h1 : vs.all isFan = true → Q .non S) (h2 : vs.all isFan = false → E "BadFan" S) : Wp (r_check_lot [.loc n]) S Q E := by
  have q1 : eQuant false (eVar 0) (eCall r_is_fan (aCons (eVar 1) (aNil))) [some (.loc n)] S = some (.ok (.bl (if false = true then vs.any isFan else vs.all isFan)) S) :=
    quantL rfl hn fun x hm => wpe (by simp only [wp_ret, wp_stuck, wp_ifs, wp_newL, wp_var, wp_c, wp_op, wp_un, wp_tval, wp_tnot, wp_not, wp_nil, wp_cons, wp_tup, wp_lst, wp_dct, wp_call, wp_app, wp_append, wp_ixT, wp_ixL, wp_put, wp_sl, wp_pn, wp_ps, wp_slT, wp_addI, wp_addT, wp_sub, wp_mul, wp_mulT, wp_mulAI, wp_mulAT, wp_div, wp_mod, wp_pow, wp_neg, wp_cmp, wp_eqI, wp_neI, wp_eqS, wp_neS, wp_is0, wp_not0, wp_isB, wp_notB, wp_lenT, wp_lenL, wp_tupT, wp_tupL, wp_lstT, ws_next, ws_brk, ws_cont, ws_seq, ws_expr, ws_ret, ws_retN, ws_set, ws_asg, ws_put, ws_raise, ws_if, ws_for1, wp_and, wp_or, wp_tand, wp_tor, wp_ifE, wp_chain, gSlot, List.getElem?_cons_succ, List.getElem?_cons_zero, List.map_cons, List.map_nil, List.length_cons, List.length_nil, List.replicate_succ, List.replicate_zero, List.cons_append, List.nil_append, List.set_cons_succ, List.set_cons_zero, Option.some.injEq, exists_eq_left', Nat.reduceAdd, Nat.reduceSub, Nat.zero_add, Nat.add_zero, true_and, and_true, Vl.int.injEq, Vl.bl.injEq, Vl.loc.injEq, Vl.tup.injEq, exists_eq', exists_eq_left, Ob.lst.injEq, wp_of (fan_ok (h x hm).1 (h x hm).2)])
  rw [if_neg (by decide)] at q1
  have e1 : r_is_lot [.loc n] S = some (.ok (.bl (vs.all isFan)) S) := by
    refine wpe ?_
    unfold r_is_lot b_is_lot
    rw [wp_fn]
    have ti : tyN S (.loc n) = some "list" := by simp [tyN, hn]
    simp only [wp_ret, wp_stuck, wp_ifs, wp_newL, wp_var, wp_c, wp_op, wp_un, wp_tval, wp_tnot, wp_not, wp_nil, wp_cons, wp_tup, wp_lst, wp_dct, wp_call, wp_app, wp_append, wp_ixT, wp_ixL, wp_put, wp_sl, wp_pn, wp_ps, wp_slT, wp_addI, wp_addT, wp_sub, wp_mul, wp_mulT, wp_mulAI, wp_mulAT, wp_div, wp_mod, wp_pow, wp_neg, wp_cmp, wp_eqI, wp_neI, wp_eqS, wp_neS, wp_is0, wp_not0, wp_isB, wp_notB, wp_lenT, wp_lenL, wp_tupT, wp_tupL, wp_lstT, ws_next, ws_brk, ws_cont, ws_seq, ws_expr, ws_ret, ws_retN, ws_set, ws_asg, ws_put, ws_raise, ws_if, ws_for1, wp_and, wp_or, wp_tand, wp_tor, wp_ifE, wp_chain, gSlot, List.getElem?_cons_succ, List.getElem?_cons_zero, List.map_cons, List.map_nil, List.length_cons, List.length_nil, List.replicate_succ, List.replicate_zero, List.cons_append, List.nil_append, List.set_cons_succ, List.set_cons_zero, Option.some.injEq, exists_eq_left', Nat.reduceAdd, Nat.reduceSub, Nat.zero_add, Nat.add_zero, true_and, and_true, Vl.int.injEq, Vl.bl.injEq, Vl.loc.injEq, Vl.tup.injEq, exists_eq', exists_eq_left, Ob.lst.injEq, wp_of (isi_of ti kb_list_list), wp_ite, wp_of q1]
    simp
  unfold r_check_lot b_check_lot
  rw [wp_fn]
  simp only [wp_ret, wp_stuck, wp_ifs, wp_newL, wp_var, wp_c, wp_op, wp_un, wp_tval, wp_tnot, wp_not, wp_nil, wp_cons, wp_tup, wp_lst, wp_dct, wp_call, wp_app, wp_append, wp_ixT, wp_ixL, wp_put, wp_sl, wp_pn, wp_ps, wp_slT, wp_addI, wp_addT, wp_sub, wp_mul, wp_mulT, wp_mulAI, wp_mulAT, wp_div, wp_mod, wp_pow, wp_neg, wp_cmp, wp_eqI, wp_neI, wp_eqS, wp_neS, wp_is0, wp_not0, wp_isB, wp_notB, wp_lenT, wp_lenL, wp_tupT, wp_tupL, wp_lstT, ws_next, ws_brk, ws_cont, ws_seq, ws_expr, ws_ret, ws_retN, ws_set, ws_asg, ws_put, ws_raise, ws_if, ws_for1, wp_and, wp_or, wp_tand, wp_tor, wp_ifE, wp_chain, gSlot, List.getElem?_cons_succ, List.getElem?_cons_zero, List.map_cons, List.map_nil, List.length_cons, List.length_nil, List.replicate_succ, List.replicate_zero, List.cons_append, List.nil_append, List.set_cons_succ, List.set_cons_zero, Option.some.injEq, exists_eq_left', Nat.reduceAdd, Nat.reduceSub, Nat.zero_add, Nat.add_zero, true_and, and_true, Vl.int.injEq, Vl.bl.injEq, Vl.loc.injEq, Vl.tup.injEq, exists_eq', exists_eq_left, Ob.lst.injEq, wp_of e1, ws_ite]
  exact ⟨fun q => h2 (not_t q), fun q => h1 (not_f q)⟩
end LW
end Tw
end
section
set_option Elab.async false
set_option maxRecDepth 100000
set_option maxHeartbeats 3000000
set_option linter.all false
namespace Tw
namespace LW
open PySem L2
open PyProof.Rows
/-! ### fans -/
structure Fan where
  room : Int
  a : Int
  b : Int
  rays : List (Int × Int)
def rayV (p : Int × Int) : Vl := .tup [.int p.1, .int p.2]
def Fan.v (f : Fan) : Vl := .tup [.int f.room, .tup [.int f.a, .int f.b], .tup (f.rays.map rayV)]
def crossP : List (Int × Int) → Prop
  | [p, q] => p.1 * q.2 - p.2 * q.1 ≠ 0
  | _ => True
structure Fan.Ok (f : Fan) : Prop where
  room : 0 ≤ f.room ∧ f.room < 3
  a : 0 ≤ f.a ∧ f.a ≤ 12
  b : 0 ≤ f.b ∧ f.b ≤ 12
  len : f.rays.length ≤ 2
  ray : ∀ p ∈ f.rays, (0 ≤ p.1 ∧ p.1 ≤ 4) ∧ (0 ≤ p.2 ∧ p.2 ≤ 4) ∧ ¬ (p.1 = 0 ∧ p.2 = 0)
  cross : crossP f.rays
def grain (f : Fan) : Nat := match f.rays with
  | [] => 1
  | [p] => Nat.gcd p.1.natAbs p.2.natAbs
  | p :: q :: _ => (p.1 * q.2 - p.2 * q.1).natAbs
theorem small_prod {x y : Int} (hx : 0 ≤ x ∧ x ≤ 4) (hy : 0 ≤ y ∧ y ≤ 4) : 0 ≤ x * y ∧ x * y ≤ 16 := ⟨Int.mul_nonneg hx.1 hy.1, by
  have := Int.mul_le_mul hx.2 hy.2 hy.1 (by decide : (0 : Int) ≤ 4)
  omega⟩
theorem grain_bd {f : Fan} (h : f.Ok) : 1 ≤ grain f ∧ grain f ≤ 16 := by
  obtain ⟨r, a, b, rays⟩ := f
  have hl := h.len
  have hr := h.ray
  have hc := h.cross
  match rays, hl, hr, hc with
  | [], _, _, _ => exact ⟨Nat.le_refl _, (by decide : 1 ≤ 16)⟩
  | [p], _, hr, _ =>
    obtain ⟨h1, h2, h3⟩ := hr p (by simp)
    show 1 ≤ Nat.gcd p.1.natAbs p.2.natAbs ∧ Nat.gcd p.1.natAbs p.2.natAbs ≤ 16
    refine ⟨?_, ?_⟩
    · rcases Nat.eq_zero_or_pos (Nat.gcd p.1.natAbs p.2.natAbs) with z | z
      · have := Nat.gcd_eq_zero_iff.mp z
        omega
      · exact z
    · by_cases hz : p.1 = 0
      · rw [hz]; simp; omega
      · exact Nat.le_trans (Nat.gcd_le_left _ (by omega)) (by omega)
  | [p, q], _, hr, hc =>
    obtain ⟨h1, h2, h3⟩ := hr p (by simp)
    obtain ⟨h4, h5, h6⟩ := hr q (by simp)
    have hc : p.1 * q.2 - p.2 * q.1 ≠ 0 := hc
    have := small_prod h1 h5
    have := small_prod h2 h4
    show 1 ≤ (p.1 * q.2 - p.2 * q.1).natAbs ∧ (p.1 * q.2 - p.2 * q.1).natAbs ≤ 16
    omega
theorem divisor_ok {a b : Int} (ha : 0 ≤ a) (hb : 0 ≤ b ∧ b < 100000) (S : Store) : r__law_divisor [.int a, .int b] S = some (.ok (.int (Nat.gcd a.natAbs b.natAbs : Nat)) S) := by
  refine wpe ?_
  unfold r__law_divisor b__law_divisor
  rw [wp_fn]
  simp only [wp_ret, wp_stuck, wp_ifs, wp_newL, wp_var, wp_c, wp_op, wp_un, wp_tval, wp_tnot, wp_not, wp_nil, wp_cons, wp_tup, wp_lst, wp_dct, wp_call, wp_app, wp_append, wp_ixT, wp_ixL, wp_put, wp_sl, wp_pn, wp_ps, wp_slT, wp_addI, wp_addT, wp_sub, wp_mulAI, wp_mulAT, wp_mul, wp_div, wp_mod, wp_pow, wp_neg, wp_cmp, wp_eqI, wp_neI, wp_eqS, wp_neS, wp_is0', wp_not0', wp_isB, wp_notB, wp_lenT, wp_lenL, wp_tupT, wp_tupL, wp_lstT, ws_next, ws_brk, ws_cont, ws_seq, ws_expr, ws_ret, ws_retN, ws_set, ws_asg, ws_put, ws_raise, ws_if, ws_for1, wp_and, wp_or, wp_tand, wp_tor, wp_ifE, wp_chain, gSlot, wp_tru, wp_truI, wp_truB, wp_truT, wp_truL, wp_intB, wp_max, wp_min, ws_par2, ws_par3, ws_aug, wp_iadd, ws_chn, setN, wp_star, wp_seqT, wp_seqL, wp_slL, wp_addL, wp_boolL, wp_mulAL, wp_gcd, List.getElem?_cons_succ, List.getElem?_cons_zero, List.map_cons, List.map_nil, List.length_cons, List.length_nil, List.replicate_succ, List.replicate_zero, List.cons_append, List.nil_append, List.set_cons_succ, List.set_cons_zero, Option.some.injEq, exists_eq_left', Nat.reduceAdd, Nat.reduceSub, Nat.zero_add, Nat.add_zero, true_and, and_true, Vl.int.injEq, Vl.bl.injEq, Vl.loc.injEq, Vl.tup.injEq, exists_eq', exists_eq_left, Ob.lst.injEq, isS_non, isS_int, isS_tup, isS_bl, isS_loc, Bool.not_true, Bool.not_false]
  refine ws_while (n0 := b.toNat) (fun m ρ S1 => S1 = S ∧ ∃ x y : Int, ρ = [some (.int x), some (.int y)] ∧ 0 ≤ x ∧ 0 ≤ y ∧ y.toNat = m ∧ Nat.gcd x.natAbs y.natAbs = Nat.gcd a.natAbs b.natAbs) ⟨rfl, a, b, rfl, ha, hb.1, rfl, rfl⟩ (by omega) ?_
  rintro m ρ S1 ⟨rfl, x, y, rfl, hx, hy, rfl, hg⟩
  simp only [wp_ret, wp_stuck, wp_ifs, wp_newL, wp_var, wp_c, wp_op, wp_un, wp_tval, wp_tnot, wp_not, wp_nil, wp_cons, wp_tup, wp_lst, wp_dct, wp_call, wp_app, wp_append, wp_ixT, wp_ixL, wp_put, wp_sl, wp_pn, wp_ps, wp_slT, wp_addI, wp_addT, wp_sub, wp_mulAI, wp_mulAT, wp_mul, wp_div, wp_mod, wp_pow, wp_neg, wp_cmp, wp_eqI, wp_neI, wp_eqS, wp_neS, wp_is0', wp_not0', wp_isB, wp_notB, wp_lenT, wp_lenL, wp_tupT, wp_tupL, wp_lstT, ws_next, ws_brk, ws_cont, ws_seq, ws_expr, ws_ret, ws_retN, ws_set, ws_asg, ws_put, ws_raise, ws_if, ws_for1, wp_and, wp_or, wp_tand, wp_tor, wp_ifE, wp_chain, gSlot, wp_tru, wp_truI, wp_truB, wp_truT, wp_truL, wp_intB, wp_max, wp_min, ws_par2, ws_par3, ws_aug, wp_iadd, ws_chn, setN, wp_star, wp_seqT, wp_seqL, wp_slL, wp_addL, wp_boolL, wp_mulAL, wp_gcd, List.getElem?_cons_succ, List.getElem?_cons_zero, List.map_cons, List.map_nil, List.length_cons, List.length_nil, List.replicate_succ, List.replicate_zero, List.cons_append, List.nil_append, List.set_cons_succ, List.set_cons_zero, Option.some.injEq, exists_eq_left', Nat.reduceAdd, Nat.reduceSub, Nat.zero_add, Nat.add_zero, true_and, and_true, Vl.int.injEq, Vl.bl.injEq, Vl.loc.injEq, Vl.tup.injEq, exists_eq', exists_eq_left, Ob.lst.injEq, isS_non, isS_int, isS_tup, isS_bl, isS_loc, Bool.not_true, Bool.not_false]
  by_cases hz : y > 0
  · rw [if_pos (decide_eq_true hz)]
    refine ⟨by omega, _, _, rfl, (x.fmod y).toNat, ?_, y, x.fmod y, rfl, hy, fm0 hz, rfl, ?_⟩
    · have := fm1 (i := x) hz
      have := fm0 (i := x) hz
      omega
    · rw [← hg, Int.fmod_eq_emod_of_nonneg _ hy]
      have e1 : (x % y).natAbs = x.natAbs % y.natAbs := by
        obtain ⟨i, rfl⟩ := Int.eq_ofNat_of_zero_le hx
        obtain ⟨j, rfl⟩ := Int.eq_ofNat_of_zero_le hy
        rfl
      rw [e1, Nat.gcd_comm x.natAbs y.natAbs, Nat.gcd_rec y.natAbs x.natAbs, Nat.gcd_comm]
  · rw [if_neg (by simpa using hz)]
    have : y = 0 := by omega
    subst this
    rw [← hg]
    simp
    omega
end LW
end Tw
end
section
set_option Elab.async false
set_option maxRecDepth 100000
set_option maxHeartbeats 3000000
set_option linter.all false
namespace Tw
namespace LW
open PySem L2
theorem wp_abs {i : Int} {S : Store} {R : Vl → Store → Prop} {E : Str → Store → Prop} : Wp (bAbs [.int i]) S R E ↔ R (.int (if i < 0 then -i else i)) S := Iff.rfl
theorem at1 (x : Vl) : atI [x] 0 = some x := rfl
theorem at20 (x y : Vl) : atI [x, y] 0 = some x := rfl
theorem at21 (x y : Vl) : atI [x, y] 1 = some y := rfl
theorem at30 (x y z : Vl) : atI [x, y, z] 0 = some x := rfl
theorem at31 (x y z : Vl) : atI [x, y, z] 1 = some y := rfl
theorem at32 (x y z : Vl) : atI [x, y, z] 2 = some z := rfl
theorem lg3 {i : Int} (h : i.natAbs ≤ 100) : i.natAbs.log2 < 40 := lgb (k := 40) (Nat.lt_of_le_of_lt h (by decide)) (by decide)
theorem grain_of_ok {f : Fan} (h : f.Ok) (S : Store) : r_grain_of [f.v] S = some (.ok (.int (grain f : Nat)) S) := by
  refine wpe ?_
  unfold r_grain_of b_grain_of
  rw [wp_fn]
  obtain ⟨r, a, b, rays⟩ := f
  have hr := h.ray
  have hl := h.len
  match rays, hl, hr with
  | [], _, _ =>
    unfold Fan.v
    simp only [wp_ret, wp_stuck, wp_ifs, wp_newL, wp_var, wp_c, wp_op, wp_un, wp_tval, wp_tnot, wp_not, wp_nil, wp_cons, wp_tup, wp_lst, wp_dct, wp_call, wp_app, wp_append, wp_ixT, wp_ixL, wp_put, wp_sl, wp_pn, wp_ps, wp_slT, wp_addI, wp_addT, wp_sub, wp_mulAI, wp_mulAT, wp_mul, wp_div, wp_mod, wp_pow, wp_neg, wp_cmp, wp_eqI, wp_neI, wp_eqS, wp_neS, wp_is0', wp_not0', wp_isB, wp_notB, wp_lenT, wp_lenL, wp_tupT, wp_tupL, wp_lstT, ws_next, ws_brk, ws_cont, ws_seq, ws_expr, ws_ret, ws_retN, ws_set, ws_asg, ws_put, ws_raise, ws_if, ws_for1, wp_and, wp_or, wp_tand, wp_tor, wp_ifE, wp_chain, gSlot, wp_tru, wp_truI, wp_truB, wp_truT, wp_truL, wp_intB, wp_max, wp_min, ws_par2, ws_par3, ws_aug, wp_iadd, ws_chn, setN, wp_star, wp_seqT, wp_seqL, wp_slL, wp_addL, wp_boolL, wp_mulAL, wp_gcd, List.getElem?_cons_succ, List.getElem?_cons_zero, List.map_cons, List.map_nil, List.length_cons, List.length_nil, List.replicate_succ, List.replicate_zero, List.cons_append, List.nil_append, List.set_cons_succ, List.set_cons_zero, Option.some.injEq, exists_eq_left', Nat.reduceAdd, Nat.reduceSub, Nat.zero_add, Nat.add_zero, true_and, and_true, Vl.int.injEq, Vl.bl.injEq, Vl.loc.injEq, Vl.tup.injEq, exists_eq', exists_eq_left, Ob.lst.injEq, isS_non, isS_int, isS_tup, isS_bl, isS_loc, Bool.not_true, Bool.not_false, at32, ws_ite, wp_ite]
    exact ⟨by decide, fun z => absurd z (by decide), fun _ => ⟨fun z => absurd z (by decide), fun _ => rfl⟩⟩
  | [p], _, hr =>
    unfold Fan.v
    simp only [wp_ret, wp_stuck, wp_ifs, wp_newL, wp_var, wp_c, wp_op, wp_un, wp_tval, wp_tnot, wp_not, wp_nil, wp_cons, wp_tup, wp_lst, wp_dct, wp_call, wp_app, wp_append, wp_ixT, wp_ixL, wp_put, wp_sl, wp_pn, wp_ps, wp_slT, wp_addI, wp_addT, wp_sub, wp_mulAI, wp_mulAT, wp_mul, wp_div, wp_mod, wp_pow, wp_neg, wp_cmp, wp_eqI, wp_neI, wp_eqS, wp_neS, wp_is0', wp_not0', wp_isB, wp_notB, wp_lenT, wp_lenL, wp_tupT, wp_tupL, wp_lstT, ws_next, ws_brk, ws_cont, ws_seq, ws_expr, ws_ret, ws_retN, ws_set, ws_asg, ws_put, ws_raise, ws_if, ws_for1, wp_and, wp_or, wp_tand, wp_tor, wp_ifE, wp_chain, gSlot, wp_tru, wp_truI, wp_truB, wp_truT, wp_truL, wp_intB, wp_max, wp_min, ws_par2, ws_par3, ws_aug, wp_iadd, ws_chn, setN, wp_star, wp_seqT, wp_seqL, wp_slL, wp_addL, wp_boolL, wp_mulAL, wp_gcd, List.getElem?_cons_succ, List.getElem?_cons_zero, List.map_cons, List.map_nil, List.length_cons, List.length_nil, List.replicate_succ, List.replicate_zero, List.cons_append, List.nil_append, List.set_cons_succ, List.set_cons_zero, Option.some.injEq, exists_eq_left', Nat.reduceAdd, Nat.reduceSub, Nat.zero_add, Nat.add_zero, true_and, and_true, Vl.int.injEq, Vl.bl.injEq, Vl.loc.injEq, Vl.tup.injEq, exists_eq', exists_eq_left, Ob.lst.injEq, isS_non, isS_int, isS_tup, isS_bl, isS_loc, Bool.not_true, Bool.not_false, ws_ite, wp_ite, rayV, at1, at20, at21, at32]
    exact ⟨by decide, fun z => absurd z (by decide), fun _ => ⟨fun _ => rfl, fun z => nomatch z⟩⟩
  | [p, q], _, hr =>
    obtain ⟨h1, h2, _⟩ := hr p (by simp)
    obtain ⟨h3, h4, _⟩ := hr q (by simp)
    have big : ∀ i : Int, 0 ≤ i → i ≤ 4 → i.natAbs < 2 ^ 200 := fun i h0 h1 => Nat.lt_of_le_of_lt (show i.natAbs ≤ 4 by omega) (by decide)
    have t1 := turn_ok (big p.1 h1.1 h1.2) (big p.2 h2.1 h2.2) (big q.1 h3.1 h3.2) (big q.2 h4.1 h4.2) S
    have e : ∀ i : Int, (if i < 0 then -i else i) = ((i.natAbs : Nat) : Int) := fun i => by split <;> omega
    unfold Fan.v
    simp only [wp_ret, wp_stuck, wp_ifs, wp_newL, wp_var, wp_c, wp_op, wp_un, wp_tval, wp_tnot, wp_not, wp_nil, wp_cons, wp_tup, wp_lst, wp_dct, wp_call, wp_app, wp_append, wp_ixT, wp_ixL, wp_put, wp_sl, wp_pn, wp_ps, wp_slT, wp_addI, wp_addT, wp_sub, wp_mulAI, wp_mulAT, wp_mul, wp_div, wp_mod, wp_pow, wp_neg, wp_cmp, wp_eqI, wp_neI, wp_eqS, wp_neS, wp_is0', wp_not0', wp_isB, wp_notB, wp_lenT, wp_lenL, wp_tupT, wp_tupL, wp_lstT, ws_next, ws_brk, ws_cont, ws_seq, ws_expr, ws_ret, ws_retN, ws_set, ws_asg, ws_put, ws_raise, ws_if, ws_for1, wp_and, wp_or, wp_tand, wp_tor, wp_ifE, wp_chain, gSlot, wp_tru, wp_truI, wp_truB, wp_truT, wp_truL, wp_intB, wp_max, wp_min, ws_par2, ws_par3, ws_aug, wp_iadd, ws_chn, setN, wp_star, wp_seqT, wp_seqL, wp_slL, wp_addL, wp_boolL, wp_mulAL, wp_gcd, List.getElem?_cons_succ, List.getElem?_cons_zero, List.map_cons, List.map_nil, List.length_cons, List.length_nil, List.replicate_succ, List.replicate_zero, List.cons_append, List.nil_append, List.set_cons_succ, List.set_cons_zero, Option.some.injEq, exists_eq_left', Nat.reduceAdd, Nat.reduceSub, Nat.zero_add, Nat.add_zero, true_and, and_true, Vl.int.injEq, Vl.bl.injEq, Vl.loc.injEq, Vl.tup.injEq, exists_eq', exists_eq_left, Ob.lst.injEq, isS_non, isS_int, isS_tup, isS_bl, isS_loc, Bool.not_true, Bool.not_false, ws_ite, wp_ite, rayV, at20, at21, at32, wp_of t1, wp_abs, e]
    exact ⟨by decide, fun _ => rfl, fun z => absurd z (by decide)⟩
theorem lgrain_ok {f : Fan} (h : f.Ok) (S : Store) : r__law_grain [f.v] S = some (.ok (.int (grain f : Nat)) S) := by
  refine wpe ?_
  unfold r__law_grain b__law_grain
  rw [wp_fn]
  obtain ⟨r, a, b, rays⟩ := f
  have hr := h.ray
  have hl := h.len
  match rays, hl, hr with
  | [], _, _ =>
    unfold Fan.v
    simp only [wp_ret, wp_stuck, wp_ifs, wp_newL, wp_var, wp_c, wp_op, wp_un, wp_tval, wp_tnot, wp_not, wp_nil, wp_cons, wp_tup, wp_lst, wp_dct, wp_call, wp_app, wp_append, wp_ixT, wp_ixL, wp_put, wp_sl, wp_pn, wp_ps, wp_slT, wp_addI, wp_addT, wp_sub, wp_mulAI, wp_mulAT, wp_mul, wp_div, wp_mod, wp_pow, wp_neg, wp_cmp, wp_eqI, wp_neI, wp_eqS, wp_neS, wp_is0', wp_not0', wp_isB, wp_notB, wp_lenT, wp_lenL, wp_tupT, wp_tupL, wp_lstT, ws_next, ws_brk, ws_cont, ws_seq, ws_expr, ws_ret, ws_retN, ws_set, ws_asg, ws_put, ws_raise, ws_if, ws_for1, wp_and, wp_or, wp_tand, wp_tor, wp_ifE, wp_chain, gSlot, wp_tru, wp_truI, wp_truB, wp_truT, wp_truL, wp_intB, wp_max, wp_min, ws_par2, ws_par3, ws_aug, wp_iadd, ws_chn, setN, wp_star, wp_seqT, wp_seqL, wp_slL, wp_addL, wp_boolL, wp_mulAL, wp_gcd, List.getElem?_cons_succ, List.getElem?_cons_zero, List.map_cons, List.map_nil, List.length_cons, List.length_nil, List.replicate_succ, List.replicate_zero, List.cons_append, List.nil_append, List.set_cons_succ, List.set_cons_zero, Option.some.injEq, exists_eq_left', Nat.reduceAdd, Nat.reduceSub, Nat.zero_add, Nat.add_zero, true_and, and_true, Vl.int.injEq, Vl.bl.injEq, Vl.loc.injEq, Vl.tup.injEq, exists_eq', exists_eq_left, Ob.lst.injEq, isS_non, isS_int, isS_tup, isS_bl, isS_loc, Bool.not_true, Bool.not_false, at32, ws_ite, wp_ite]
    exact ⟨by decide, fun _ => rfl, fun z => absurd z (by decide)⟩
  | [p], _, hr =>
    obtain ⟨h1, h2, _⟩ := hr p (by simp)
    have d := divisor_ok (a := p.1) (b := p.2) h1.1 ⟨h2.1, by omega⟩ S
    unfold Fan.v
    simp only [wp_ret, wp_stuck, wp_ifs, wp_newL, wp_var, wp_c, wp_op, wp_un, wp_tval, wp_tnot, wp_not, wp_nil, wp_cons, wp_tup, wp_lst, wp_dct, wp_call, wp_app, wp_append, wp_ixT, wp_ixL, wp_put, wp_sl, wp_pn, wp_ps, wp_slT, wp_addI, wp_addT, wp_sub, wp_mulAI, wp_mulAT, wp_mul, wp_div, wp_mod, wp_pow, wp_neg, wp_cmp, wp_eqI, wp_neI, wp_eqS, wp_neS, wp_is0', wp_not0', wp_isB, wp_notB, wp_lenT, wp_lenL, wp_tupT, wp_tupL, wp_lstT, ws_next, ws_brk, ws_cont, ws_seq, ws_expr, ws_ret, ws_retN, ws_set, ws_asg, ws_put, ws_raise, ws_if, ws_for1, wp_and, wp_or, wp_tand, wp_tor, wp_ifE, wp_chain, gSlot, wp_tru, wp_truI, wp_truB, wp_truT, wp_truL, wp_intB, wp_max, wp_min, ws_par2, ws_par3, ws_aug, wp_iadd, ws_chn, setN, wp_star, wp_seqT, wp_seqL, wp_slL, wp_addL, wp_boolL, wp_mulAL, wp_gcd, List.getElem?_cons_succ, List.getElem?_cons_zero, List.map_cons, List.map_nil, List.length_cons, List.length_nil, List.replicate_succ, List.replicate_zero, List.cons_append, List.nil_append, List.set_cons_succ, List.set_cons_zero, Option.some.injEq, exists_eq_left', Nat.reduceAdd, Nat.reduceSub, Nat.zero_add, Nat.add_zero, true_and, and_true, Vl.int.injEq, Vl.bl.injEq, Vl.loc.injEq, Vl.tup.injEq, exists_eq', exists_eq_left, Ob.lst.injEq, isS_non, isS_int, isS_tup, isS_bl, isS_loc, Bool.not_true, Bool.not_false, ws_ite, wp_ite, rayV, at1, at20, at21, at32, wp_of d]
    exact ⟨by decide, fun z => absurd z (by decide), fun _ => ⟨by decide, fun _ => rfl, fun z => absurd z (by decide)⟩⟩
  | [p, q], _, hr =>
    obtain ⟨h1, h2, _⟩ := hr p (by simp)
    obtain ⟨h3, h4, _⟩ := hr q (by simp)
    have e : ∀ i : Int, (if i < 0 then -i else i) = ((i.natAbs : Nat) : Int) := fun i => by split <;> omega
    have l1 := lg3 (i := p.1) (by omega); have l2 := lg3 (i := p.2) (by omega)
    have l3 := lg3 (i := q.1) (by omega); have l4 := lg3 (i := q.2) (by omega)
    unfold Fan.v
    simp only [wp_ret, wp_stuck, wp_ifs, wp_newL, wp_var, wp_c, wp_op, wp_un, wp_tval, wp_tnot, wp_not, wp_nil, wp_cons, wp_tup, wp_lst, wp_dct, wp_call, wp_app, wp_append, wp_ixT, wp_ixL, wp_put, wp_sl, wp_pn, wp_ps, wp_slT, wp_addI, wp_addT, wp_sub, wp_mulAI, wp_mulAT, wp_mul, wp_div, wp_mod, wp_pow, wp_neg, wp_cmp, wp_eqI, wp_neI, wp_eqS, wp_neS, wp_is0', wp_not0', wp_isB, wp_notB, wp_lenT, wp_lenL, wp_tupT, wp_tupL, wp_lstT, ws_next, ws_brk, ws_cont, ws_seq, ws_expr, ws_ret, ws_retN, ws_set, ws_asg, ws_put, ws_raise, ws_if, ws_for1, wp_and, wp_or, wp_tand, wp_tor, wp_ifE, wp_chain, gSlot, wp_tru, wp_truI, wp_truB, wp_truT, wp_truL, wp_intB, wp_max, wp_min, ws_par2, ws_par3, ws_aug, wp_iadd, ws_chn, setN, wp_star, wp_seqT, wp_seqL, wp_slL, wp_addL, wp_boolL, wp_mulAL, wp_gcd, List.getElem?_cons_succ, List.getElem?_cons_zero, List.map_cons, List.map_nil, List.length_cons, List.length_nil, List.replicate_succ, List.replicate_zero, List.cons_append, List.nil_append, List.set_cons_succ, List.set_cons_zero, Option.some.injEq, exists_eq_left', Nat.reduceAdd, Nat.reduceSub, Nat.zero_add, Nat.add_zero, true_and, and_true, Vl.int.injEq, Vl.bl.injEq, Vl.loc.injEq, Vl.tup.injEq, exists_eq', exists_eq_left, Ob.lst.injEq, isS_non, isS_int, isS_tup, isS_bl, isS_loc, Bool.not_true, Bool.not_false, ws_ite, wp_ite, rayV, at20, at21, at32, wp_abs, e]
    refine ⟨by decide, fun z => absurd z (by decide), fun _ => ⟨by decide, fun z => absurd z (by decide), fun _ => ?_⟩⟩
    and_intros
    all_goals first | rfl | omega
theorem fan_isFan {f : Fan} (h : f.Ok) : isFan f.v = true := by
  obtain ⟨r, a, b, rays⟩ := f
  have hr := h.ray
  have hl := h.len
  have hc := h.cross
  have r0 : isB 0 (3 - 1) (.int r) = true := by
    have := h.room
    show (decide (0 ≤ r) && decide (r ≤ 3 - 1)) = true
    simp only [Bool.and_eq_true, decide_eq_true_eq]
    exact ⟨this.1, by have : r < 3 := this.2; omega⟩
  have s0 : isCs 2 (.tup [.int a, .int b]) = true := by
    have h1 := h.a.1; have h2 := h.b.1
    show (decide _ && _) = true
    simp [isC]
    exact ⟨h1, h2⟩
  have u0 : isU 2 (.tup (rays.map rayV)) = true := decide_eq_true (by rw [List.length_map]; have : rays.length ≤ 2 := hl; omega)
  have y0 : (rays.map rayV).all isRay = true := by
    rw [List.all_eq_true]
    intro x hx
    obtain ⟨p, hp, rfl⟩ := List.mem_map.mp hx
    obtain ⟨h1, h2, h3⟩ := hr p hp
    have e1 : isRay (rayV p) = ((decide (((2 : Nat) : Int) = 2) && (isC (.int p.1) && (isC (.int p.2) && true))) && !(decide (p.1 = 0) && decide (p.2 = 0))) := rfl
    rw [e1, show isC (.int p.1) = true from decide_eq_true h1.1, show isC (.int p.2) = true from decide_eq_true h2.1]
    by_cases z : p.1 = 0
    · have : ¬ p.2 = 0 := fun z2 => h3 ⟨z, z2⟩
      simp [z, this]
    · simp [z]
  have c0 : crossOk (rays.map rayV) = true := by
    match rays, hl, hc with
    | [], _, _ => rfl
    | [p], _, _ => exact cross1 _
    | [p, q], _, hc => exact decide_eq_true hc
  show ((_ && _) && ((_ && _) && _)) = true
  rw [r0, s0, u0, y0, c0]
  rfl
theorem fan_fine {f : Fan} (h : f.Ok) (S : Store) : ∀ j, FineN S j f.v := by
  have hl := h.len
  have fi : ∀ i : Int, ∀ j, FineN S j (.int i) := fun i => fine_atom rfl rfl
  have ft : ∀ x y : Int, ∀ j, FineN S j (.tup [.int x, .int y]) := fun x y => fine_tup (by show 2 ≤ line; decide) fun z hz => by
    simp only [List.mem_cons, List.not_mem_nil, or_false] at hz
    rcases hz with rfl | rfl
    · exact fi x
    · exact fi y
  refine fine_tup (by show 3 ≤ line; decide) fun z hz => ?_
  simp only [List.mem_cons, List.not_mem_nil, or_false] at hz
  rcases hz with rfl | rfl | rfl
  · exact fi _
  · exact ft _ _
  · refine fine_tup (by rw [List.length_map]; exact Nat.le_trans hl (by decide)) fun z hz => ?_
    obtain ⟨p, hp, rfl⟩ := List.mem_map.mp hz
    exact ft _ _
theorem fan_bd {f : Fan} (h : f.Ok) : BdN 3 f.v := by
  have sm : ∀ i : Int, 0 ≤ i → i ≤ 12 → i.natAbs < 2 ^ 200 := fun i h0 h1 => Nat.lt_of_le_of_lt (show i.natAbs ≤ 12 by omega) (by decide)
  have b0 : ∀ (i : Int) (n : Nat), 0 ≤ i → i ≤ 12 → BdN n (.int i) := fun i n h0 h1 => by
    cases n with
    | zero => intro j e; cases e; exact sm i h0 h1
    | succ n => exact ⟨(fun j e => by cases e; exact sm i h0 h1), (fun xs e => nomatch e)⟩
  have b2 : ∀ (x y : Int) (n : Nat), 0 ≤ x → x ≤ 12 → 0 ≤ y → y ≤ 12 → BdN n (.tup [.int x, .int y]) := fun x y n h0 h1 h2 h3 => by
    cases n with
    | zero => intro j e; cases e
    | succ n =>
      refine ⟨(fun j e => nomatch e), fun xs e z hz => ?_⟩
      cases e
      simp only [List.mem_cons, List.not_mem_nil, or_false] at hz
      rcases hz with rfl | rfl
      · exact b0 x n h0 h1
      · exact b0 y n h2 h3
  refine ⟨(fun j e => nomatch e), fun xs e z hz => ?_⟩
  cases e
  simp only [List.mem_cons, List.not_mem_nil, or_false] at hz
  rcases hz with rfl | rfl | rfl
  · exact b0 _ 2 h.room.1 (by have := h.room.2; omega)
  · exact b2 _ _ 2 h.a.1 h.a.2 h.b.1 h.b.2
  · refine ⟨(fun j e => nomatch e), fun xs e z hz => ?_⟩
    cases e
    obtain ⟨p, hp, rfl⟩ := List.mem_map.mp hz
    obtain ⟨h1, h2, _⟩ := h.ray p hp
    exact b2 _ _ 1 h1.1 (by omega) h2.1 (by omega)
/-! ### a lot -/
def lotV (fs : List Fan) : List Vl := fs.map Fan.v
structure LotOk (fs : List Fan) : Prop where
  len : fs.length ≤ 4
  ok : ∀ f ∈ fs, f.Ok
theorem bls_map : ∀ bs : List Bool, blsM (bs.map Vl.bl) = some bs
  | [] => rfl
  | b :: bs => by rw [List.map_cons]; unfold blsM; rw [bls_map bs]
theorem wp_anyB {n : Nat} {bs : List Bool} {S : Store} {R : Vl → Store → Prop} {E : Str → Store → Prop} (h : S[n]? = some (.lst (bs.map .bl))) : Wp (bAny [.loc n]) S R E ↔ R (.bl (bs.any id)) S := by
  have e : bAny [.loc n] S = some (.ok (.bl (bs.any id)) S) := by
    unfold bAny lstM
    simp only [bnd, getL, h, bls_map]
    rfl
  unfold Wp
  rw [e]
theorem beyond_ok {f : Fan} (h : f.Ok) (S : Store) : Gw (r__is_beyond [f.v]) S (.bl false) := by
  refine wpg ?_
  unfold r__is_beyond b__is_beyond
  rw [wp_fn]
  obtain ⟨r, a, b, rays⟩ := f
  have hl := h.len
  unfold Fan.v
  simp only [wp_ret, wp_stuck, wp_ifs, wp_newL, wp_var, wp_c, wp_op, wp_un, wp_tval, wp_tnot, wp_not, wp_nil, wp_cons, wp_tup, wp_lst, wp_dct, wp_call, wp_app, wp_append, wp_ixT, wp_ixL, wp_put, wp_sl, wp_pn, wp_ps, wp_slT, wp_addI, wp_addT, wp_sub, wp_mulAI, wp_mulAT, wp_mul, wp_div, wp_mod, wp_pow, wp_neg, wp_cmp, wp_eqI, wp_neI, wp_eqS, wp_neS, wp_is0', wp_not0', wp_isB, wp_notB, wp_lenT, wp_lenL, wp_tupT, wp_tupL, wp_lstT, ws_next, ws_brk, ws_cont, ws_seq, ws_expr, ws_ret, ws_retN, ws_set, ws_asg, ws_put, ws_raise, ws_if, ws_for1, wp_and, wp_or, wp_tand, wp_tor, wp_ifE, wp_chain, gSlot, wp_tru, wp_truI, wp_truB, wp_truT, wp_truL, wp_intB, wp_max, wp_min, ws_par2, ws_par3, ws_aug, wp_iadd, ws_chn, setN, wp_star, wp_seqT, wp_seqL, wp_slL, wp_addL, wp_boolL, wp_mulAL, wp_gcd, List.getElem?_cons_succ, List.getElem?_cons_zero, List.map_cons, List.map_nil, List.length_cons, List.length_nil, List.replicate_succ, List.replicate_zero, List.cons_append, List.nil_append, List.set_cons_succ, List.set_cons_zero, Option.some.injEq, exists_eq_left', Nat.reduceAdd, Nat.reduceSub, Nat.zero_add, Nat.add_zero, true_and, and_true, Vl.int.injEq, Vl.bl.injEq, Vl.loc.injEq, Vl.tup.injEq, exists_eq', exists_eq_left, Ob.lst.injEq, isS_non, isS_int, isS_tup, isS_bl, isS_loc, Bool.not_true, Bool.not_false]
  refine ⟨_, rfl, ?_⟩
  simp only [wp_ret, wp_stuck, wp_ifs, wp_newL, wp_var, wp_c, wp_op, wp_un, wp_tval, wp_tnot, wp_not, wp_nil, wp_cons, wp_tup, wp_lst, wp_dct, wp_call, wp_app, wp_append, wp_ixT, wp_ixL, wp_put, wp_sl, wp_pn, wp_ps, wp_slT, wp_addI, wp_addT, wp_sub, wp_mulAI, wp_mulAT, wp_mul, wp_div, wp_mod, wp_pow, wp_neg, wp_cmp, wp_eqI, wp_neI, wp_eqS, wp_neS, wp_is0', wp_not0', wp_isB, wp_notB, wp_lenT, wp_lenL, wp_tupT, wp_tupL, wp_lstT, ws_next, ws_brk, ws_cont, ws_seq, ws_expr, ws_ret, ws_retN, ws_set, ws_asg, ws_put, ws_raise, ws_if, ws_for1, wp_and, wp_or, wp_tand, wp_tor, wp_ifE, wp_chain, gSlot, wp_tru, wp_truI, wp_truB, wp_truT, wp_truL, wp_intB, wp_max, wp_min, ws_par2, ws_par3, ws_aug, wp_iadd, ws_chn, setN, wp_star, wp_seqT, wp_seqL, wp_slL, wp_addL, wp_boolL, wp_mulAL, wp_gcd, List.getElem?_cons_succ, List.getElem?_cons_zero, List.map_cons, List.map_nil, List.length_cons, List.length_nil, List.replicate_succ, List.replicate_zero, List.cons_append, List.nil_append, List.set_cons_succ, List.set_cons_zero, Option.some.injEq, exists_eq_left', Nat.reduceAdd, Nat.reduceSub, Nat.zero_add, Nat.add_zero, true_and, and_true, Vl.int.injEq, Vl.bl.injEq, Vl.loc.injEq, Vl.tup.injEq, exists_eq', exists_eq_left, Ob.lst.injEq, isS_non, isS_int, isS_tup, isS_bl, isS_loc, Bool.not_true, Bool.not_false]
  refine (wp_bestST (ns := [a, b]) rfl (by simp)).mpr ?_
  have h1 := h.a.2; have h2 := h.b.2
  have hm : (decide (maxL [a, b] > 12)) = false := decide_eq_false (by
    have h1 : a ≤ 12 := h1
    have h2 : b ≤ 12 := h2
    show ¬ max a b > 12
    omega)
  simp only [wp_ret, wp_stuck, wp_ifs, wp_newL, wp_var, wp_c, wp_op, wp_un, wp_tval, wp_tnot, wp_not, wp_nil, wp_cons, wp_tup, wp_lst, wp_dct, wp_call, wp_app, wp_append, wp_ixT, wp_ixL, wp_put, wp_sl, wp_pn, wp_ps, wp_slT, wp_addI, wp_addT, wp_sub, wp_mulAI, wp_mulAT, wp_mul, wp_div, wp_mod, wp_pow, wp_neg, wp_cmp, wp_eqI, wp_neI, wp_eqS, wp_neS, wp_is0', wp_not0', wp_isB, wp_notB, wp_lenT, wp_lenL, wp_tupT, wp_tupL, wp_lstT, ws_next, ws_brk, ws_cont, ws_seq, ws_expr, ws_ret, ws_retN, ws_set, ws_asg, ws_put, ws_raise, ws_if, ws_for1, wp_and, wp_or, wp_tand, wp_tor, wp_ifE, wp_chain, gSlot, wp_tru, wp_truI, wp_truB, wp_truT, wp_truL, wp_intB, wp_max, wp_min, ws_par2, ws_par3, ws_aug, wp_iadd, ws_chn, setN, wp_star, wp_seqT, wp_seqL, wp_slL, wp_addL, wp_boolL, wp_mulAL, wp_gcd, List.getElem?_cons_succ, List.getElem?_cons_zero, List.map_cons, List.map_nil, List.length_cons, List.length_nil, List.replicate_succ, List.replicate_zero, List.cons_append, List.nil_append, List.set_cons_succ, List.set_cons_zero, Option.some.injEq, exists_eq_left', Nat.reduceAdd, Nat.reduceSub, Nat.zero_add, Nat.add_zero, true_and, and_true, Vl.int.injEq, Vl.bl.injEq, Vl.loc.injEq, Vl.tup.injEq, exists_eq', exists_eq_left, Ob.lst.injEq, isS_non, isS_int, isS_tup, isS_bl, isS_loc, Bool.not_true, Bool.not_false, hm, wp_ite]
  refine ⟨(fun z => nomatch z), fun _ => ?_⟩
  refine wp_comp_map (fun x => .bl false) (wseq_T rfl) trivial (by rw [List.length_map]; exact Nat.le_trans hl (by decide)) (fun x hx U => ?_) fun T => ?_
  · obtain ⟨p, hp, rfl⟩ := List.mem_map.mp hx
    obtain ⟨q1, q2, _⟩ := h.ray p hp
    refine wpg ?_
    unfold rayV
    simp only [wp_ret, wp_stuck, wp_ifs, wp_newL, wp_var, wp_c, wp_op, wp_un, wp_tval, wp_tnot, wp_not, wp_nil, wp_cons, wp_tup, wp_lst, wp_dct, wp_call, wp_app, wp_append, wp_ixT, wp_ixL, wp_put, wp_sl, wp_pn, wp_ps, wp_slT, wp_addI, wp_addT, wp_sub, wp_mulAI, wp_mulAT, wp_mul, wp_div, wp_mod, wp_pow, wp_neg, wp_cmp, wp_eqI, wp_neI, wp_eqS, wp_neS, wp_is0', wp_not0', wp_isB, wp_notB, wp_lenT, wp_lenL, wp_tupT, wp_tupL, wp_lstT, ws_next, ws_brk, ws_cont, ws_seq, ws_expr, ws_ret, ws_retN, ws_set, ws_asg, ws_put, ws_raise, ws_if, ws_for1, wp_and, wp_or, wp_tand, wp_tor, wp_ifE, wp_chain, gSlot, wp_tru, wp_truI, wp_truB, wp_truT, wp_truL, wp_intB, wp_max, wp_min, ws_par2, ws_par3, ws_aug, wp_iadd, ws_chn, setN, wp_star, wp_seqT, wp_seqL, wp_slL, wp_addL, wp_boolL, wp_mulAL, wp_gcd, List.getElem?_cons_succ, List.getElem?_cons_zero, List.map_cons, List.map_nil, List.length_cons, List.length_nil, List.replicate_succ, List.replicate_zero, List.cons_append, List.nil_append, List.set_cons_succ, List.set_cons_zero, Option.some.injEq, exists_eq_left', Nat.reduceAdd, Nat.reduceSub, Nat.zero_add, Nat.add_zero, true_and, and_true, Vl.int.injEq, Vl.bl.injEq, Vl.loc.injEq, Vl.tup.injEq, exists_eq', exists_eq_left, Ob.lst.injEq, isS_non, isS_int, isS_tup, isS_bl, isS_loc, Bool.not_true, Bool.not_false]
    refine (wp_bestST (ns := [p.1, p.2]) rfl (by simp)).mpr ?_
    have hm : (decide (maxL [p.1, p.2] > 4)) = false := decide_eq_false (by show ¬ max p.1 p.2 > 4; omega)
    simp only [wp_ret, wp_stuck, wp_ifs, wp_newL, wp_var, wp_c, wp_op, wp_un, wp_tval, wp_tnot, wp_not, wp_nil, wp_cons, wp_tup, wp_lst, wp_dct, wp_call, wp_app, wp_append, wp_ixT, wp_ixL, wp_put, wp_sl, wp_pn, wp_ps, wp_slT, wp_addI, wp_addT, wp_sub, wp_mulAI, wp_mulAT, wp_mul, wp_div, wp_mod, wp_pow, wp_neg, wp_cmp, wp_eqI, wp_neI, wp_eqS, wp_neS, wp_is0', wp_not0', wp_isB, wp_notB, wp_lenT, wp_lenL, wp_tupT, wp_tupL, wp_lstT, ws_next, ws_brk, ws_cont, ws_seq, ws_expr, ws_ret, ws_retN, ws_set, ws_asg, ws_put, ws_raise, ws_if, ws_for1, wp_and, wp_or, wp_tand, wp_tor, wp_ifE, wp_chain, gSlot, wp_tru, wp_truI, wp_truB, wp_truT, wp_truL, wp_intB, wp_max, wp_min, ws_par2, ws_par3, ws_aug, wp_iadd, ws_chn, setN, wp_star, wp_seqT, wp_seqL, wp_slL, wp_addL, wp_boolL, wp_mulAL, wp_gcd, List.getElem?_cons_succ, List.getElem?_cons_zero, List.map_cons, List.map_nil, List.length_cons, List.length_nil, List.replicate_succ, List.replicate_zero, List.cons_append, List.nil_append, List.set_cons_succ, List.set_cons_zero, Option.some.injEq, exists_eq_left', Nat.reduceAdd, Nat.reduceSub, Nat.zero_add, Nat.add_zero, true_and, and_true, Vl.int.injEq, Vl.bl.injEq, Vl.loc.injEq, Vl.tup.injEq, exists_eq', exists_eq_left, Ob.lst.injEq, isS_non, isS_int, isS_tup, isS_bl, isS_loc, Bool.not_true, Bool.not_false, hm]
    exact ⟨[], by simp⟩
  · refine (wp_anyB (bs := rays.map fun _ => false) (by rw [acc_get]; simp [List.map_map, Function.comp_def])).mpr ⟨?_, _, (List.append_assoc _ _ _)⟩
    congr 1
    induction rays with
    | nil => rfl
    | cons p ps ih => simp
end LW
end Tw
end
section
set_option Elab.async false
set_option maxRecDepth 100000
set_option maxHeartbeats 3000000
set_option linter.all false
namespace Tw
namespace LW
open PySem L2
def lcmL (fs : List Fan) : Nat := fs.foldl (fun c f => Nat.lcm c (grain f)) 1
theorem lcm_bd {c g : Nat} (hc : 1 ≤ c) (hg : 1 ≤ g) : 1 ≤ Nat.lcm c g ∧ Nat.lcm c g ≤ c * g := by
  have h1 : 0 < Nat.lcm c g := Nat.lcm_pos hc hg
  refine ⟨h1, Nat.le_of_dvd (Nat.mul_pos hc hg) ?_⟩
  exact Nat.lcm_dvd_mul c g
theorem fold_bd : ∀ (fs : List Fan) (c : Nat), (∀ f ∈ fs, f.Ok) → 1 ≤ c → 1 ≤ fs.foldl (fun c f => Nat.lcm c (grain f)) c ∧ fs.foldl (fun c f => Nat.lcm c (grain f)) c ≤ c * 16 ^ fs.length
  | [], c, _, hc => ⟨hc, by simp⟩
  | f :: fs, c, h, hc => by
    have hg := grain_bd (h f List.mem_cons_self)
    have h1 := lcm_bd hc hg.1
    obtain ⟨h2, h3⟩ := fold_bd fs (Nat.lcm c (grain f)) (fun x hx => h x (List.mem_cons_of_mem _ hx)) h1.1
    refine ⟨h2, Nat.le_trans h3 ?_⟩
    rw [List.length_cons, Nat.pow_succ]
    have : Nat.lcm c (grain f) ≤ c * 16 := Nat.le_trans h1.2 (Nat.mul_le_mul_left _ hg.2)
    calc Nat.lcm c (grain f) * 16 ^ fs.length ≤ (c * 16) * 16 ^ fs.length := Nat.mul_le_mul_right _ this
      _ = c * (16 ^ fs.length * 16) := by rw [Nat.mul_assoc, Nat.mul_comm 16]
theorem take_bd {fs : List Fan} (h : LotOk fs) (i : Nat) : 1 ≤ lcmL (fs.take i) ∧ lcmL (fs.take i) ≤ 65536 := by
  obtain ⟨h1, h2⟩ := fold_bd (fs.take i) 1 (fun f hf => h.ok f (List.mem_of_mem_take hf)) (Nat.le_refl _)
  refine ⟨h1, Nat.le_trans h2 ?_⟩
  have hl : (fs.take i).length ≤ 4 := by rw [List.length_take]; have := h.len; omega
  rw [Nat.one_mul]
  exact Nat.le_trans (Nat.pow_le_pow_right (by decide) hl) (by decide)
theorem take_snoc {fs : List Fan} {i : Nat} {f : Fan} (h : fs[i]? = some f) : lcmL (fs.take (i + 1)) = Nat.lcm (lcmL (fs.take i)) (grain f) := by
  unfold lcmL
  rw [List.take_succ, h, List.foldl_append]
  rfl
theorem lot_get {fs : List Fan} {i : Nat} {x : Vl} (h : (lotV fs)[i]? = some x) : ∃ f, fs[i]? = some f ∧ x = f.v := by
  unfold lotV at h
  rw [List.getElem?_map] at h
  obtain ⟨f, h1, h2⟩ := Option.map_eq_some_iff.mp h
  exact ⟨f, h1, h2.symm⟩
theorem size_ok {fs : List Fan} (h : LotOk fs) {S : Store} {m n : Nat} (hm : S[m]? = some (.lst [.loc n])) (hn : S[n]? = some (.lst (lotV fs))) {Q : Vl → Store → Prop} {E : Str → Store → Prop} (hQ : lcmL fs ≤ 6 → ∀ T, Q .non (S ++ T)) (hE : 6 < lcmL fs → ∀ T, E "TooLarge" (S ++ T)) :
    Wp (r_check_size [.loc m]) S Q E := by
  unfold r_check_size b_check_size
  rw [wp_fn]
  simp only [wp_ret, wp_stuck, wp_ifs, wp_newL, wp_var, wp_c, wp_op, wp_un, wp_tval, wp_tnot, wp_not, wp_nil, wp_cons, wp_tup, wp_lst, wp_dct, wp_call, wp_app, wp_append, wp_ixT, wp_ixL, wp_put, wp_sl, wp_pn, wp_ps, wp_slT, wp_addI, wp_addT, wp_sub, wp_mulAI, wp_mulAT, wp_mul, wp_div, wp_mod, wp_pow, wp_neg, wp_cmp, wp_eqI, wp_neI, wp_eqS, wp_neS, wp_is0', wp_not0', wp_isB, wp_notB, wp_lenT, wp_lenL, wp_tupT, wp_tupL, wp_lstT, ws_next, ws_brk, ws_cont, ws_seq, ws_expr, ws_ret, ws_retN, ws_set, ws_asg, ws_put, ws_raise, ws_if, ws_for1, wp_and, wp_or, wp_tand, wp_tor, wp_ifE, wp_chain, gSlot, wp_tru, wp_truI, wp_truB, wp_truT, wp_truL, wp_intB, wp_max, wp_min, ws_par2, ws_par3, ws_aug, wp_iadd, ws_chn, setN, wp_star, wp_seqT, wp_seqL, wp_slL, wp_addL, wp_boolL, wp_mulAL, wp_gcd, List.getElem?_cons_succ, List.getElem?_cons_zero, List.map_cons, List.map_nil, List.length_cons, List.length_nil, List.replicate_succ, List.replicate_zero, List.cons_append, List.nil_append, List.set_cons_succ, List.set_cons_zero, Option.some.injEq, exists_eq_left', Nat.reduceAdd, Nat.reduceSub, Nat.zero_add, Nat.add_zero, true_and, and_true, Vl.int.injEq, Vl.bl.injEq, Vl.loc.injEq, Vl.tup.injEq, exists_eq', exists_eq_left, Ob.lst.injEq, isS_non, isS_int, isS_tup, isS_bl, isS_loc, Bool.not_true, Bool.not_false]
  have hlen : (lotV fs).length ≤ 4 := by unfold lotV; rw [List.length_map]; exact h.len
  refine (ws_forL (S1 := S) rfl hm).mpr ?_
  refine ws_loopL (fun i ρ S1 => (i = 0 ∧ S1 = S ∧ ρ = [some (.loc m), some (.int 1), none, none]) ∨ (i = 1 ∧ ∃ T z, S1 = S ++ T ∧ ρ = [some (.loc m), some (.int (lcmL fs : Nat)), some (.loc n), z])) [.loc n] 0 _ _ (.inl ⟨rfl, rfl, rfl⟩) ?_ ?_
  · intro i x ρ S1 hx hJ
    have hi : i = 0 ∧ x = .loc n := by
      cases i with
      | zero => exact ⟨rfl, by simpa using hx.symm⟩
      | succ i => simp at hx
    obtain ⟨rfl, rfl⟩ := hi
    rcases hJ with ⟨_, rfl, rfl⟩ | ⟨h0, _⟩
    case inr => exact absurd h0 (by decide)
    refine ⟨hm, _, rfl, ?_⟩
    have d4 : decide (((lotV fs).length : Int) > 4) = false := decide_eq_false (by omega)
    simp only [wp_ret, wp_stuck, wp_ifs, wp_newL, wp_var, wp_c, wp_op, wp_un, wp_tval, wp_tnot, wp_not, wp_nil, wp_cons, wp_tup, wp_lst, wp_dct, wp_call, wp_app, wp_append, wp_ixT, wp_ixL, wp_put, wp_sl, wp_pn, wp_ps, wp_slT, wp_addI, wp_addT, wp_sub, wp_mulAI, wp_mulAT, wp_mul, wp_div, wp_mod, wp_pow, wp_neg, wp_cmp, wp_eqI, wp_neI, wp_eqS, wp_neS, wp_is0', wp_not0', wp_isB, wp_notB, wp_lenT, wp_lenL, wp_tupT, wp_tupL, wp_lstT, ws_next, ws_brk, ws_cont, ws_seq, ws_expr, ws_ret, ws_retN, ws_set, ws_asg, ws_put, ws_raise, ws_if, ws_for1, wp_and, wp_or, wp_tand, wp_tor, wp_ifE, wp_chain, gSlot, wp_tru, wp_truI, wp_truB, wp_truT, wp_truL, wp_intB, wp_max, wp_min, ws_par2, ws_par3, ws_aug, wp_iadd, ws_chn, setN, wp_star, wp_seqT, wp_seqL, wp_slL, wp_addL, wp_boolL, wp_mulAL, wp_gcd, List.getElem?_cons_succ, List.getElem?_cons_zero, List.map_cons, List.map_nil, List.length_cons, List.length_nil, List.replicate_succ, List.replicate_zero, List.cons_append, List.nil_append, List.set_cons_succ, List.set_cons_zero, Option.some.injEq, exists_eq_left', Nat.reduceAdd, Nat.reduceSub, Nat.zero_add, Nat.add_zero, true_and, and_true, Vl.int.injEq, Vl.bl.injEq, Vl.loc.injEq, Vl.tup.injEq, exists_eq', exists_eq_left, Ob.lst.injEq, isS_non, isS_int, isS_tup, isS_bl, isS_loc, Bool.not_true, Bool.not_false, hn, d4, wp_ite, ws_ite]
    refine ⟨(fun z => nomatch z), fun _ => ?_⟩
    refine wp_comp_map (fun x => .bl false) (wseq_L rfl hn) hn (Nat.le_trans hlen (by decide)) (fun x hx U => ?_) fun T => ?_
    · obtain ⟨f, hf, rfl⟩ := List.mem_map.mp hx
      obtain ⟨T, e⟩ := beyond_ok (h.ok f hf) (S1 ++ U)
      refine wpg ?_
      simp only [wp_ret, wp_stuck, wp_ifs, wp_newL, wp_var, wp_c, wp_op, wp_un, wp_tval, wp_tnot, wp_not, wp_nil, wp_cons, wp_tup, wp_lst, wp_dct, wp_call, wp_app, wp_append, wp_ixT, wp_ixL, wp_put, wp_sl, wp_pn, wp_ps, wp_slT, wp_addI, wp_addT, wp_sub, wp_mulAI, wp_mulAT, wp_mul, wp_div, wp_mod, wp_pow, wp_neg, wp_cmp, wp_eqI, wp_neI, wp_eqS, wp_neS, wp_is0', wp_not0', wp_isB, wp_notB, wp_lenT, wp_lenL, wp_tupT, wp_tupL, wp_lstT, ws_next, ws_brk, ws_cont, ws_seq, ws_expr, ws_ret, ws_retN, ws_set, ws_asg, ws_put, ws_raise, ws_if, ws_for1, wp_and, wp_or, wp_tand, wp_tor, wp_ifE, wp_chain, gSlot, wp_tru, wp_truI, wp_truB, wp_truT, wp_truL, wp_intB, wp_max, wp_min, ws_par2, ws_par3, ws_aug, wp_iadd, ws_chn, setN, wp_star, wp_seqT, wp_seqL, wp_slL, wp_addL, wp_boolL, wp_mulAL, wp_gcd, List.getElem?_cons_succ, List.getElem?_cons_zero, List.map_cons, List.map_nil, List.length_cons, List.length_nil, List.replicate_succ, List.replicate_zero, List.cons_append, List.nil_append, List.set_cons_succ, List.set_cons_zero, Option.some.injEq, exists_eq_left', Nat.reduceAdd, Nat.reduceSub, Nat.zero_add, Nat.add_zero, true_and, and_true, Vl.int.injEq, Vl.bl.injEq, Vl.loc.injEq, Vl.tup.injEq, exists_eq', exists_eq_left, Ob.lst.injEq, isS_non, isS_int, isS_tup, isS_bl, isS_loc, Bool.not_true, Bool.not_false, wp_of e]
      exact ⟨T, rfl⟩
    · refine (wp_anyB (bs := (lotV fs).map fun _ => false) (by rw [acc_get]; simp [List.map_map, Function.comp_def])).mpr ?_
      have ea : ((lotV fs).map fun _ => false).any id = false := by
        rw [List.any_map]
        generalize lotV fs = l
        induction l with
        | nil => rfl
        | cons a l ih => simpa using ih
      rw [ea]
      refine ⟨_, rfl, (fun z => nomatch z), fun _ => ?_⟩
      have hn2 : (S1 ++ [Ob.lst ((lotV fs).map fun _ => Vl.bl false)] ++ T)[n]? = some (.lst (lotV fs)) := ap_get (ap_get hn)
      generalize hS2 : S1 ++ [Ob.lst ((lotV fs).map fun _ => Vl.bl false)] ++ T = S2 at hn2
      refine (ws_forL (S1 := S2) rfl hn2).mpr ?_
      refine ws_loopL (fun i ρ S' => S' = S2 ∧ ∃ z, ρ = [some (.loc m), some (.int (lcmL (fs.take i) : Nat)), some (.loc n), z]) (lotV fs) 0 _ _ ⟨rfl, _, rfl⟩ ?_ ?_
      · rintro i x ρ S' hx ⟨rfl, z, rfl⟩
        obtain ⟨f, hf, rfl⟩ := lot_get hx
        rw [Nat.zero_add]
        refine ⟨hn2, _, rfl, ?_⟩
        have hfo := h.ok f (List.mem_of_getElem? hf)
        have b1 := take_bd h i
        have b2 := grain_bd hfo
        have p64 : (65536 : Nat) < 2 ^ 64 := by decide
        simp only [wp_ret, wp_stuck, wp_ifs, wp_newL, wp_var, wp_c, wp_op, wp_un, wp_tval, wp_tnot, wp_not, wp_nil, wp_cons, wp_tup, wp_lst, wp_dct, wp_call, wp_app, wp_append, wp_ixT, wp_ixL, wp_put, wp_sl, wp_pn, wp_ps, wp_slT, wp_addI, wp_addT, wp_sub, wp_mulAI, wp_mulAT, wp_mul, wp_div, wp_mod, wp_pow, wp_neg, wp_cmp, wp_eqI, wp_neI, wp_eqS, wp_neS, wp_is0', wp_not0', wp_isB, wp_notB, wp_lenT, wp_lenL, wp_tupT, wp_tupL, wp_lstT, ws_next, ws_brk, ws_cont, ws_seq, ws_expr, ws_ret, ws_retN, ws_set, ws_asg, ws_put, ws_raise, ws_if, ws_for1, wp_and, wp_or, wp_tand, wp_tor, wp_ifE, wp_chain, gSlot, wp_tru, wp_truI, wp_truB, wp_truT, wp_truL, wp_intB, wp_max, wp_min, ws_par2, ws_par3, ws_aug, wp_iadd, ws_chn, setN, wp_star, wp_seqT, wp_seqL, wp_slL, wp_addL, wp_boolL, wp_mulAL, wp_gcd, List.getElem?_cons_succ, List.getElem?_cons_zero, List.map_cons, List.map_nil, List.length_cons, List.length_nil, List.replicate_succ, List.replicate_zero, List.cons_append, List.nil_append, List.set_cons_succ, List.set_cons_zero, Option.some.injEq, exists_eq_left', Nat.reduceAdd, Nat.reduceSub, Nat.zero_add, Nat.add_zero, true_and, and_true, Vl.int.injEq, Vl.bl.injEq, Vl.loc.injEq, Vl.tup.injEq, exists_eq', exists_eq_left, Ob.lst.injEq, isS_non, isS_int, isS_tup, isS_bl, isS_loc, Bool.not_true, Bool.not_false, wp_of (grain_of_ok hfo S'), wp_lcm]
        refine ⟨⟨by rw [Int.natAbs_natCast]; omega, by rw [Int.natAbs_natCast]; omega⟩, ?_⟩
        rw [Int.natAbs_natCast, Int.natAbs_natCast, take_snoc hf]
        exact ⟨_, rfl⟩
      · rintro ρ S' ⟨rfl, z, rfl⟩
        refine ⟨hn2, .inr ⟨[Ob.lst ((lotV fs).map fun _ => Vl.bl false)] ++ T, z, by rw [← hS2, List.append_assoc], ?_⟩⟩
        have hl : (lotV fs).length = fs.length := List.length_map _
        rw [Nat.zero_add, hl, List.take_length]
  · rintro ρ S1 hJ
    rcases hJ with ⟨h0, _⟩ | ⟨_, T, z, rfl, rfl⟩
    · exact absurd h0 (by simp)
    refine ⟨ap_get hm, ?_⟩
    simp only [wp_ret, wp_stuck, wp_ifs, wp_newL, wp_var, wp_c, wp_op, wp_un, wp_tval, wp_tnot, wp_not, wp_nil, wp_cons, wp_tup, wp_lst, wp_dct, wp_call, wp_app, wp_append, wp_ixT, wp_ixL, wp_put, wp_sl, wp_pn, wp_ps, wp_slT, wp_addI, wp_addT, wp_sub, wp_mulAI, wp_mulAT, wp_mul, wp_div, wp_mod, wp_pow, wp_neg, wp_cmp, wp_eqI, wp_neI, wp_eqS, wp_neS, wp_is0', wp_not0', wp_isB, wp_notB, wp_lenT, wp_lenL, wp_tupT, wp_tupL, wp_lstT, ws_next, ws_brk, ws_cont, ws_seq, ws_expr, ws_ret, ws_retN, ws_set, ws_asg, ws_put, ws_raise, ws_if, ws_for1, wp_and, wp_or, wp_tand, wp_tor, wp_ifE, wp_chain, gSlot, wp_tru, wp_truI, wp_truB, wp_truT, wp_truL, wp_intB, wp_max, wp_min, ws_par2, ws_par3, ws_aug, wp_iadd, ws_chn, setN, wp_star, wp_seqT, wp_seqL, wp_slL, wp_addL, wp_boolL, wp_mulAL, wp_gcd, List.getElem?_cons_succ, List.getElem?_cons_zero, List.map_cons, List.map_nil, List.length_cons, List.length_nil, List.replicate_succ, List.replicate_zero, List.cons_append, List.nil_append, List.set_cons_succ, List.set_cons_zero, Option.some.injEq, exists_eq_left', Nat.reduceAdd, Nat.reduceSub, Nat.zero_add, Nat.add_zero, true_and, and_true, Vl.int.injEq, Vl.bl.injEq, Vl.loc.injEq, Vl.tup.injEq, exists_eq', exists_eq_left, Ob.lst.injEq, isS_non, isS_int, isS_tup, isS_bl, isS_loc, Bool.not_true, Bool.not_false, ws_ite]
    refine ⟨fun z => hE (by have := of_decide_eq_true z; omega) T, fun z => hQ (by have := of_decide_eq_false z; omega) T⟩
end LW
end Tw
end
section
set_option Elab.async false
set_option maxRecDepth 100000
set_option maxHeartbeats 3000000
set_option linter.all false
namespace Tw
namespace LW
open PySem L2
theorem fdiv_nat (a b : Nat) : (a : Int).fdiv (b : Int) = ((a / b : Nat) : Int) := by
  rw [Int.fdiv_eq_ediv_of_nonneg _ (by omega)]
  rfl
theorem fold_le {b : Int} : ∀ (ns : List Int) (n : Int), n ≤ b → (∀ x ∈ ns, x ≤ b) → ns.foldl max n ≤ b
  | [], n, h, _ => h
  | m :: ns, n, h, hs => fold_le ns (max n m) (Int.max_le.mpr ⟨h, hs m List.mem_cons_self⟩) fun x hx => hs x (List.mem_cons_of_mem _ hx)
theorem maxL_bd {b : Int} {ns : List Int} (h : ∀ x ∈ ns, x ≤ b) (h0 : 0 ≤ b) : maxL ns ≤ b := by
  cases ns with
  | nil => exact h0
  | cons n ns => exact fold_le ns n (h n List.mem_cons_self) fun x hx => h x (List.mem_cons_of_mem _ hx)
theorem intsM_of : ∀ ns : List Int, intsM (ns.map .int) = some ns
  | [] => rfl
  | n :: ns => by rw [List.map_cons]; unfold intsM; rw [intsM_of ns]
theorem fits_ok {fs : List Fan} (h : LotOk fs) {S : Store} {m n : Nat} (hm : S[m]? = some (.lst [.loc n])) (hn : S[n]? = some (.lst (lotV fs))) : Gw (r__law_fits [.loc m]) S (.bl (decide (lcmL fs ≤ 6))) := by
  refine wpg ?_
  unfold r__law_fits b__law_fits
  rw [wp_fn]
  simp only [wp_ret, wp_stuck, wp_ifs, wp_newL, wp_var, wp_c, wp_op, wp_un, wp_tval, wp_tnot, wp_not, wp_nil, wp_cons, wp_tup, wp_lst, wp_dct, wp_call, wp_app, wp_append, wp_ixT, wp_ixL, wp_put, wp_sl, wp_pn, wp_ps, wp_slT, wp_addI, wp_addT, wp_sub, wp_mulAI, wp_mulAT, wp_mul, wp_div, wp_mod, wp_pow, wp_neg, wp_cmp, wp_eqI, wp_neI, wp_eqS, wp_neS, wp_is0', wp_not0', wp_isB, wp_notB, wp_lenT, wp_lenL, wp_tupT, wp_tupL, wp_lstT, ws_next, ws_brk, ws_cont, ws_seq, ws_expr, ws_ret, ws_retN, ws_set, ws_asg, ws_put, ws_raise, ws_if, ws_for1, wp_and, wp_or, wp_tand, wp_tor, wp_ifE, wp_chain, gSlot, wp_tru, wp_truI, wp_truB, wp_truT, wp_truL, wp_intB, wp_max, wp_min, ws_par2, ws_par3, ws_aug, wp_iadd, ws_chn, setN, wp_star, wp_seqT, wp_seqL, wp_slL, wp_addL, wp_boolL, wp_mulAL, wp_gcd, List.getElem?_cons_succ, List.getElem?_cons_zero, List.map_cons, List.map_nil, List.length_cons, List.length_nil, List.replicate_succ, List.replicate_zero, List.cons_append, List.nil_append, List.set_cons_succ, List.set_cons_zero, Option.some.injEq, exists_eq_left', Nat.reduceAdd, Nat.reduceSub, Nat.zero_add, Nat.add_zero, true_and, and_true, Vl.int.injEq, Vl.bl.injEq, Vl.loc.injEq, Vl.tup.injEq, exists_eq', exists_eq_left, Ob.lst.injEq, isS_non, isS_int, isS_tup, isS_bl, isS_loc, Bool.not_true, Bool.not_false]
  have hlen : (lotV fs).length ≤ 4 := by unfold lotV; rw [List.length_map]; exact h.len
  refine (ws_forL (S1 := S) rfl hm).mpr ?_
  refine ws_loopL (fun i ρ S1 => (i = 0 ∧ S1 = S ∧ ρ = [some (.loc m), some (.int 1), none, none, none, none]) ∨ (i = 1 ∧ ∃ T z w, S1 = S ++ T ∧ ρ = [some (.loc m), some (.int (lcmL fs : Nat)), some (.loc n), z, none, w])) [.loc n] 0 _ _ (.inl ⟨rfl, rfl, rfl⟩) ?_ ?_
  · intro i x ρ S1 hx hJ
    have hi : i = 0 ∧ x = .loc n := by
      cases i with
      | zero => exact ⟨rfl, by simpa using hx.symm⟩
      | succ i => simp at hx
    obtain ⟨rfl, rfl⟩ := hi
    rcases hJ with ⟨_, rfl, rfl⟩ | ⟨h0, _⟩
    case inr => exact absurd h0 (by decide)
    refine ⟨hm, _, rfl, ?_⟩
    have d4 : decide (((lotV fs).length : Int) > 4) = false := decide_eq_false (by omega)
    simp only [wp_ret, wp_stuck, wp_ifs, wp_newL, wp_var, wp_c, wp_op, wp_un, wp_tval, wp_tnot, wp_not, wp_nil, wp_cons, wp_tup, wp_lst, wp_dct, wp_call, wp_app, wp_append, wp_ixT, wp_ixL, wp_put, wp_sl, wp_pn, wp_ps, wp_slT, wp_addI, wp_addT, wp_sub, wp_mulAI, wp_mulAT, wp_mul, wp_div, wp_mod, wp_pow, wp_neg, wp_cmp, wp_eqI, wp_neI, wp_eqS, wp_neS, wp_is0', wp_not0', wp_isB, wp_notB, wp_lenT, wp_lenL, wp_tupT, wp_tupL, wp_lstT, ws_next, ws_brk, ws_cont, ws_seq, ws_expr, ws_ret, ws_retN, ws_set, ws_asg, ws_put, ws_raise, ws_if, ws_for1, wp_and, wp_or, wp_tand, wp_tor, wp_ifE, wp_chain, gSlot, wp_tru, wp_truI, wp_truB, wp_truT, wp_truL, wp_intB, wp_max, wp_min, ws_par2, ws_par3, ws_aug, wp_iadd, ws_chn, setN, wp_star, wp_seqT, wp_seqL, wp_slL, wp_addL, wp_boolL, wp_mulAL, wp_gcd, List.getElem?_cons_succ, List.getElem?_cons_zero, List.map_cons, List.map_nil, List.length_cons, List.length_nil, List.replicate_succ, List.replicate_zero, List.cons_append, List.nil_append, List.set_cons_succ, List.set_cons_zero, Option.some.injEq, exists_eq_left', Nat.reduceAdd, Nat.reduceSub, Nat.zero_add, Nat.add_zero, true_and, and_true, Vl.int.injEq, Vl.bl.injEq, Vl.loc.injEq, Vl.tup.injEq, exists_eq', exists_eq_left, Ob.lst.injEq, isS_non, isS_int, isS_tup, isS_bl, isS_loc, Bool.not_true, Bool.not_false, hn, d4, wp_ite, ws_ite]
    refine ⟨(fun z => nomatch z), fun _ => ?_⟩
    refine (ws_forL (S1 := S1) rfl hn).mpr ?_
    refine ws_loopL (fun i ρ S' => ∃ T z w, S' = S1 ++ T ∧ ρ = [some (.loc m), some (.int (lcmL (fs.take i) : Nat)), some (.loc n), z, none, w]) (lotV fs) 0 _ _ ⟨[], _, _, (List.append_nil _).symm, rfl⟩ ?_ ?_
    · rintro i x ρ S' hx ⟨T, z, w, rfl, rfl⟩
      obtain ⟨f, hf, rfl⟩ := lot_get hx
      rw [Nat.zero_add]
      refine ⟨ap_get hn, _, rfl, ?_⟩
      have hfo := h.ok f (List.mem_of_getElem? hf)
      have b1 := take_bd h i
      have b2 := grain_bd hfo
      have g1 := fun U => lgrain_ok hfo U
      have hr := hfo.ray
      have hl := hfo.len
      have ha := hfo.a.2
      have hb := hfo.b.2
      have m1 : decide (maxL [f.a, f.b] > 12) = false := decide_eq_false (by have := maxL_bd (b := 12) (ns := [f.a, f.b]) (by simp; exact ⟨ha, hb⟩) (by decide); omega)
      unfold Fan.v at *
      simp only [wp_ret, wp_stuck, wp_ifs, wp_newL, wp_var, wp_c, wp_op, wp_un, wp_tval, wp_tnot, wp_not, wp_nil, wp_cons, wp_tup, wp_lst, wp_dct, wp_call, wp_app, wp_append, wp_ixT, wp_ixL, wp_put, wp_sl, wp_pn, wp_ps, wp_slT, wp_addI, wp_addT, wp_sub, wp_mulAI, wp_mulAT, wp_mul, wp_div, wp_mod, wp_pow, wp_neg, wp_cmp, wp_eqI, wp_neI, wp_eqS, wp_neS, wp_is0', wp_not0', wp_isB, wp_notB, wp_lenT, wp_lenL, wp_tupT, wp_tupL, wp_lstT, ws_next, ws_brk, ws_cont, ws_seq, ws_expr, ws_ret, ws_retN, ws_set, ws_asg, ws_put, ws_raise, ws_if, ws_for1, wp_and, wp_or, wp_tand, wp_tor, wp_ifE, wp_chain, gSlot, wp_tru, wp_truI, wp_truB, wp_truT, wp_truL, wp_intB, wp_max, wp_min, ws_par2, ws_par3, ws_aug, wp_iadd, ws_chn, setN, wp_star, wp_seqT, wp_seqL, wp_slL, wp_addL, wp_boolL, wp_mulAL, wp_gcd, List.getElem?_cons_succ, List.getElem?_cons_zero, List.map_cons, List.map_nil, List.length_cons, List.length_nil, List.replicate_succ, List.replicate_zero, List.cons_append, List.nil_append, List.set_cons_succ, List.set_cons_zero, Option.some.injEq, exists_eq_left', Nat.reduceAdd, Nat.reduceSub, Nat.zero_add, Nat.add_zero, true_and, and_true, Vl.int.injEq, Vl.bl.injEq, Vl.loc.injEq, Vl.tup.injEq, exists_eq', exists_eq_left, Ob.lst.injEq, isS_non, isS_int, isS_tup, isS_bl, isS_loc, Bool.not_true, Bool.not_false, at31, at32, wp_ite, ws_ite]
      refine (wp_bestST (ns := [f.a, f.b]) rfl (by simp)).mpr ?_
      simp only [wp_ret, wp_stuck, wp_ifs, wp_newL, wp_var, wp_c, wp_op, wp_un, wp_tval, wp_tnot, wp_not, wp_nil, wp_cons, wp_tup, wp_lst, wp_dct, wp_call, wp_app, wp_append, wp_ixT, wp_ixL, wp_put, wp_sl, wp_pn, wp_ps, wp_slT, wp_addI, wp_addT, wp_sub, wp_mulAI, wp_mulAT, wp_mul, wp_div, wp_mod, wp_pow, wp_neg, wp_cmp, wp_eqI, wp_neI, wp_eqS, wp_neS, wp_is0', wp_not0', wp_isB, wp_notB, wp_lenT, wp_lenL, wp_tupT, wp_tupL, wp_lstT, ws_next, ws_brk, ws_cont, ws_seq, ws_expr, ws_ret, ws_retN, ws_set, ws_asg, ws_put, ws_raise, ws_if, ws_for1, wp_and, wp_or, wp_tand, wp_tor, wp_ifE, wp_chain, gSlot, wp_tru, wp_truI, wp_truB, wp_truT, wp_truL, wp_intB, wp_max, wp_min, ws_par2, ws_par3, ws_aug, wp_iadd, ws_chn, setN, wp_star, wp_seqT, wp_seqL, wp_slL, wp_addL, wp_boolL, wp_mulAL, wp_gcd, List.getElem?_cons_succ, List.getElem?_cons_zero, List.map_cons, List.map_nil, List.length_cons, List.length_nil, List.replicate_succ, List.replicate_zero, List.cons_append, List.nil_append, List.set_cons_succ, List.set_cons_zero, Option.some.injEq, exists_eq_left', Nat.reduceAdd, Nat.reduceSub, Nat.zero_add, Nat.add_zero, true_and, and_true, Vl.int.injEq, Vl.bl.injEq, Vl.loc.injEq, Vl.tup.injEq, exists_eq', exists_eq_left, Ob.lst.injEq, isS_non, isS_int, isS_tup, isS_bl, isS_loc, Bool.not_true, Bool.not_false, m1]
      refine ⟨(fun z => nomatch z), fun _ => ⟨by decide, ?_⟩⟩
      refine wp_comp_map (fun x => match x with | .tup [.int p, .int q] => .int (max p q) | _ => .non) (wseq_T rfl) trivial (by rw [List.length_map]; exact Nat.le_trans hl (by decide)) (fun x hx U => ?_) fun U => ?_
      · obtain ⟨p, hp, rfl⟩ := List.mem_map.mp hx
        refine wpg ?_
        unfold rayV
        simp only [wp_ret, wp_stuck, wp_ifs, wp_newL, wp_var, wp_c, wp_op, wp_un, wp_tval, wp_tnot, wp_not, wp_nil, wp_cons, wp_tup, wp_lst, wp_dct, wp_call, wp_app, wp_append, wp_ixT, wp_ixL, wp_put, wp_sl, wp_pn, wp_ps, wp_slT, wp_addI, wp_addT, wp_sub, wp_mulAI, wp_mulAT, wp_mul, wp_div, wp_mod, wp_pow, wp_neg, wp_cmp, wp_eqI, wp_neI, wp_eqS, wp_neS, wp_is0', wp_not0', wp_isB, wp_notB, wp_lenT, wp_lenL, wp_tupT, wp_tupL, wp_lstT, ws_next, ws_brk, ws_cont, ws_seq, ws_expr, ws_ret, ws_retN, ws_set, ws_asg, ws_put, ws_raise, ws_if, ws_for1, wp_and, wp_or, wp_tand, wp_tor, wp_ifE, wp_chain, gSlot, wp_tru, wp_truI, wp_truB, wp_truT, wp_truL, wp_intB, wp_max, wp_min, ws_par2, ws_par3, ws_aug, wp_iadd, ws_chn, setN, wp_star, wp_seqT, wp_seqL, wp_slL, wp_addL, wp_boolL, wp_mulAL, wp_gcd, List.getElem?_cons_succ, List.getElem?_cons_zero, List.map_cons, List.map_nil, List.length_cons, List.length_nil, List.replicate_succ, List.replicate_zero, List.cons_append, List.nil_append, List.set_cons_succ, List.set_cons_zero, Option.some.injEq, exists_eq_left', Nat.reduceAdd, Nat.reduceSub, Nat.zero_add, Nat.add_zero, true_and, and_true, Vl.int.injEq, Vl.bl.injEq, Vl.loc.injEq, Vl.tup.injEq, exists_eq', exists_eq_left, Ob.lst.injEq, isS_non, isS_int, isS_tup, isS_bl, isS_loc, Bool.not_true, Bool.not_false]
        refine (wp_bestST (ns := [p.1, p.2]) rfl (by simp)).mpr ?_
        exact ⟨rfl, [], by simp⟩
      · have hz0 : (S1 ++ T ++ [Ob.lst [Vl.int 0]] ++ [Ob.lst ((f.rays.map rayV).map fun x => match x with | .tup [.int p, .int q] => Vl.int (max p q) | _ => .non)] ++ U)[(S1 ++ T).length]? = some (.lst [.int 0]) := ap_get (ap_get (by simp))
        have hz1 : (S1 ++ T ++ [Ob.lst [Vl.int 0]] ++ [Ob.lst ((f.rays.map rayV).map fun x => match x with | .tup [.int p, .int q] => Vl.int (max p q) | _ => .non)] ++ U)[(S1 ++ T ++ [Ob.lst [Vl.int 0]]).length]? = some (.lst ((f.rays.map fun p => max p.1 p.2).map .int)) := by
          rw [acc_get, List.map_map, List.map_map]
          rfl
        have hpre : ∃ V, S1 ++ T ++ [Ob.lst [Vl.int 0]] ++ [Ob.lst ((f.rays.map rayV).map fun x => match x with | .tup [.int p, .int q] => Vl.int (max p q) | _ => .non)] ++ U = S1 ++ V := by simp only [List.append_assoc]; exact ⟨_, rfl⟩
        generalize S1 ++ T ++ [Ob.lst [Vl.int 0]] ++ [Ob.lst ((f.rays.map rayV).map fun x => match x with | .tup [.int p, .int q] => Vl.int (max p q) | _ => .non)] ++ U = S3 at hz0 hz1 hpre ⊢
        obtain ⟨V, rfl⟩ := hpre
        refine wp_addL.mpr ⟨_, _, hz0, hz1, by rw [List.length_map, List.length_map]; exact Nat.le_trans (Nat.add_le_add_left hl 1) (by decide), ?_⟩
        have m2 : decide (maxL (0 :: f.rays.map fun p => max p.1 p.2) > 4) = false := decide_eq_false (by
          have := maxL_bd (b := 4) (ns := 0 :: f.rays.map fun p => max p.1 p.2) (fun x hx => by
            rcases List.mem_cons.mp hx with rfl | hx
            · decide
            · obtain ⟨p, hp, rfl⟩ := List.mem_map.mp hx
              obtain ⟨q1, q2, _⟩ := hr p hp
              exact Int.max_le.mpr ⟨q1.2, q2.2⟩) (by decide)
          omega)
        refine (wp_bestSL (ns := 0 :: f.rays.map fun p => max p.1 p.2) get_last (intsM_of (0 :: f.rays.map fun p => max p.1 p.2)) (by simp)).mpr ?_
        simp only [wp_ret, wp_stuck, wp_ifs, wp_newL, wp_var, wp_c, wp_op, wp_un, wp_tval, wp_tnot, wp_not, wp_nil, wp_cons, wp_tup, wp_lst, wp_dct, wp_call, wp_app, wp_append, wp_ixT, wp_ixL, wp_put, wp_sl, wp_pn, wp_ps, wp_slT, wp_addI, wp_addT, wp_sub, wp_mulAI, wp_mulAT, wp_mul, wp_div, wp_mod, wp_pow, wp_neg, wp_cmp, wp_eqI, wp_neI, wp_eqS, wp_neS, wp_is0', wp_not0', wp_isB, wp_notB, wp_lenT, wp_lenL, wp_tupT, wp_tupL, wp_lstT, ws_next, ws_brk, ws_cont, ws_seq, ws_expr, ws_ret, ws_retN, ws_set, ws_asg, ws_put, ws_raise, ws_if, ws_for1, wp_and, wp_or, wp_tand, wp_tor, wp_ifE, wp_chain, gSlot, wp_tru, wp_truI, wp_truB, wp_truT, wp_truL, wp_intB, wp_max, wp_min, ws_par2, ws_par3, ws_aug, wp_iadd, ws_chn, setN, wp_star, wp_seqT, wp_seqL, wp_slL, wp_addL, wp_boolL, wp_mulAL, wp_gcd, List.getElem?_cons_succ, List.getElem?_cons_zero, List.map_cons, List.map_nil, List.length_cons, List.length_nil, List.replicate_succ, List.replicate_zero, List.cons_append, List.nil_append, List.set_cons_succ, List.set_cons_zero, Option.some.injEq, exists_eq_left', Nat.reduceAdd, Nat.reduceSub, Nat.zero_add, Nat.add_zero, true_and, and_true, Vl.int.injEq, Vl.bl.injEq, Vl.loc.injEq, Vl.tup.injEq, exists_eq', exists_eq_left, Ob.lst.injEq, isS_non, isS_int, isS_tup, isS_bl, isS_loc, Bool.not_true, Bool.not_false, m2]
        refine ⟨(fun z => nomatch z), fun _ => ?_⟩
        rw [wp_of (g1 _)]
        have hd := divisor_ok (a := (lcmL (fs.take i) : Int)) (b := (grain f : Int)) (by omega) ⟨by omega, by omega⟩
        have l1 : ((lcmL (fs.take i) : Int)).natAbs.log2 < 40 := lgb (by rw [Int.natAbs_natCast]; exact Nat.lt_of_le_of_lt b1.2 (by decide)) (by decide)
        have l2 : ((grain f : Int)).natAbs.log2 < 40 := lgb (by rw [Int.natAbs_natCast]; exact Nat.lt_of_le_of_lt b2.2 (by decide)) (by decide)
        simp only [wp_ret, wp_stuck, wp_ifs, wp_newL, wp_var, wp_c, wp_op, wp_un, wp_tval, wp_tnot, wp_not, wp_nil, wp_cons, wp_tup, wp_lst, wp_dct, wp_call, wp_app, wp_append, wp_ixT, wp_ixL, wp_put, wp_sl, wp_pn, wp_ps, wp_slT, wp_addI, wp_addT, wp_sub, wp_mulAI, wp_mulAT, wp_mul, wp_div, wp_mod, wp_pow, wp_neg, wp_cmp, wp_eqI, wp_neI, wp_eqS, wp_neS, wp_is0', wp_not0', wp_isB, wp_notB, wp_lenT, wp_lenL, wp_tupT, wp_tupL, wp_lstT, ws_next, ws_brk, ws_cont, ws_seq, ws_expr, ws_ret, ws_retN, ws_set, ws_asg, ws_put, ws_raise, ws_if, ws_for1, wp_and, wp_or, wp_tand, wp_tor, wp_ifE, wp_chain, gSlot, wp_tru, wp_truI, wp_truB, wp_truT, wp_truL, wp_intB, wp_max, wp_min, ws_par2, ws_par3, ws_aug, wp_iadd, ws_chn, setN, wp_star, wp_seqT, wp_seqL, wp_slL, wp_addL, wp_boolL, wp_mulAL, wp_gcd, List.getElem?_cons_succ, List.getElem?_cons_zero, List.map_cons, List.map_nil, List.length_cons, List.length_nil, List.replicate_succ, List.replicate_zero, List.cons_append, List.nil_append, List.set_cons_succ, List.set_cons_zero, Option.some.injEq, exists_eq_left', Nat.reduceAdd, Nat.reduceSub, Nat.zero_add, Nat.add_zero, true_and, and_true, Vl.int.injEq, Vl.bl.injEq, Vl.loc.injEq, Vl.tup.injEq, exists_eq', exists_eq_left, Ob.lst.injEq, isS_non, isS_int, isS_tup, isS_bl, isS_loc, Bool.not_true, Bool.not_false, wp_of (hd _)]
        have gp : 0 < Nat.gcd (lcmL (fs.take i)) (grain f) := Nat.gcd_pos_of_pos_left _ b1.1
        have gl : Nat.gcd (lcmL (fs.take i)) (grain f) ≤ lcmL (fs.take i) := Nat.gcd_le_left _ b1.1
        simp only [Int.natAbs_natCast]
        refine ⟨by simp only [Int.natAbs_natCast] at l1 l2; omega, ⟨by omega, ?_⟩, V ++ [Ob.lst (Vl.int 0 :: List.map Vl.int (List.map (fun p => max p.1 p.2) f.rays))], some (Vl.tup [Vl.int f.room, Vl.tup [Vl.int f.a, Vl.int f.b], Vl.tup (List.map rayV f.rays)]), some (.int (grain f : Nat)), List.append_assoc _ _ _, ?_⟩
        · have : (Nat.gcd (lcmL (fs.take i)) (grain f)).log2 < 40 := lgb (Nat.lt_of_le_of_lt (Nat.le_trans gl b1.2) (by decide)) (by decide)
          omega
        · rw [take_snoc hf, ← Int.natCast_mul, fdiv_nat]
          rfl
    · rintro ρ S' ⟨T, z, w, rfl, rfl⟩
      refine ⟨ap_get hn, .inr ⟨T, z, w, rfl, ?_⟩⟩
      have hl : (lotV fs).length = fs.length := List.length_map _
      rw [Nat.zero_add, hl, List.take_length]
  · rintro ρ S1 hJ
    rcases hJ with ⟨h0, _⟩ | ⟨_, T, z, w, rfl, rfl⟩
    · exact absurd h0 (by simp)
    refine ⟨ap_get hm, ?_⟩
    simp only [wp_ret, wp_stuck, wp_ifs, wp_newL, wp_var, wp_c, wp_op, wp_un, wp_tval, wp_tnot, wp_not, wp_nil, wp_cons, wp_tup, wp_lst, wp_dct, wp_call, wp_app, wp_append, wp_ixT, wp_ixL, wp_put, wp_sl, wp_pn, wp_ps, wp_slT, wp_addI, wp_addT, wp_sub, wp_mulAI, wp_mulAT, wp_mul, wp_div, wp_mod, wp_pow, wp_neg, wp_cmp, wp_eqI, wp_neI, wp_eqS, wp_neS, wp_is0', wp_not0', wp_isB, wp_notB, wp_lenT, wp_lenL, wp_tupT, wp_tupL, wp_lstT, ws_next, ws_brk, ws_cont, ws_seq, ws_expr, ws_ret, ws_retN, ws_set, ws_asg, ws_put, ws_raise, ws_if, ws_for1, wp_and, wp_or, wp_tand, wp_tor, wp_ifE, wp_chain, gSlot, wp_tru, wp_truI, wp_truB, wp_truT, wp_truL, wp_intB, wp_max, wp_min, ws_par2, ws_par3, ws_aug, wp_iadd, ws_chn, setN, wp_star, wp_seqT, wp_seqL, wp_slL, wp_addL, wp_boolL, wp_mulAL, wp_gcd, List.getElem?_cons_succ, List.getElem?_cons_zero, List.map_cons, List.map_nil, List.length_cons, List.length_nil, List.replicate_succ, List.replicate_zero, List.cons_append, List.nil_append, List.set_cons_succ, List.set_cons_zero, Option.some.injEq, exists_eq_left', Nat.reduceAdd, Nat.reduceSub, Nat.zero_add, Nat.add_zero, true_and, and_true, Vl.int.injEq, Vl.bl.injEq, Vl.loc.injEq, Vl.tup.injEq, exists_eq', exists_eq_left, Ob.lst.injEq, isS_non, isS_int, isS_tup, isS_bl, isS_loc, Bool.not_true, Bool.not_false]
    exact ⟨by congr 1; exact propext ⟨fun h => by omega, fun h => by omega⟩, T, rfl⟩
end LW
end Tw
end
section
set_option Elab.async false
set_option maxRecDepth 100000
set_option maxHeartbeats 3000000
set_option linter.all false
namespace Tw
namespace LW
open PySem L2
def keyI (f : Fan) : List Int := [f.a + f.b, f.a, f.room]
def standV (f : Fan) : Vl := .tup [.int f.room, .int f.a, .int f.b]
theorem key_ok3 {f : Fan} (h : f.Ok) : ok3 (keyI f) = true := by
  have h1 := h.a; have h2 := h.b; have h3 := h.room
  unfold ok3 keyI
  simp only [List.length_cons, List.length_nil, List.all_cons, List.all_nil, Bool.and_eq_true, decide_eq_true_eq, Bool.and_true]
  refine ⟨by decide, ?_, ?_, ?_⟩ <;> omega
theorem keys_ok3 {fs : List Fan} (h : LotOk fs) : ∀ k ∈ fs.map keyI, ok3 k = true := fun k hk => by
  obtain ⟨f, hf, rfl⟩ := List.mem_map.mp hk
  exact key_ok3 (h.ok f hf)
theorem ltI_code {x y : List Int} (hx : ok3 x = true) (hy : ok3 y = true) : ltI x y = decide (TS.code 64 x < TS.code 64 y) := by
  unfold ok3 at hx hy
  simp only [Bool.and_eq_true, decide_eq_true_eq, List.all_eq_true] at hx hy
  obtain ⟨la, ba⟩ := hx
  obtain ⟨lb, bb⟩ := hy
  match x, y, la, lb with
  | [a1, a2, a3], [b1, b2, b3], _, _ =>
    have := ba a1 (by simp); have := ba a2 (by simp); have := ba a3 (by simp)
    have := bb b1 (by simp); have := bb b2 (by simp); have := bb b3 (by simp)
    have e : ltI [a1, a2, a3] [b1, b2, b3] = if a1 = b1 then (if a2 = b2 then (if a3 = b3 then false else decide (a3 < b3)) else decide (a2 < b2)) else decide (a1 < b1) := by
      show PySem.SeqAt.firstLt _ _ _ [0, 1, 2] = _
      unfold PySem.SeqAt.firstLt PySem.SeqAt.firstLt PySem.SeqAt.firstLt PySem.SeqAt.firstLt
      simp
    rw [e]
    simp only [TS.code, List.length_cons, List.length_nil]
    by_cases h1 : a1 = b1
    · rw [if_pos h1]
      by_cases h2 : a2 = b2
      · rw [if_pos h2]
        by_cases h3 : a3 = b3
        · rw [if_pos h3]; symm; apply decide_eq_false; omega
        · rw [if_neg h3]; congr 1; apply propext; omega
      · rw [if_neg h2]; congr 1; apply propext; omega
    · rw [if_neg h1]; congr 1; apply propext; omega
theorem best_code {ks : List (List Int)} (h : ∀ k ∈ ks, ok3 k = true) : ∀ m, m < ks.length → argBest (fun i j => ltI (ks.getD i []) (ks.getD j [])) m = argBest (fun i j => decide (TS.code 64 (ks.getD i []) < TS.code 64 (ks.getD j []))) m
  | 0, _ => rfl
  | m + 1, hm => by
    have ih := best_code h m (by omega)
    have hg : ∀ i, i < ks.length → ok3 (ks.getD i []) = true := fun i hi => h _ (by rw [List.getD_eq_getElem?_getD, List.getElem?_eq_getElem hi]; exact List.getElem_mem hi)
    have hle := argBest_le (fun i j => decide (TS.code 64 (ks.getD i []) < TS.code 64 (ks.getD j []))) m
    show (if ltI (ks.getD (m + 1) []) (ks.getD (argBest _ m) []) = true then m + 1 else argBest _ m) = (if decide (TS.code 64 (ks.getD (m + 1) []) < TS.code 64 (ks.getD (argBest _ m) [])) = true then m + 1 else argBest _ m)
    rw [ih, ltI_code (hg _ hm) (hg _ (by omega))]
theorem best_least {ks : List (List Int)} (h : ∀ k ∈ ks, ok3 k = true) (h0 : ks ≠ []) : bestAt ks < ks.length ∧ ∀ k ∈ ks, TS.code 64 (ks.getD (bestAt ks) []) ≤ TS.code 64 k := by
  have hp : 0 < ks.length := List.length_pos_iff.mpr h0
  have e : bestAt ks = argBest (fun i j => decide (TS.code 64 (ks.getD i []) < TS.code 64 (ks.getD j []))) (ks.length - 1) := best_code h _ (by omega)
  obtain ⟨h1, h2⟩ := argBest_lt (fun i => TS.code 64 (ks.getD i [])) (ks.length - 1)
  rw [← e] at h1 h2
  refine ⟨by omega, fun k hk => ?_⟩
  obtain ⟨i, hi, rfl⟩ := List.getElem_of_mem hk
  have := h2 i (by omega)
  rw [show ks.getD i [] = ks[i] by rw [List.getD_eq_getElem?_getD, List.getElem?_eq_getElem hi]; rfl] at this
  exact this
theorem sort_head {ks : List (List Int)} (h : ∀ k ∈ ks, ok3 k = true) (h0 : ks ≠ []) : ∃ t, sortC ks = ks.getD (bestAt ks) [] :: t := by
  obtain ⟨h1, h2⟩ := best_least h h0
  have pm := sortC_perm ks
  have pw := sortC_pw ks
  cases hs : sortC ks with
  | nil => rw [hs] at pm; exact absurd pm.symm.eq_nil h0
  | cons x t =>
    rw [hs] at pm pw
    have hx : x ∈ ks := pm.mem_iff.mp List.mem_cons_self
    have hb : ks.getD (bestAt ks) [] ∈ ks := by rw [List.getD_eq_getElem?_getD, List.getElem?_eq_getElem h1]; exact List.getElem_mem h1
    have hc : TS.code 64 x ≤ TS.code 64 (ks.getD (bestAt ks) []) := by
      rcases List.mem_cons.mp (pm.mem_iff.mpr hb) with e | e
      · rw [e]; exact Int.le_refl _
      · exact (List.pairwise_cons.mp pw).1 _ e
    have := ok3_inj (h x hx) (h _ hb) (Int.le_antisymm hc (h2 x hx))
    exact ⟨t, by rw [this]⟩
def leastV (fs : List Fan) : Vl := if fs.isEmpty = true then .non else (fs.map standV).getD (bestAt (fs.map keyI)) .non
theorem order_ok (f : Fan) (S : Store) : r_order_of [standV f] S = some (.ok (.tup ((keyI f).map .int)) S) := by
  refine wpe ?_
  unfold r_order_of b_order_of standV
  rw [wp_fn]
  simp only [wp_ret, wp_stuck, wp_ifs, wp_newL, wp_var, wp_c, wp_op, wp_un, wp_tval, wp_tnot, wp_not, wp_nil, wp_cons, wp_tup, wp_lst, wp_dct, wp_call, wp_app, wp_append, wp_ixT, wp_ixL, wp_put, wp_sl, wp_pn, wp_ps, wp_slT, wp_addI, wp_addT, wp_sub, wp_mulAI, wp_mulAT, wp_mul, wp_div, wp_mod, wp_pow, wp_neg, wp_cmp, wp_eqI, wp_neI, wp_eqS, wp_neS, wp_is0', wp_not0', wp_isB, wp_notB, wp_lenT, wp_lenL, wp_tupT, wp_tupL, wp_lstT, ws_next, ws_brk, ws_cont, ws_seq, ws_expr, ws_ret, ws_retN, ws_set, ws_asg, ws_put, ws_raise, ws_if, ws_for1, wp_and, wp_or, wp_tand, wp_tor, wp_ifE, wp_chain, gSlot, wp_tru, wp_truI, wp_truB, wp_truT, wp_truL, wp_intB, wp_max, wp_min, ws_par2, ws_par3, ws_aug, wp_iadd, ws_chn, setN, wp_star, wp_seqT, wp_seqL, wp_slL, wp_addL, wp_boolL, wp_mulAL, wp_gcd, List.getElem?_cons_succ, List.getElem?_cons_zero, List.map_cons, List.map_nil, List.length_cons, List.length_nil, List.replicate_succ, List.replicate_zero, List.cons_append, List.nil_append, List.set_cons_succ, List.set_cons_zero, Option.some.injEq, exists_eq_left', Nat.reduceAdd, Nat.reduceSub, Nat.zero_add, Nat.add_zero, true_and, and_true, Vl.int.injEq, Vl.bl.injEq, Vl.loc.injEq, Vl.tup.injEq, exists_eq', exists_eq_left, Ob.lst.injEq, isS_non, isS_int, isS_tup, isS_bl, isS_loc, Bool.not_true, Bool.not_false]
  refine ⟨_, rfl, ?_⟩
  simp only [wp_ret, wp_stuck, wp_ifs, wp_newL, wp_var, wp_c, wp_op, wp_un, wp_tval, wp_tnot, wp_not, wp_nil, wp_cons, wp_tup, wp_lst, wp_dct, wp_call, wp_app, wp_append, wp_ixT, wp_ixL, wp_put, wp_sl, wp_pn, wp_ps, wp_slT, wp_addI, wp_addT, wp_sub, wp_mulAI, wp_mulAT, wp_mul, wp_div, wp_mod, wp_pow, wp_neg, wp_cmp, wp_eqI, wp_neI, wp_eqS, wp_neS, wp_is0', wp_not0', wp_isB, wp_notB, wp_lenT, wp_lenL, wp_tupT, wp_tupL, wp_lstT, ws_next, ws_brk, ws_cont, ws_seq, ws_expr, ws_ret, ws_retN, ws_set, ws_asg, ws_put, ws_raise, ws_if, ws_for1, wp_and, wp_or, wp_tand, wp_tor, wp_ifE, wp_chain, gSlot, wp_tru, wp_truI, wp_truB, wp_truT, wp_truL, wp_intB, wp_max, wp_min, ws_par2, ws_par3, ws_aug, wp_iadd, ws_chn, setN, wp_star, wp_seqT, wp_seqL, wp_slL, wp_addL, wp_boolL, wp_mulAL, wp_gcd, List.getElem?_cons_succ, List.getElem?_cons_zero, List.map_cons, List.map_nil, List.length_cons, List.length_nil, List.replicate_succ, List.replicate_zero, List.cons_append, List.nil_append, List.set_cons_succ, List.set_cons_zero, Option.some.injEq, exists_eq_left', Nat.reduceAdd, Nat.reduceSub, Nat.zero_add, Nat.add_zero, true_and, and_true, Vl.int.injEq, Vl.bl.injEq, Vl.loc.injEq, Vl.tup.injEq, exists_eq', exists_eq_left, Ob.lst.injEq, isS_non, isS_int, isS_tup, isS_bl, isS_loc, Bool.not_true, Bool.not_false]
  exact ⟨by show 3 ≤ line; decide, rfl⟩
theorem keyF_ok (f : Fan) : keyF r_order_of (standV f) = some (keyI f) := by
  unfold keyF standV
  dsimp only
  have := order_ok f []
  unfold standV at this
  rw [this]
  rfl
theorem keysF_ok : ∀ fs : List Fan, keysF r_order_of (fs.map standV) = some (fs.map keyI)
  | [] => rfl
  | f :: fs => by
    rw [List.map_cons]
    unfold keysF
    rw [keyF_ok, keysF_ok fs]
    rfl
theorem wp_minK {r : List Vl → M Vl} {n : Nat} {d : Vl} {xs : List Vl} {ks : List (List Int)} {S : Store} {R : Vl → Store → Prop} {E : Str → Store → Prop} (h : S[n]? = some (.lst xs)) (hk : keysF r xs = some ks) : Wp (bMinK r (.loc n) d) S R E ↔ R (if xs.isEmpty = true then d else xs.getD (bestAt ks) .non) S := by
  have e : bMinK r (.loc n) d S = some (.ok (if xs.isEmpty = true then d else xs.getD (bestAt ks) .non) S) := by
    unfold bMinK
    simp only [bnd, getL, h, hk]
    split <;> rfl
  unfold Wp
  rw [e]
theorem vseq_L {fi : Ev} {n : Nat} {ρ : Rho} {S S1 : Store} {vs : List Vl} (h : fi ρ S = some (.ok (.loc n) S1)) (hn : S1[n]? = some (.lst vs)) : vSeq fi ρ S = some (.ok ([(n, .lst vs)], vs) S1) := by
  unfold vSeq
  rw [bnd_of h]
  simp only [seqM, hn]
theorem least_in_ok {fs : List Fan} (h : LotOk fs) {S : Store} {n : Nat} (hn : S[n]? = some (.lst (lotV fs))) : Gw (r_least_in [.loc n]) S (leastV fs) := by
  refine wpg ?_
  unfold r_least_in b_least_in
  rw [wp_fn]
  have hlen : (lotV fs).length ≤ 4 := by unfold lotV; rw [List.length_map]; exact h.len
  simp only [wp_ret, wp_stuck, wp_ifs, wp_newL, wp_var, wp_c, wp_op, wp_un, wp_tval, wp_tnot, wp_not, wp_nil, wp_cons, wp_tup, wp_lst, wp_dct, wp_call, wp_app, wp_append, wp_ixT, wp_ixL, wp_put, wp_sl, wp_pn, wp_ps, wp_slT, wp_addI, wp_addT, wp_sub, wp_mulAI, wp_mulAT, wp_mul, wp_div, wp_mod, wp_pow, wp_neg, wp_cmp, wp_eqI, wp_neI, wp_eqS, wp_neS, wp_is0', wp_not0', wp_isB, wp_notB, wp_lenT, wp_lenL, wp_tupT, wp_tupL, wp_lstT, ws_next, ws_brk, ws_cont, ws_seq, ws_expr, ws_ret, ws_retN, ws_set, ws_asg, ws_put, ws_raise, ws_if, ws_for1, wp_and, wp_or, wp_tand, wp_tor, wp_ifE, wp_chain, gSlot, wp_tru, wp_truI, wp_truB, wp_truT, wp_truL, wp_intB, wp_max, wp_min, ws_par2, ws_par3, ws_aug, wp_iadd, ws_chn, setN, wp_star, wp_seqT, wp_seqL, wp_slL, wp_addL, wp_boolL, wp_mulAL, wp_gcd, List.getElem?_cons_succ, List.getElem?_cons_zero, List.map_cons, List.map_nil, List.length_cons, List.length_nil, List.replicate_succ, List.replicate_zero, List.cons_append, List.nil_append, List.set_cons_succ, List.set_cons_zero, Option.some.injEq, exists_eq_left', Nat.reduceAdd, Nat.reduceSub, Nat.zero_add, Nat.add_zero, true_and, and_true, Vl.int.injEq, Vl.bl.injEq, Vl.loc.injEq, Vl.tup.injEq, exists_eq', exists_eq_left, Ob.lst.injEq, isS_non, isS_int, isS_tup, isS_bl, isS_loc, Bool.not_true, Bool.not_false]
  unfold eMinK
  rw [wp_bnd]
  refine wp_compw_map (fun x => match x with | .tup [p, q, w] => [some (.loc n), some p, some q, some w] | _ => []) (fun x => match x with | .tup [p, .tup bs, _] => .tup (p :: bs) | _ => .non) (vseq_L rfl hn) (okL_one hn) (Nat.le_trans hlen (by decide)) (fun x hx => ?_) (fun x hx U => ?_) fun T => ?_
  · obtain ⟨f, hf, rfl⟩ := List.mem_map.mp hx
    rfl
  · obtain ⟨f, hf, rfl⟩ := List.mem_map.mp hx
    refine wpg ?_
    unfold Fan.v
    simp only [wp_ret, wp_stuck, wp_ifs, wp_newL, wp_var, wp_c, wp_op, wp_un, wp_tval, wp_tnot, wp_not, wp_nil, wp_cons, wp_tup, wp_lst, wp_dct, wp_call, wp_app, wp_append, wp_ixT, wp_ixL, wp_put, wp_sl, wp_pn, wp_ps, wp_slT, wp_addI, wp_addT, wp_sub, wp_mulAI, wp_mulAT, wp_mul, wp_div, wp_mod, wp_pow, wp_neg, wp_cmp, wp_eqI, wp_neI, wp_eqS, wp_neS, wp_is0', wp_not0', wp_isB, wp_notB, wp_lenT, wp_lenL, wp_tupT, wp_tupL, wp_lstT, ws_next, ws_brk, ws_cont, ws_seq, ws_expr, ws_ret, ws_retN, ws_set, ws_asg, ws_put, ws_raise, ws_if, ws_for1, wp_and, wp_or, wp_tand, wp_tor, wp_ifE, wp_chain, gSlot, wp_tru, wp_truI, wp_truB, wp_truT, wp_truL, wp_intB, wp_max, wp_min, ws_par2, ws_par3, ws_aug, wp_iadd, ws_chn, setN, wp_star, wp_seqT, wp_seqL, wp_slL, wp_addL, wp_boolL, wp_mulAL, wp_gcd, List.getElem?_cons_succ, List.getElem?_cons_zero, List.map_cons, List.map_nil, List.length_cons, List.length_nil, List.replicate_succ, List.replicate_zero, List.cons_append, List.nil_append, List.set_cons_succ, List.set_cons_zero, Option.some.injEq, exists_eq_left', Nat.reduceAdd, Nat.reduceSub, Nat.zero_add, Nat.add_zero, true_and, and_true, Vl.int.injEq, Vl.bl.injEq, Vl.loc.injEq, Vl.tup.injEq, exists_eq', exists_eq_left, Ob.lst.injEq, isS_non, isS_int, isS_tup, isS_bl, isS_loc, Bool.not_true, Bool.not_false]
    exact ⟨by show 3 ≤ line; decide, [], by simp⟩
  · rw [wp_bnd]
    have e : (lotV fs).map (fun x => match x with | .tup [p, .tup bs, _] => Vl.tup (p :: bs) | _ => .non) = fs.map standV := by
      unfold lotV
      rw [List.map_map]
      rfl
    rw [e]
    simp only [wp_ret, wp_stuck, wp_ifs, wp_newL, wp_var, wp_c, wp_op, wp_un, wp_tval, wp_tnot, wp_not, wp_nil, wp_cons, wp_tup, wp_lst, wp_dct, wp_call, wp_app, wp_append, wp_ixT, wp_ixL, wp_put, wp_sl, wp_pn, wp_ps, wp_slT, wp_addI, wp_addT, wp_sub, wp_mulAI, wp_mulAT, wp_mul, wp_div, wp_mod, wp_pow, wp_neg, wp_cmp, wp_eqI, wp_neI, wp_eqS, wp_neS, wp_is0', wp_not0', wp_isB, wp_notB, wp_lenT, wp_lenL, wp_tupT, wp_tupL, wp_lstT, ws_next, ws_brk, ws_cont, ws_seq, ws_expr, ws_ret, ws_retN, ws_set, ws_asg, ws_put, ws_raise, ws_if, ws_for1, wp_and, wp_or, wp_tand, wp_tor, wp_ifE, wp_chain, gSlot, wp_tru, wp_truI, wp_truB, wp_truT, wp_truL, wp_intB, wp_max, wp_min, ws_par2, ws_par3, ws_aug, wp_iadd, ws_chn, setN, wp_star, wp_seqT, wp_seqL, wp_slL, wp_addL, wp_boolL, wp_mulAL, wp_gcd, List.getElem?_cons_succ, List.getElem?_cons_zero, List.map_cons, List.map_nil, List.length_cons, List.length_nil, List.replicate_succ, List.replicate_zero, List.cons_append, List.nil_append, List.set_cons_succ, List.set_cons_zero, Option.some.injEq, exists_eq_left', Nat.reduceAdd, Nat.reduceSub, Nat.zero_add, Nat.add_zero, true_and, and_true, Vl.int.injEq, Vl.bl.injEq, Vl.loc.injEq, Vl.tup.injEq, exists_eq', exists_eq_left, Ob.lst.injEq, isS_non, isS_int, isS_tup, isS_bl, isS_loc, Bool.not_true, Bool.not_false]
    refine (wp_minK acc_get (keysF_ok fs)).mpr ⟨?_, _, List.append_assoc _ _ _⟩
    unfold leastV
    rw [List.isEmpty_map]
end LW
end Tw
end
section
set_option Elab.async false
set_option maxRecDepth 100000
set_option maxHeartbeats 3000000
set_option linter.all false
namespace Tw
namespace LW
open PySem L2
theorem key_ok (f : Fan) (S : Store) (hs : (f.a.natAbs.log2 < 40) ∧ f.b.natAbs.log2 < 40) : r__law_key [standV f] S = some (.ok (tupV (keyI f)) S) := by
  refine wpe ?_
  unfold r__law_key b__law_key standV
  rw [wp_fn]
  simp only [wp_ret, wp_stuck, wp_ifs, wp_newL, wp_var, wp_c, wp_op, wp_un, wp_tval, wp_tnot, wp_not, wp_nil, wp_cons, wp_tup, wp_lst, wp_dct, wp_call, wp_app, wp_append, wp_ixT, wp_ixL, wp_put, wp_sl, wp_pn, wp_ps, wp_slT, wp_addI, wp_addT, wp_sub, wp_mulAI, wp_mulAT, wp_mul, wp_div, wp_mod, wp_pow, wp_neg, wp_cmp, wp_eqI, wp_neI, wp_eqS, wp_neS, wp_is0', wp_not0', wp_isB, wp_notB, wp_lenT, wp_lenL, wp_tupT, wp_tupL, wp_lstT, ws_next, ws_brk, ws_cont, ws_seq, ws_expr, ws_ret, ws_retN, ws_set, ws_asg, ws_put, ws_raise, ws_if, ws_for1, wp_and, wp_or, wp_tand, wp_tor, wp_ifE, wp_chain, gSlot, wp_tru, wp_truI, wp_truB, wp_truT, wp_truL, wp_intB, wp_max, wp_min, ws_par2, ws_par3, ws_aug, wp_iadd, ws_chn, setN, wp_star, wp_seqT, wp_seqL, wp_slL, wp_addL, wp_boolL, wp_mulAL, wp_gcd, List.getElem?_cons_succ, List.getElem?_cons_zero, List.map_cons, List.map_nil, List.length_cons, List.length_nil, List.replicate_succ, List.replicate_zero, List.cons_append, List.nil_append, List.set_cons_succ, List.set_cons_zero, Option.some.injEq, exists_eq_left', Nat.reduceAdd, Nat.reduceSub, Nat.zero_add, Nat.add_zero, true_and, and_true, Vl.int.injEq, Vl.bl.injEq, Vl.loc.injEq, Vl.tup.injEq, exists_eq', exists_eq_left, Ob.lst.injEq, isS_non, isS_int, isS_tup, isS_bl, isS_loc, Bool.not_true, Bool.not_false, at30, at31, at32]
  and_intros
  all_goals first | rfl | (show 3 ≤ line; decide) | omega
theorem wp_sort3 {n : Nat} {ks : List (List Int)} {S : Store} {R : Vl → Store → Prop} {E : Str → Store → Prop} (h : S[n]? = some (.lst (ks.map tupV))) (ho : ∀ k ∈ ks, ok3 k = true) (hl : ks.length < 64) : Wp (bSort3 [.loc n]) S R E ↔ R (.loc S.length) (S ++ [.lst ((sortC ks).map tupV)]) := by
  have eg : (ks.map tupV).map tupG = ks := by
    rw [List.map_map]
    conv => rhs; rw [← List.map_id ks]
    exact List.map_congr_left fun k _ => tupG_V k
  have e1 : (ks.map tupV).all isV = true := by
    rw [List.all_eq_true]
    intro x hx
    obtain ⟨k, hk, rfl⟩ := List.mem_map.mp hx
    show (intsM (k.map .int)).isSome = true
    rw [intsM_of]; rfl
  have e : bSort3 [.loc n] S = newL ((sortC ks).map tupV) S := by
    unfold bSort3
    simp only [bnd, getL, h]
    rw [eg, if_pos ⟨e1, List.all_eq_true.mpr ho, by rw [List.length_map]; exact hl⟩]
  have e2 : Wp (bSort3 [.loc n]) S R E = Wp (newL ((sortC ks).map tupV)) S R E := by unfold Wp; rw [e]
  rw [e2]
  refine wp_newL.trans ⟨fun z => z.2, fun z => ⟨?_, z⟩⟩
  rw [List.length_map, (sortC_perm ks).length_eq]
  exact Nat.le_trans (Nat.le_of_lt hl) (by decide)
theorem at_head (x : Vl) (xs : List Vl) : atI (x :: xs) 0 = some x := by
  unfold atI ixN
  simp
theorem stand_of {f : Fan} : Vl.tup [.int f.room, .int f.a, .int (f.a + f.b - f.a)] = standV f := by
  unfold standV
  rw [show f.a + f.b - f.a = f.b by omega]
theorem stand_itr (fs : List Fan) : ∀ x ∈ fs.map standV, itr 2 x = true := fun x hx => by
  obtain ⟨f, _, rfl⟩ := List.mem_map.mp hx
  rfl
theorem lleast_ok {fs : List Fan} (h : LotOk fs) {S : Store} {n : Nat} (hn : S[n]? = some (.lst (fs.map standV))) : Gw (r__law_least [.loc n]) S (leastV fs) := by
  refine wpg ?_
  unfold r__law_least b__law_least
  rw [wp_fn]
  have hl := h.len
  simp only [wp_ret, wp_stuck, wp_ifs, wp_newL, wp_var, wp_c, wp_op, wp_un, wp_tval, wp_tnot, wp_not, wp_nil, wp_cons, wp_tup, wp_lst, wp_dct, wp_call, wp_app, wp_append, wp_ixT, wp_ixL, wp_put, wp_sl, wp_pn, wp_ps, wp_slT, wp_addI, wp_addT, wp_sub, wp_mulAI, wp_mulAT, wp_mul, wp_div, wp_mod, wp_pow, wp_neg, wp_cmp, wp_eqI, wp_neI, wp_eqS, wp_neS, wp_is0', wp_not0', wp_isB, wp_notB, wp_lenT, wp_lenL, wp_tupT, wp_tupL, wp_lstT, ws_next, ws_brk, ws_cont, ws_seq, ws_expr, ws_ret, ws_retN, ws_set, ws_asg, ws_put, ws_raise, ws_if, ws_for1, wp_and, wp_or, wp_tand, wp_tor, wp_ifE, wp_chain, gSlot, wp_tru, wp_truI, wp_truB, wp_truT, wp_truL, wp_intB, wp_max, wp_min, ws_par2, ws_par3, ws_aug, wp_iadd, ws_chn, setN, wp_star, wp_seqT, wp_seqL, wp_slL, wp_addL, wp_boolL, wp_mulAL, wp_gcd, List.getElem?_cons_succ, List.getElem?_cons_zero, List.map_cons, List.map_nil, List.length_cons, List.length_nil, List.replicate_succ, List.replicate_zero, List.cons_append, List.nil_append, List.set_cons_succ, List.set_cons_zero, Option.some.injEq, exists_eq_left', Nat.reduceAdd, Nat.reduceSub, Nat.zero_add, Nat.add_zero, true_and, and_true, Vl.int.injEq, Vl.bl.injEq, Vl.loc.injEq, Vl.tup.injEq, exists_eq', exists_eq_left, Ob.lst.injEq, isS_non, isS_int, isS_tup, isS_bl, isS_loc, Bool.not_true, Bool.not_false]
  obtain ⟨b, e, hb⟩ := oEq_lst (k := 2) (S := S ++ [Ob.lst []]) (ap_get hn) get_last (stand_itr fs) (fun y hy => nomatch hy) (by decide)
  refine ⟨by decide, (wp_of e).mpr ⟨b, rfl, ?_⟩⟩
  rw [ws_ite]
  refine ⟨fun z => ?_, fun z => ?_⟩
  · have hz : fs = [] := by
      have := hb.mp z
      cases fs with
      | nil => rfl
      | cons f fs => cases this
    subst hz
    simp only [wp_ret, wp_stuck, wp_ifs, wp_newL, wp_var, wp_c, wp_op, wp_un, wp_tval, wp_tnot, wp_not, wp_nil, wp_cons, wp_tup, wp_lst, wp_dct, wp_call, wp_app, wp_append, wp_ixT, wp_ixL, wp_put, wp_sl, wp_pn, wp_ps, wp_slT, wp_addI, wp_addT, wp_sub, wp_mulAI, wp_mulAT, wp_mul, wp_div, wp_mod, wp_pow, wp_neg, wp_cmp, wp_eqI, wp_neI, wp_eqS, wp_neS, wp_is0', wp_not0', wp_isB, wp_notB, wp_lenT, wp_lenL, wp_tupT, wp_tupL, wp_lstT, ws_next, ws_brk, ws_cont, ws_seq, ws_expr, ws_ret, ws_retN, ws_set, ws_asg, ws_put, ws_raise, ws_if, ws_for1, wp_and, wp_or, wp_tand, wp_tor, wp_ifE, wp_chain, gSlot, wp_tru, wp_truI, wp_truB, wp_truT, wp_truL, wp_intB, wp_max, wp_min, ws_par2, ws_par3, ws_aug, wp_iadd, ws_chn, setN, wp_star, wp_seqT, wp_seqL, wp_slL, wp_addL, wp_boolL, wp_mulAL, wp_gcd, List.getElem?_cons_succ, List.getElem?_cons_zero, List.map_cons, List.map_nil, List.length_cons, List.length_nil, List.replicate_succ, List.replicate_zero, List.cons_append, List.nil_append, List.set_cons_succ, List.set_cons_zero, Option.some.injEq, exists_eq_left', Nat.reduceAdd, Nat.reduceSub, Nat.zero_add, Nat.add_zero, true_and, and_true, Vl.int.injEq, Vl.bl.injEq, Vl.loc.injEq, Vl.tup.injEq, exists_eq', exists_eq_left, Ob.lst.injEq, isS_non, isS_int, isS_tup, isS_bl, isS_loc, Bool.not_true, Bool.not_false]
    exact ⟨rfl, _, rfl⟩
  · have hz : fs ≠ [] := fun q => by
      subst q
      rw [hb.mpr rfl] at z
      cases z
    simp only [wp_ret, wp_stuck, wp_ifs, wp_newL, wp_var, wp_c, wp_op, wp_un, wp_tval, wp_tnot, wp_not, wp_nil, wp_cons, wp_tup, wp_lst, wp_dct, wp_call, wp_app, wp_append, wp_ixT, wp_ixL, wp_put, wp_sl, wp_pn, wp_ps, wp_slT, wp_addI, wp_addT, wp_sub, wp_mulAI, wp_mulAT, wp_mul, wp_div, wp_mod, wp_pow, wp_neg, wp_cmp, wp_eqI, wp_neI, wp_eqS, wp_neS, wp_is0', wp_not0', wp_isB, wp_notB, wp_lenT, wp_lenL, wp_tupT, wp_tupL, wp_lstT, ws_next, ws_brk, ws_cont, ws_seq, ws_expr, ws_ret, ws_retN, ws_set, ws_asg, ws_put, ws_raise, ws_if, ws_for1, wp_and, wp_or, wp_tand, wp_tor, wp_ifE, wp_chain, gSlot, wp_tru, wp_truI, wp_truB, wp_truT, wp_truL, wp_intB, wp_max, wp_min, ws_par2, ws_par3, ws_aug, wp_iadd, ws_chn, setN, wp_star, wp_seqT, wp_seqL, wp_slL, wp_addL, wp_boolL, wp_mulAL, wp_gcd, List.getElem?_cons_succ, List.getElem?_cons_zero, List.map_cons, List.map_nil, List.length_cons, List.length_nil, List.replicate_succ, List.replicate_zero, List.cons_append, List.nil_append, List.set_cons_succ, List.set_cons_zero, Option.some.injEq, exists_eq_left', Nat.reduceAdd, Nat.reduceSub, Nat.zero_add, Nat.add_zero, true_and, and_true, Vl.int.injEq, Vl.bl.injEq, Vl.loc.injEq, Vl.tup.injEq, exists_eq', exists_eq_left, Ob.lst.injEq, isS_non, isS_int, isS_tup, isS_bl, isS_loc, Bool.not_true, Bool.not_false]
    refine wp_comp_map (fun x => match x with | .tup [.int r, .int a, .int b] => tupV [a + b, a, r] | _ => .non) (wseq_L rfl (ap_get hn)) (ap_get hn) (by rw [List.length_map]; exact Nat.le_trans hl (by decide)) (fun x hx U => ?_) fun T => ?_
    · obtain ⟨f, hf, rfl⟩ := List.mem_map.mp hx
      have hfo := h.ok f hf
      refine wpg ?_
      simp only [wp_ret, wp_stuck, wp_ifs, wp_newL, wp_var, wp_c, wp_op, wp_un, wp_tval, wp_tnot, wp_not, wp_nil, wp_cons, wp_tup, wp_lst, wp_dct, wp_call, wp_app, wp_append, wp_ixT, wp_ixL, wp_put, wp_sl, wp_pn, wp_ps, wp_slT, wp_addI, wp_addT, wp_sub, wp_mulAI, wp_mulAT, wp_mul, wp_div, wp_mod, wp_pow, wp_neg, wp_cmp, wp_eqI, wp_neI, wp_eqS, wp_neS, wp_is0', wp_not0', wp_isB, wp_notB, wp_lenT, wp_lenL, wp_tupT, wp_tupL, wp_lstT, ws_next, ws_brk, ws_cont, ws_seq, ws_expr, ws_ret, ws_retN, ws_set, ws_asg, ws_put, ws_raise, ws_if, ws_for1, wp_and, wp_or, wp_tand, wp_tor, wp_ifE, wp_chain, gSlot, wp_tru, wp_truI, wp_truB, wp_truT, wp_truL, wp_intB, wp_max, wp_min, ws_par2, ws_par3, ws_aug, wp_iadd, ws_chn, setN, wp_star, wp_seqT, wp_seqL, wp_slL, wp_addL, wp_boolL, wp_mulAL, wp_gcd, List.getElem?_cons_succ, List.getElem?_cons_zero, List.map_cons, List.map_nil, List.length_cons, List.length_nil, List.replicate_succ, List.replicate_zero, List.cons_append, List.nil_append, List.set_cons_succ, List.set_cons_zero, Option.some.injEq, exists_eq_left', Nat.reduceAdd, Nat.reduceSub, Nat.zero_add, Nat.add_zero, true_and, and_true, Vl.int.injEq, Vl.bl.injEq, Vl.loc.injEq, Vl.tup.injEq, exists_eq', exists_eq_left, Ob.lst.injEq, isS_non, isS_int, isS_tup, isS_bl, isS_loc, Bool.not_true, Bool.not_false, wp_of (key_ok f _ ⟨lg3 (by have := hfo.a; omega), lg3 (by have := hfo.b; omega)⟩)]
      exact ⟨rfl, [], by simp⟩
    · have ek : (fs.map standV).map (fun x => match x with | .tup [.int r, .int a, .int b] => tupV [a + b, a, r] | _ => .non) = (fs.map keyI).map tupV := by
        rw [List.map_map, List.map_map]
        rfl
      rw [ek]
      refine (wp_sort3 acc_get (keys_ok3 h) (by rw [List.length_map]; omega)).mpr ?_
      obtain ⟨t, ht⟩ := sort_head (keys_ok3 h) (by simpa using hz)
      obtain ⟨bl, _⟩ := best_least (keys_ok3 h) (by simpa using hz)
      rw [List.length_map] at bl
      have hfm : fs[bestAt (fs.map keyI)] ∈ fs := List.getElem_mem bl
      have hfo := h.ok _ hfm
      have eh : (fs.map keyI).getD (bestAt (fs.map keyI)) [] = keyI fs[bestAt (fs.map keyI)] := by
        rw [List.getD_eq_getElem?_getD, List.getElem?_map, List.getElem?_eq_getElem bl]; rfl
      have el : leastV fs = standV fs[bestAt (fs.map keyI)] := by
        unfold leastV
        rw [if_neg (by rw [List.isEmpty_iff]; exact hz), List.getD_eq_getElem?_getD, List.getElem?_map, List.getElem?_eq_getElem bl]; rfl
      rw [eh] at ht
      rw [ht, el]
      generalize fs[bestAt (fs.map keyI)] = f at hfo
      refine wp_ixL.mpr ⟨_, get_last, tupV (keyI f), at_head _ _, ?_⟩
      unfold tupV keyI
      have := lg3 (i := f.a) (by have := hfo.a; omega)
      have := lg3 (i := f.a + f.b) (by have := hfo.a; have := hfo.b; omega)
      simp only [wp_ret, wp_stuck, wp_ifs, wp_newL, wp_var, wp_c, wp_op, wp_un, wp_tval, wp_tnot, wp_not, wp_nil, wp_cons, wp_tup, wp_lst, wp_dct, wp_call, wp_app, wp_append, wp_ixT, wp_ixL, wp_put, wp_sl, wp_pn, wp_ps, wp_slT, wp_addI, wp_addT, wp_sub, wp_mulAI, wp_mulAT, wp_mul, wp_div, wp_mod, wp_pow, wp_neg, wp_cmp, wp_eqI, wp_neI, wp_eqS, wp_neS, wp_is0', wp_not0', wp_isB, wp_notB, wp_lenT, wp_lenL, wp_tupT, wp_tupL, wp_lstT, ws_next, ws_brk, ws_cont, ws_seq, ws_expr, ws_ret, ws_retN, ws_set, ws_asg, ws_put, ws_raise, ws_if, ws_for1, wp_and, wp_or, wp_tand, wp_tor, wp_ifE, wp_chain, gSlot, wp_tru, wp_truI, wp_truB, wp_truT, wp_truL, wp_intB, wp_max, wp_min, ws_par2, ws_par3, ws_aug, wp_iadd, ws_chn, setN, wp_star, wp_seqT, wp_seqL, wp_slL, wp_addL, wp_boolL, wp_mulAL, wp_gcd, List.getElem?_cons_succ, List.getElem?_cons_zero, List.map_cons, List.map_nil, List.length_cons, List.length_nil, List.replicate_succ, List.replicate_zero, List.cons_append, List.nil_append, List.set_cons_succ, List.set_cons_zero, Option.some.injEq, exists_eq_left', Nat.reduceAdd, Nat.reduceSub, Nat.zero_add, Nat.add_zero, true_and, and_true, Vl.int.injEq, Vl.bl.injEq, Vl.loc.injEq, Vl.tup.injEq, exists_eq', exists_eq_left, Ob.lst.injEq, isS_non, isS_int, isS_tup, isS_bl, isS_loc, Bool.not_true, Bool.not_false, at30, at31, at32, stand_of]
      and_intros
      all_goals first | (show 3 ≤ line; decide) | omega | rfl | skip
      exact ⟨_, by simp only [List.append_assoc]; rfl⟩
theorem lleast_of_ok {fs : List Fan} (h : LotOk fs) {S : Store} {n : Nat} (hn : S[n]? = some (.lst (lotV fs))) : Gw (r__law_least_of [.loc n]) S (leastV fs) := by
  refine wpg ?_
  unfold r__law_least_of b__law_least_of
  rw [wp_fn]
  have hlen : (lotV fs).length ≤ 4 := by unfold lotV; rw [List.length_map]; exact h.len
  simp only [wp_ret, wp_stuck, wp_ifs, wp_newL, wp_var, wp_c, wp_op, wp_un, wp_tval, wp_tnot, wp_not, wp_nil, wp_cons, wp_tup, wp_lst, wp_dct, wp_call, wp_app, wp_append, wp_ixT, wp_ixL, wp_put, wp_sl, wp_pn, wp_ps, wp_slT, wp_addI, wp_addT, wp_sub, wp_mulAI, wp_mulAT, wp_mul, wp_div, wp_mod, wp_pow, wp_neg, wp_cmp, wp_eqI, wp_neI, wp_eqS, wp_neS, wp_is0', wp_not0', wp_isB, wp_notB, wp_lenT, wp_lenL, wp_tupT, wp_tupL, wp_lstT, ws_next, ws_brk, ws_cont, ws_seq, ws_expr, ws_ret, ws_retN, ws_set, ws_asg, ws_put, ws_raise, ws_if, ws_for1, wp_and, wp_or, wp_tand, wp_tor, wp_ifE, wp_chain, gSlot, wp_tru, wp_truI, wp_truB, wp_truT, wp_truL, wp_intB, wp_max, wp_min, ws_par2, ws_par3, ws_aug, wp_iadd, ws_chn, setN, wp_star, wp_seqT, wp_seqL, wp_slL, wp_addL, wp_boolL, wp_mulAL, wp_gcd, List.getElem?_cons_succ, List.getElem?_cons_zero, List.map_cons, List.map_nil, List.length_cons, List.length_nil, List.replicate_succ, List.replicate_zero, List.cons_append, List.nil_append, List.set_cons_succ, List.set_cons_zero, Option.some.injEq, exists_eq_left', Nat.reduceAdd, Nat.reduceSub, Nat.zero_add, Nat.add_zero, true_and, and_true, Vl.int.injEq, Vl.bl.injEq, Vl.loc.injEq, Vl.tup.injEq, exists_eq', exists_eq_left, Ob.lst.injEq, isS_non, isS_int, isS_tup, isS_bl, isS_loc, Bool.not_true, Bool.not_false]
  refine wp_comp_map (fun x => match x with | .tup [p, .tup bs, _] => .tup (p :: bs) | _ => .non) (wseq_L rfl hn) hn (Nat.le_trans hlen (by decide)) (fun x hx U => ?_) fun T => ?_
  · obtain ⟨f, hf, rfl⟩ := List.mem_map.mp hx
    refine wpg ?_
    unfold Fan.v
    simp only [wp_ret, wp_stuck, wp_ifs, wp_newL, wp_var, wp_c, wp_op, wp_un, wp_tval, wp_tnot, wp_not, wp_nil, wp_cons, wp_tup, wp_lst, wp_dct, wp_call, wp_app, wp_append, wp_ixT, wp_ixL, wp_put, wp_sl, wp_pn, wp_ps, wp_slT, wp_addI, wp_addT, wp_sub, wp_mulAI, wp_mulAT, wp_mul, wp_div, wp_mod, wp_pow, wp_neg, wp_cmp, wp_eqI, wp_neI, wp_eqS, wp_neS, wp_is0', wp_not0', wp_isB, wp_notB, wp_lenT, wp_lenL, wp_tupT, wp_tupL, wp_lstT, ws_next, ws_brk, ws_cont, ws_seq, ws_expr, ws_ret, ws_retN, ws_set, ws_asg, ws_put, ws_raise, ws_if, ws_for1, wp_and, wp_or, wp_tand, wp_tor, wp_ifE, wp_chain, gSlot, wp_tru, wp_truI, wp_truB, wp_truT, wp_truL, wp_intB, wp_max, wp_min, ws_par2, ws_par3, ws_aug, wp_iadd, ws_chn, setN, wp_star, wp_seqT, wp_seqL, wp_slL, wp_addL, wp_boolL, wp_mulAL, wp_gcd, List.getElem?_cons_succ, List.getElem?_cons_zero, List.map_cons, List.map_nil, List.length_cons, List.length_nil, List.replicate_succ, List.replicate_zero, List.cons_append, List.nil_append, List.set_cons_succ, List.set_cons_zero, Option.some.injEq, exists_eq_left', Nat.reduceAdd, Nat.reduceSub, Nat.zero_add, Nat.add_zero, true_and, and_true, Vl.int.injEq, Vl.bl.injEq, Vl.loc.injEq, Vl.tup.injEq, exists_eq', exists_eq_left, Ob.lst.injEq, isS_non, isS_int, isS_tup, isS_bl, isS_loc, Bool.not_true, Bool.not_false, at30, at31, at20, at21]
    exact ⟨by show 3 ≤ line; decide, [], by simp⟩
  · have e : (lotV fs).map (fun x => match x with | .tup [p, .tup bs, _] => Vl.tup (p :: bs) | _ => .non) = fs.map standV := by
      unfold lotV
      rw [List.map_map]
      rfl
    rw [e]
    obtain ⟨U, q⟩ := lleast_ok h (S := S ++ [Ob.lst (fs.map standV)] ++ T) (n := S.length) acc_get
    exact (wp_of q).mpr ⟨rfl, _, by simp only [List.append_assoc]; rfl⟩
end LW
end Tw
end
section
set_option Elab.async false
set_option maxRecDepth 100000
set_option maxHeartbeats 3000000
set_option linter.all false
namespace Tw
namespace LW
open PySem L2
def numKey (f : Fan) : NestedKey := .tup [.num f.room, .tup [.num f.a, .num f.b]]
def numT (f : Fan) : Vl := .tup [.int f.room, .tup [.int f.a, .int f.b]]
def hasRays (f : Fan) : Bool := !f.rays.isEmpty
def numberV (fs : List Fan) : Vl := if fs.any hasRays = true then .non else .int (cnt (fs.map numKey) : Nat)
theorem nkeys_fans : ∀ fs : List Fan, nkeys (fs.map numT) = some (fs.map numKey)
  | [] => rfl
  | f :: fs => by
    rw [List.map_cons, List.map_cons]
    unfold nkeys
    rw [nkeys_fans fs]
    rfl
theorem tupsT_fans {fs : List Fan} (h : ∀ f ∈ fs, f.Ok) : tupsT (fs.map fun f => Vl.tup (f.rays.map rayV)) = some (fs.map hasRays) := by
  induction fs with
  | nil => rfl
  | cons f fs ih =>
    have hl := (h f List.mem_cons_self).len
    rw [List.map_cons, List.map_cons]
    unfold tupsT
    rw [ih fun g hg => h g (List.mem_cons_of_mem _ hg), if_pos (by rw [List.length_map]; exact Nat.le_trans hl (by decide))]
    show some ((!(f.rays.map rayV).isEmpty) :: _) = some (hasRays f :: _)
    rw [List.isEmpty_map]
    rfl
theorem wp_anyT {n : Nat} {xs : List Vl} {bs : List Bool} {S : Store} {R : Vl → Store → Prop} {E : Str → Store → Prop} (h : S[n]? = some (.lst xs)) (hb : tupsT xs = some bs) : Wp (bAnyT [.loc n]) S R E ↔ R (.bl (bs.any id)) S := by
  have e : bAnyT [.loc n] S = some (.ok (.bl (bs.any id)) S) := by
    unfold bAnyT
    simp only [bnd, getL, h, hb]
    rfl
  unfold Wp
  rw [e]
theorem wp_lenSet {a : Ev} {ρ : Rho} {S : Store} {R : Vl → Store → Prop} {E : Str → Store → Prop} : Wp (eLenSet a ρ) S R E ↔ Wp (a ρ) S (fun x S1 => Wp (bnd (getL x) fun xs => match nkeys xs with
  | some ks => if ks.length ≤ 4 then ret (.int (cnt ks : Nat)) else stuck
  | none => stuck) S1 R E) E := by
  unfold eLenSet
  exact wp_bnd
theorem lenSet_at {n : Nat} {xs : List Vl} {ks : List NestedKey} {S : Store} {R : Vl → Store → Prop} {E : Str → Store → Prop} (h : S[n]? = some (.lst xs)) (hk : nkeys xs = some ks) (hl : ks.length ≤ 4) (q : R (.int (cnt ks : Nat)) S) : Wp (bnd (getL (.loc n)) fun xs => match nkeys xs with
  | some ks => if ks.length ≤ 4 then ret (.int (cnt ks : Nat)) else stuck
  | none => stuck) S R E := by
  have e : (bnd (getL (.loc n)) fun xs => match nkeys xs with
    | some ks => if ks.length ≤ 4 then ret (Vl.int (cnt ks : Nat)) else stuck
    | none => stuck) S = some (.ok (.int (cnt ks : Nat)) S) := by
    simp only [bnd, getL, h, hk]
    rw [if_pos hl]
    rfl
  exact (wp_of e).mpr q
theorem lpS_fans {n : Nat} {o : Ob} {S : Store} (hn : S[n]? = some o) {g : Tg} {fe : Ev} {ρ : Rho} (hg : ∀ f : Fan, ∃ ρ1, g f.v ρ = some ρ1 ∧ fe ρ1 S = some (.ok (numT f) S)) :
    ∀ (fs : List Fan) (ys : List Vl) (ks : List NestedKey), nkeys ys = some ks → ys.length + fs.length ≤ 4 → lpS [(n, o)] g fe ρ (fs.map Fan.v) ys S = some (.ok (.int (cnt (ks ++ fs.map numKey) : Nat)) S)
  | [], ys, ks, hk, _ => by
    rw [List.map_nil, lpS_nil (okL_one hn), hk, List.map_nil, List.append_nil]
  | f :: fs, ys, ks, hk, hl => by
    rw [List.length_cons] at hl
    obtain ⟨ρ1, e1, e2⟩ := hg f
    rw [List.map_cons, lpS_cons (okL_one hn)]
    simp only [e1]
    have e3 : nr (fe ρ1) S = some (.ok (numT f) S) := by unfold nr; rw [e2]
    rw [bnd_of e3]
    rw [if_pos (show ys.length ≤ 3 ∧ (nkey (numT f)).isSome = true from ⟨by omega, rfl⟩)]
    rw [lpS_fans hn hg fs (ys ++ [numT f]) (ks ++ [numKey f]) (nkeys_app hk rfl) (by rw [List.length_append]; simp; omega)]
    rw [List.map_cons, List.append_assoc]
    rfl
theorem number_in_ok {fs : List Fan} (h : LotOk fs) {S : Store} {n : Nat} (hn : S[n]? = some (.lst (lotV fs))) : Gw (r_number_in [.loc n]) S (numberV fs) := by
  refine wpg ?_
  unfold r_number_in b_number_in
  rw [wp_fn]
  have hlen : (lotV fs).length ≤ 4 := by unfold lotV; rw [List.length_map]; exact h.len
  have hfl := h.len
  simp only [wp_ret, wp_stuck, wp_ifs, wp_newL, wp_var, wp_c, wp_op, wp_un, wp_tval, wp_tnot, wp_not, wp_nil, wp_cons, wp_tup, wp_lst, wp_dct, wp_call, wp_app, wp_append, wp_ixT, wp_ixL, wp_put, wp_sl, wp_pn, wp_ps, wp_slT, wp_addI, wp_addT, wp_sub, wp_mulAI, wp_mulAT, wp_mul, wp_div, wp_mod, wp_pow, wp_neg, wp_cmp, wp_eqI, wp_neI, wp_eqS, wp_neS, wp_is0', wp_not0', wp_isB, wp_notB, wp_lenT, wp_lenL, wp_tupT, wp_tupL, wp_lstT, ws_next, ws_brk, ws_cont, ws_seq, ws_expr, ws_ret, ws_retN, ws_set, ws_asg, ws_put, ws_raise, ws_if, ws_for1, wp_and, wp_or, wp_tand, wp_tor, wp_ifE, wp_chain, gSlot, wp_tru, wp_truI, wp_truB, wp_truT, wp_truL, wp_intB, wp_max, wp_min, ws_par2, ws_par3, ws_aug, wp_iadd, ws_chn, setN, wp_star, wp_seqT, wp_seqL, wp_slL, wp_addL, wp_boolL, wp_mulAL, wp_gcd, List.getElem?_cons_succ, List.getElem?_cons_zero, List.map_cons, List.map_nil, List.length_cons, List.length_nil, List.replicate_succ, List.replicate_zero, List.cons_append, List.nil_append, List.set_cons_succ, List.set_cons_zero, Option.some.injEq, exists_eq_left', Nat.reduceAdd, Nat.reduceSub, Nat.zero_add, Nat.add_zero, true_and, and_true, Vl.int.injEq, Vl.bl.injEq, Vl.loc.injEq, Vl.tup.injEq, exists_eq', exists_eq_left, Ob.lst.injEq, isS_non, isS_int, isS_tup, isS_bl, isS_loc, Bool.not_true, Bool.not_false]
  refine wp_comp_map (fun x => match x with | .tup [_, _, w] => w | _ => .non) (wseq_L rfl hn) hn (Nat.le_trans hlen (by decide)) (fun x hx U => ?_) fun T => ?_
  · obtain ⟨f, hf, rfl⟩ := List.mem_map.mp hx
    refine wpg ?_
    unfold Fan.v
    simp only [wp_ret, wp_stuck, wp_ifs, wp_newL, wp_var, wp_c, wp_op, wp_un, wp_tval, wp_tnot, wp_not, wp_nil, wp_cons, wp_tup, wp_lst, wp_dct, wp_call, wp_app, wp_append, wp_ixT, wp_ixL, wp_put, wp_sl, wp_pn, wp_ps, wp_slT, wp_addI, wp_addT, wp_sub, wp_mulAI, wp_mulAT, wp_mul, wp_div, wp_mod, wp_pow, wp_neg, wp_cmp, wp_eqI, wp_neI, wp_eqS, wp_neS, wp_is0', wp_not0', wp_isB, wp_notB, wp_lenT, wp_lenL, wp_tupT, wp_tupL, wp_lstT, ws_next, ws_brk, ws_cont, ws_seq, ws_expr, ws_ret, ws_retN, ws_set, ws_asg, ws_put, ws_raise, ws_if, ws_for1, wp_and, wp_or, wp_tand, wp_tor, wp_ifE, wp_chain, gSlot, wp_tru, wp_truI, wp_truB, wp_truT, wp_truL, wp_intB, wp_max, wp_min, ws_par2, ws_par3, ws_aug, wp_iadd, ws_chn, setN, wp_star, wp_seqT, wp_seqL, wp_slL, wp_addL, wp_boolL, wp_mulAL, wp_gcd, List.getElem?_cons_succ, List.getElem?_cons_zero, List.map_cons, List.map_nil, List.length_cons, List.length_nil, List.replicate_succ, List.replicate_zero, List.cons_append, List.nil_append, List.set_cons_succ, List.set_cons_zero, Option.some.injEq, exists_eq_left', Nat.reduceAdd, Nat.reduceSub, Nat.zero_add, Nat.add_zero, true_and, and_true, Vl.int.injEq, Vl.bl.injEq, Vl.loc.injEq, Vl.tup.injEq, exists_eq', exists_eq_left, Ob.lst.injEq, isS_non, isS_int, isS_tup, isS_bl, isS_loc, Bool.not_true, Bool.not_false, at32]
    exact ⟨[], by simp⟩
  · have e : (lotV fs).map (fun x => match x with | .tup [_, _, w] => w | _ => .non) = fs.map fun f => Vl.tup (f.rays.map rayV) := by
      unfold lotV
      rw [List.map_map]
      rfl
    rw [e]
    refine (wp_anyT acc_get (tupsT_fans h.ok)).mpr ⟨_, rfl, ?_⟩
    rw [List.any_map, Function.id_comp, ws_ite]
    have hn2 : (S ++ [Ob.lst (fs.map fun f => Vl.tup (f.rays.map rayV))] ++ T)[n]? = some (.lst (lotV fs)) := ap_get (ap_get hn)
    refine ⟨fun z => ?_, fun z => ?_⟩
    · simp only [wp_ret, wp_stuck, wp_ifs, wp_newL, wp_var, wp_c, wp_op, wp_un, wp_tval, wp_tnot, wp_not, wp_nil, wp_cons, wp_tup, wp_lst, wp_dct, wp_call, wp_app, wp_append, wp_ixT, wp_ixL, wp_put, wp_sl, wp_pn, wp_ps, wp_slT, wp_addI, wp_addT, wp_sub, wp_mulAI, wp_mulAT, wp_mul, wp_div, wp_mod, wp_pow, wp_neg, wp_cmp, wp_eqI, wp_neI, wp_eqS, wp_neS, wp_is0', wp_not0', wp_isB, wp_notB, wp_lenT, wp_lenL, wp_tupT, wp_tupL, wp_lstT, ws_next, ws_brk, ws_cont, ws_seq, ws_expr, ws_ret, ws_retN, ws_set, ws_asg, ws_put, ws_raise, ws_if, ws_for1, wp_and, wp_or, wp_tand, wp_tor, wp_ifE, wp_chain, gSlot, wp_tru, wp_truI, wp_truB, wp_truT, wp_truL, wp_intB, wp_max, wp_min, ws_par2, ws_par3, ws_aug, wp_iadd, ws_chn, setN, wp_star, wp_seqT, wp_seqL, wp_slL, wp_addL, wp_boolL, wp_mulAL, wp_gcd, List.getElem?_cons_succ, List.getElem?_cons_zero, List.map_cons, List.map_nil, List.length_cons, List.length_nil, List.replicate_succ, List.replicate_zero, List.cons_append, List.nil_append, List.set_cons_succ, List.set_cons_zero, Option.some.injEq, exists_eq_left', Nat.reduceAdd, Nat.reduceSub, Nat.zero_add, Nat.add_zero, true_and, and_true, Vl.int.injEq, Vl.bl.injEq, Vl.loc.injEq, Vl.tup.injEq, exists_eq', exists_eq_left, Ob.lst.injEq, isS_non, isS_int, isS_tup, isS_bl, isS_loc, Bool.not_true, Bool.not_false]
      refine ⟨?_, _, List.append_assoc _ _ _⟩
      unfold numberV
      rw [if_pos z]
    · simp only [wp_ret, wp_stuck, wp_ifs, wp_newL, wp_var, wp_c, wp_op, wp_un, wp_tval, wp_tnot, wp_not, wp_nil, wp_cons, wp_tup, wp_lst, wp_dct, wp_call, wp_app, wp_append, wp_ixT, wp_ixL, wp_put, wp_sl, wp_pn, wp_ps, wp_slT, wp_addI, wp_addT, wp_sub, wp_mulAI, wp_mulAT, wp_mul, wp_div, wp_mod, wp_pow, wp_neg, wp_cmp, wp_eqI, wp_neI, wp_eqS, wp_neS, wp_is0', wp_not0', wp_isB, wp_notB, wp_lenT, wp_lenL, wp_tupT, wp_tupL, wp_lstT, ws_next, ws_brk, ws_cont, ws_seq, ws_expr, ws_ret, ws_retN, ws_set, ws_asg, ws_put, ws_raise, ws_if, ws_for1, wp_and, wp_or, wp_tand, wp_tor, wp_ifE, wp_chain, gSlot, wp_tru, wp_truI, wp_truB, wp_truT, wp_truL, wp_intB, wp_max, wp_min, ws_par2, ws_par3, ws_aug, wp_iadd, ws_chn, setN, wp_star, wp_seqT, wp_seqL, wp_slL, wp_addL, wp_boolL, wp_mulAL, wp_gcd, List.getElem?_cons_succ, List.getElem?_cons_zero, List.map_cons, List.map_nil, List.length_cons, List.length_nil, List.replicate_succ, List.replicate_zero, List.cons_append, List.nil_append, List.set_cons_succ, List.set_cons_zero, Option.some.injEq, exists_eq_left', Nat.reduceAdd, Nat.reduceSub, Nat.zero_add, Nat.add_zero, true_and, and_true, Vl.int.injEq, Vl.bl.injEq, Vl.loc.injEq, Vl.tup.injEq, exists_eq', exists_eq_left, Ob.lst.injEq, isS_non, isS_int, isS_tup, isS_bl, isS_loc, Bool.not_true, Bool.not_false]
      unfold eLenSetC
      rw [wp_bnd, wp_of (vseq_L rfl hn2)]
      unfold lotV at hn2 ⊢
      rw [wp_of (lpS_fans hn2 (fun f => ⟨[some (.loc n), none, some (.int f.room), some (.tup [.int f.a, .int f.b]), some (.tup (f.rays.map rayV))], rfl, ?_⟩) fs [] [] rfl (by simp; exact hfl))]
      · simp only [wp_ret, wp_stuck, wp_ifs, wp_newL, wp_var, wp_c, wp_op, wp_un, wp_tval, wp_tnot, wp_not, wp_nil, wp_cons, wp_tup, wp_lst, wp_dct, wp_call, wp_app, wp_append, wp_ixT, wp_ixL, wp_put, wp_sl, wp_pn, wp_ps, wp_slT, wp_addI, wp_addT, wp_sub, wp_mulAI, wp_mulAT, wp_mul, wp_div, wp_mod, wp_pow, wp_neg, wp_cmp, wp_eqI, wp_neI, wp_eqS, wp_neS, wp_is0', wp_not0', wp_isB, wp_notB, wp_lenT, wp_lenL, wp_tupT, wp_tupL, wp_lstT, ws_next, ws_brk, ws_cont, ws_seq, ws_expr, ws_ret, ws_retN, ws_set, ws_asg, ws_put, ws_raise, ws_if, ws_for1, wp_and, wp_or, wp_tand, wp_tor, wp_ifE, wp_chain, gSlot, wp_tru, wp_truI, wp_truB, wp_truT, wp_truL, wp_intB, wp_max, wp_min, ws_par2, ws_par3, ws_aug, wp_iadd, ws_chn, setN, wp_star, wp_seqT, wp_seqL, wp_slL, wp_addL, wp_boolL, wp_mulAL, wp_gcd, List.getElem?_cons_succ, List.getElem?_cons_zero, List.map_cons, List.map_nil, List.length_cons, List.length_nil, List.replicate_succ, List.replicate_zero, List.cons_append, List.nil_append, List.set_cons_succ, List.set_cons_zero, Option.some.injEq, exists_eq_left', Nat.reduceAdd, Nat.reduceSub, Nat.zero_add, Nat.add_zero, true_and, and_true, Vl.int.injEq, Vl.bl.injEq, Vl.loc.injEq, Vl.tup.injEq, exists_eq', exists_eq_left, Ob.lst.injEq, isS_non, isS_int, isS_tup, isS_bl, isS_loc, Bool.not_true, Bool.not_false]
        refine ⟨?_, _, List.append_assoc _ _ _⟩
        unfold numberV
        rw [if_neg (by rw [z]; decide)]
      · refine wpe ?_
        simp only [wp_ret, wp_stuck, wp_ifs, wp_newL, wp_var, wp_c, wp_op, wp_un, wp_tval, wp_tnot, wp_not, wp_nil, wp_cons, wp_tup, wp_lst, wp_dct, wp_call, wp_app, wp_append, wp_ixT, wp_ixL, wp_put, wp_sl, wp_pn, wp_ps, wp_slT, wp_addI, wp_addT, wp_sub, wp_mulAI, wp_mulAT, wp_mul, wp_div, wp_mod, wp_pow, wp_neg, wp_cmp, wp_eqI, wp_neI, wp_eqS, wp_neS, wp_is0', wp_not0', wp_isB, wp_notB, wp_lenT, wp_lenL, wp_tupT, wp_tupL, wp_lstT, ws_next, ws_brk, ws_cont, ws_seq, ws_expr, ws_ret, ws_retN, ws_set, ws_asg, ws_put, ws_raise, ws_if, ws_for1, wp_and, wp_or, wp_tand, wp_tor, wp_ifE, wp_chain, gSlot, wp_tru, wp_truI, wp_truB, wp_truT, wp_truL, wp_intB, wp_max, wp_min, ws_par2, ws_par3, ws_aug, wp_iadd, ws_chn, setN, wp_star, wp_seqT, wp_seqL, wp_slL, wp_addL, wp_boolL, wp_mulAL, wp_gcd, List.getElem?_cons_succ, List.getElem?_cons_zero, List.map_cons, List.map_nil, List.length_cons, List.length_nil, List.replicate_succ, List.replicate_zero, List.cons_append, List.nil_append, List.set_cons_succ, List.set_cons_zero, Option.some.injEq, exists_eq_left', Nat.reduceAdd, Nat.reduceSub, Nat.zero_add, Nat.add_zero, true_and, and_true, Vl.int.injEq, Vl.bl.injEq, Vl.loc.injEq, Vl.tup.injEq, exists_eq', exists_eq_left, Ob.lst.injEq, isS_non, isS_int, isS_tup, isS_bl, isS_loc, Bool.not_true, Bool.not_false]
        exact ⟨by show 2 ≤ line; decide, rfl⟩
theorem filter_any {α : Type} (p : α → Bool) : ∀ l : List α, decide (((l.filter p).length : Int) > 0) = l.any p
  | [] => rfl
  | x :: l => by
    rw [List.any_cons, List.filter_cons]
    cases p x with
    | true =>
      rw [if_pos rfl, Bool.true_or]
      exact decide_eq_true (by rw [List.length_cons]; omega)
    | false =>
      rw [if_neg (by decide), Bool.false_or]
      exact filter_any p l
theorem lnumber_ok {fs : List Fan} (h : LotOk fs) {S : Store} {n : Nat} (hn : S[n]? = some (.lst (lotV fs))) : Gw (r__law_number [.loc n]) S (numberV fs) := by
  refine wpg ?_
  unfold r__law_number b__law_number
  rw [wp_fn]
  have hlen : (lotV fs).length ≤ 4 := by unfold lotV; rw [List.length_map]; exact h.len
  have hfl := h.len
  simp only [wp_ret, wp_stuck, wp_ifs, wp_newL, wp_var, wp_c, wp_op, wp_un, wp_tval, wp_tnot, wp_not, wp_nil, wp_cons, wp_tup, wp_lst, wp_dct, wp_call, wp_app, wp_append, wp_ixT, wp_ixL, wp_put, wp_sl, wp_pn, wp_ps, wp_slT, wp_addI, wp_addT, wp_sub, wp_mulAI, wp_mulAT, wp_mul, wp_div, wp_mod, wp_pow, wp_neg, wp_cmp, wp_eqI, wp_neI, wp_eqS, wp_neS, wp_is0', wp_not0', wp_isB, wp_notB, wp_lenT, wp_lenL, wp_tupT, wp_tupL, wp_lstT, ws_next, ws_brk, ws_cont, ws_seq, ws_expr, ws_ret, ws_retN, ws_set, ws_asg, ws_put, ws_raise, ws_if, ws_for1, wp_and, wp_or, wp_tand, wp_tor, wp_ifE, wp_chain, gSlot, wp_tru, wp_truI, wp_truB, wp_truT, wp_truL, wp_intB, wp_max, wp_min, ws_par2, ws_par3, ws_aug, wp_iadd, ws_chn, setN, wp_star, wp_seqT, wp_seqL, wp_slL, wp_addL, wp_boolL, wp_mulAL, wp_gcd, List.getElem?_cons_succ, List.getElem?_cons_zero, List.map_cons, List.map_nil, List.length_cons, List.length_nil, List.replicate_succ, List.replicate_zero, List.cons_append, List.nil_append, List.set_cons_succ, List.set_cons_zero, Option.some.injEq, exists_eq_left', Nat.reduceAdd, Nat.reduceSub, Nat.zero_add, Nat.add_zero, true_and, and_true, Vl.int.injEq, Vl.bl.injEq, Vl.loc.injEq, Vl.tup.injEq, exists_eq', exists_eq_left, Ob.lst.injEq, isS_non, isS_int, isS_tup, isS_bl, isS_loc, Bool.not_true, Bool.not_false]
  refine wp_comp_gw (fun x => match x with | .tup [_, _, .tup w] => decide ((w.length : Int) > 0) | _ => false) id (wseq_L rfl hn) hn (Nat.le_trans hlen (by decide)) (fun x hx U => ?_) (fun x hx U _ => ?_) fun T => ?_
  · obtain ⟨f, hf, rfl⟩ := List.mem_map.mp hx
    refine wpg ?_
    unfold Fan.v
    have hrl := (h.ok f hf).len
    simp only [wp_ret, wp_stuck, wp_ifs, wp_newL, wp_var, wp_c, wp_op, wp_un, wp_tval, wp_tnot, wp_not, wp_nil, wp_cons, wp_tup, wp_lst, wp_dct, wp_call, wp_app, wp_append, wp_ixT, wp_ixL, wp_put, wp_sl, wp_pn, wp_ps, wp_slT, wp_addI, wp_addT, wp_sub, wp_mulAI, wp_mulAT, wp_mul, wp_div, wp_mod, wp_pow, wp_neg, wp_cmp, wp_eqI, wp_neI, wp_eqS, wp_neS, wp_is0', wp_not0', wp_isB, wp_notB, wp_lenT, wp_lenL, wp_tupT, wp_tupL, wp_lstT, ws_next, ws_brk, ws_cont, ws_seq, ws_expr, ws_ret, ws_retN, ws_set, ws_asg, ws_put, ws_raise, ws_if, ws_for1, wp_and, wp_or, wp_tand, wp_tor, wp_ifE, wp_chain, gSlot, wp_tru, wp_truI, wp_truB, wp_truT, wp_truL, wp_intB, wp_max, wp_min, ws_par2, ws_par3, ws_aug, wp_iadd, ws_chn, setN, wp_star, wp_seqT, wp_seqL, wp_slL, wp_addL, wp_boolL, wp_mulAL, wp_gcd, List.getElem?_cons_succ, List.getElem?_cons_zero, List.map_cons, List.map_nil, List.length_cons, List.length_nil, List.replicate_succ, List.replicate_zero, List.cons_append, List.nil_append, List.set_cons_succ, List.set_cons_zero, Option.some.injEq, exists_eq_left', Nat.reduceAdd, Nat.reduceSub, Nat.zero_add, Nat.add_zero, true_and, and_true, Vl.int.injEq, Vl.bl.injEq, Vl.loc.injEq, Vl.tup.injEq, exists_eq', exists_eq_left, Ob.lst.injEq, isS_non, isS_int, isS_tup, isS_bl, isS_loc, Bool.not_true, Bool.not_false, at32]
    exact ⟨by rw [List.length_map]; exact Nat.le_trans hrl (by decide), [], by simp⟩
  · refine wpg ?_
    simp only [wp_ret, wp_stuck, wp_ifs, wp_newL, wp_var, wp_c, wp_op, wp_un, wp_tval, wp_tnot, wp_not, wp_nil, wp_cons, wp_tup, wp_lst, wp_dct, wp_call, wp_app, wp_append, wp_ixT, wp_ixL, wp_put, wp_sl, wp_pn, wp_ps, wp_slT, wp_addI, wp_addT, wp_sub, wp_mulAI, wp_mulAT, wp_mul, wp_div, wp_mod, wp_pow, wp_neg, wp_cmp, wp_eqI, wp_neI, wp_eqS, wp_neS, wp_is0', wp_not0', wp_isB, wp_notB, wp_lenT, wp_lenL, wp_tupT, wp_tupL, wp_lstT, ws_next, ws_brk, ws_cont, ws_seq, ws_expr, ws_ret, ws_retN, ws_set, ws_asg, ws_put, ws_raise, ws_if, ws_for1, wp_and, wp_or, wp_tand, wp_tor, wp_ifE, wp_chain, gSlot, wp_tru, wp_truI, wp_truB, wp_truT, wp_truL, wp_intB, wp_max, wp_min, ws_par2, ws_par3, ws_aug, wp_iadd, ws_chn, setN, wp_star, wp_seqT, wp_seqL, wp_slL, wp_addL, wp_boolL, wp_mulAL, wp_gcd, List.getElem?_cons_succ, List.getElem?_cons_zero, List.map_cons, List.map_nil, List.length_cons, List.length_nil, List.replicate_succ, List.replicate_zero, List.cons_append, List.nil_append, List.set_cons_succ, List.set_cons_zero, Option.some.injEq, exists_eq_left', Nat.reduceAdd, Nat.reduceSub, Nat.zero_add, Nat.add_zero, true_and, and_true, Vl.int.injEq, Vl.bl.injEq, Vl.loc.injEq, Vl.tup.injEq, exists_eq', exists_eq_left, Ob.lst.injEq, isS_non, isS_int, isS_tup, isS_bl, isS_loc, Bool.not_true, Bool.not_false]
    exact ⟨rfl, [], by simp⟩
  · rw [List.map_id]
    simp only [wp_ret, wp_stuck, wp_ifs, wp_newL, wp_var, wp_c, wp_op, wp_un, wp_tval, wp_tnot, wp_not, wp_nil, wp_cons, wp_tup, wp_lst, wp_dct, wp_call, wp_app, wp_append, wp_ixT, wp_ixL, wp_put, wp_sl, wp_pn, wp_ps, wp_slT, wp_addI, wp_addT, wp_sub, wp_mulAI, wp_mulAT, wp_mul, wp_div, wp_mod, wp_pow, wp_neg, wp_cmp, wp_eqI, wp_neI, wp_eqS, wp_neS, wp_is0', wp_not0', wp_isB, wp_notB, wp_lenT, wp_lenL, wp_tupT, wp_tupL, wp_lstT, ws_next, ws_brk, ws_cont, ws_seq, ws_expr, ws_ret, ws_retN, ws_set, ws_asg, ws_put, ws_raise, ws_if, ws_for1, wp_and, wp_or, wp_tand, wp_tor, wp_ifE, wp_chain, gSlot, wp_tru, wp_truI, wp_truB, wp_truT, wp_truL, wp_intB, wp_max, wp_min, ws_par2, ws_par3, ws_aug, wp_iadd, ws_chn, setN, wp_star, wp_seqT, wp_seqL, wp_slL, wp_addL, wp_boolL, wp_mulAL, wp_gcd, List.getElem?_cons_succ, List.getElem?_cons_zero, List.map_cons, List.map_nil, List.length_cons, List.length_nil, List.replicate_succ, List.replicate_zero, List.cons_append, List.nil_append, List.set_cons_succ, List.set_cons_zero, Option.some.injEq, exists_eq_left', Nat.reduceAdd, Nat.reduceSub, Nat.zero_add, Nat.add_zero, true_and, and_true, Vl.int.injEq, Vl.bl.injEq, Vl.loc.injEq, Vl.tup.injEq, exists_eq', exists_eq_left, Ob.lst.injEq, isS_non, isS_int, isS_tup, isS_bl, isS_loc, Bool.not_true, Bool.not_false, acc_get]
    rw [filter_any, ws_ite]
    have e : (lotV fs).any (fun x => match x with | .tup [_, _, .tup w] => decide ((w.length : Int) > 0) | _ => false) = fs.any hasRays := by
      unfold lotV
      rw [List.any_map]
      congr 1
      funext f
      show decide (((f.rays.map rayV).length : Int) > 0) = !f.rays.isEmpty
      rw [List.length_map]
      cases f.rays with
      | nil => rfl
      | cons p ps => exact decide_eq_true (by rw [List.length_cons]; omega)
    rw [e]
    refine ⟨fun z => ?_, fun z => ?_⟩
    · simp only [wp_ret, wp_stuck, wp_ifs, wp_newL, wp_var, wp_c, wp_op, wp_un, wp_tval, wp_tnot, wp_not, wp_nil, wp_cons, wp_tup, wp_lst, wp_dct, wp_call, wp_app, wp_append, wp_ixT, wp_ixL, wp_put, wp_sl, wp_pn, wp_ps, wp_slT, wp_addI, wp_addT, wp_sub, wp_mulAI, wp_mulAT, wp_mul, wp_div, wp_mod, wp_pow, wp_neg, wp_cmp, wp_eqI, wp_neI, wp_eqS, wp_neS, wp_is0', wp_not0', wp_isB, wp_notB, wp_lenT, wp_lenL, wp_tupT, wp_tupL, wp_lstT, ws_next, ws_brk, ws_cont, ws_seq, ws_expr, ws_ret, ws_retN, ws_set, ws_asg, ws_put, ws_raise, ws_if, ws_for1, wp_and, wp_or, wp_tand, wp_tor, wp_ifE, wp_chain, gSlot, wp_tru, wp_truI, wp_truB, wp_truT, wp_truL, wp_intB, wp_max, wp_min, ws_par2, ws_par3, ws_aug, wp_iadd, ws_chn, setN, wp_star, wp_seqT, wp_seqL, wp_slL, wp_addL, wp_boolL, wp_mulAL, wp_gcd, List.getElem?_cons_succ, List.getElem?_cons_zero, List.map_cons, List.map_nil, List.length_cons, List.length_nil, List.replicate_succ, List.replicate_zero, List.cons_append, List.nil_append, List.set_cons_succ, List.set_cons_zero, Option.some.injEq, exists_eq_left', Nat.reduceAdd, Nat.reduceSub, Nat.zero_add, Nat.add_zero, true_and, and_true, Vl.int.injEq, Vl.bl.injEq, Vl.loc.injEq, Vl.tup.injEq, exists_eq', exists_eq_left, Ob.lst.injEq, isS_non, isS_int, isS_tup, isS_bl, isS_loc, Bool.not_true, Bool.not_false]
      refine ⟨?_, _, List.append_assoc _ _ _⟩
      unfold numberV
      rw [if_pos z]
    · simp only [wp_ret, wp_stuck, wp_ifs, wp_newL, wp_var, wp_c, wp_op, wp_un, wp_tval, wp_tnot, wp_not, wp_nil, wp_cons, wp_tup, wp_lst, wp_dct, wp_call, wp_app, wp_append, wp_ixT, wp_ixL, wp_put, wp_sl, wp_pn, wp_ps, wp_slT, wp_addI, wp_addT, wp_sub, wp_mulAI, wp_mulAT, wp_mul, wp_div, wp_mod, wp_pow, wp_neg, wp_cmp, wp_eqI, wp_neI, wp_eqS, wp_neS, wp_is0', wp_not0', wp_isB, wp_notB, wp_lenT, wp_lenL, wp_tupT, wp_tupL, wp_lstT, ws_next, ws_brk, ws_cont, ws_seq, ws_expr, ws_ret, ws_retN, ws_set, ws_asg, ws_put, ws_raise, ws_if, ws_for1, wp_and, wp_or, wp_tand, wp_tor, wp_ifE, wp_chain, gSlot, wp_tru, wp_truI, wp_truB, wp_truT, wp_truL, wp_intB, wp_max, wp_min, ws_par2, ws_par3, ws_aug, wp_iadd, ws_chn, setN, wp_star, wp_seqT, wp_seqL, wp_slL, wp_addL, wp_boolL, wp_mulAL, wp_gcd, List.getElem?_cons_succ, List.getElem?_cons_zero, List.map_cons, List.map_nil, List.length_cons, List.length_nil, List.replicate_succ, List.replicate_zero, List.cons_append, List.nil_append, List.set_cons_succ, List.set_cons_zero, Option.some.injEq, exists_eq_left', Nat.reduceAdd, Nat.reduceSub, Nat.zero_add, Nat.add_zero, true_and, and_true, Vl.int.injEq, Vl.bl.injEq, Vl.loc.injEq, Vl.tup.injEq, exists_eq', exists_eq_left, Ob.lst.injEq, isS_non, isS_int, isS_tup, isS_bl, isS_loc, Bool.not_true, Bool.not_false]
      rw [wp_lenSet]
      generalize hS : S ++ [Ob.lst ((lotV fs).filter fun x => match x with | .tup [_, _, .tup w] => decide ((w.length : Int) > 0) | _ => false)] ++ T = S1
      have hn2 : S1[n]? = some (.lst (lotV fs)) := by rw [← hS]; exact ap_get (ap_get hn)
      refine wp_comp_map (fun x => match x with | .tup [p, q, _] => .tup [p, q] | _ => .non) (wseq_L rfl hn2) hn2 (Nat.le_trans hlen (by decide)) (fun x hx U => ?_) fun T2 => ?_
      · obtain ⟨f, hf, rfl⟩ := List.mem_map.mp hx
        refine wpg ?_
        unfold Fan.v
        simp only [wp_ret, wp_stuck, wp_ifs, wp_newL, wp_var, wp_c, wp_op, wp_un, wp_tval, wp_tnot, wp_not, wp_nil, wp_cons, wp_tup, wp_lst, wp_dct, wp_call, wp_app, wp_append, wp_ixT, wp_ixL, wp_put, wp_sl, wp_pn, wp_ps, wp_slT, wp_addI, wp_addT, wp_sub, wp_mulAI, wp_mulAT, wp_mul, wp_div, wp_mod, wp_pow, wp_neg, wp_cmp, wp_eqI, wp_neI, wp_eqS, wp_neS, wp_is0', wp_not0', wp_isB, wp_notB, wp_lenT, wp_lenL, wp_tupT, wp_tupL, wp_lstT, ws_next, ws_brk, ws_cont, ws_seq, ws_expr, ws_ret, ws_retN, ws_set, ws_asg, ws_put, ws_raise, ws_if, ws_for1, wp_and, wp_or, wp_tand, wp_tor, wp_ifE, wp_chain, gSlot, wp_tru, wp_truI, wp_truB, wp_truT, wp_truL, wp_intB, wp_max, wp_min, ws_par2, ws_par3, ws_aug, wp_iadd, ws_chn, setN, wp_star, wp_seqT, wp_seqL, wp_slL, wp_addL, wp_boolL, wp_mulAL, wp_gcd, List.getElem?_cons_succ, List.getElem?_cons_zero, List.map_cons, List.map_nil, List.length_cons, List.length_nil, List.replicate_succ, List.replicate_zero, List.cons_append, List.nil_append, List.set_cons_succ, List.set_cons_zero, Option.some.injEq, exists_eq_left', Nat.reduceAdd, Nat.reduceSub, Nat.zero_add, Nat.add_zero, true_and, and_true, Vl.int.injEq, Vl.bl.injEq, Vl.loc.injEq, Vl.tup.injEq, exists_eq', exists_eq_left, Ob.lst.injEq, isS_non, isS_int, isS_tup, isS_bl, isS_loc, Bool.not_true, Bool.not_false, at30, at31]
        exact ⟨by show 2 ≤ line; decide, [], by simp⟩
      · have e : (lotV fs).map (fun x => match x with | .tup [p, q, _] => Vl.tup [p, q] | _ => .non) = fs.map numT := by
          unfold lotV
          rw [List.map_map]
          rfl
        rw [e]
        refine lenSet_at acc_get (nkeys_fans fs) (by rw [List.length_map]; exact hfl) ⟨?_, ?_⟩
        · unfold numberV
          rw [if_neg (by rw [z]; decide)]
        · rw [← hS]
          exact ⟨_, by simp only [List.append_assoc]; rfl⟩
end LW
end Tw
end
section
set_option Elab.async false
set_option maxRecDepth 100000
set_option maxHeartbeats 3000000
set_option linter.all false
namespace Tw
namespace LW
open PySem L2
theorem wp_callE {ff : Ev} {g : Str → List Vl → M Vl} {names : List Str} {fs : Evs} {ρ : Rho} {S : Store} {R : Vl → Store → Prop} {E : Str → Store → Prop} {x : Str} {S1 : Store} (h : ff ρ S = some (.ok (.fn x) S1)) (hx : x ∈ names) : Wp (eCallE ff g names fs ρ) S R E ↔ Wp (fs ρ) S1 (fun xs S2 => Wp (g x xs) S2 R E) E := by
  unfold eCallE
  rw [wp_bnd, wp_of h]
  simp only [if_pos hx]
  exact wp_call
theorem lot_fine {fs : List Fan} (h : LotOk fs) (S : Store) : ∀ v ∈ lotV fs, FineN S 3 v ∧ BdN 3 v := fun v hv => by
  obtain ⟨f, hf, rfl⟩ := List.mem_map.mp hv
  exact ⟨fan_fine (h.ok f hf) S 3, fan_bd (h.ok f hf)⟩
theorem lot_all {fs : List Fan} (h : LotOk fs) : (lotV fs).all isFan = true := by
  rw [List.all_eq_true]
  intro v hv
  obtain ⟨f, hf, rfl⟩ := List.mem_map.mp hv
  exact fan_isFan (h.ok f hf)
theorem pleast_ok {fs : List Fan} (h : LotOk fs) {S : Store} {n : Nat} (hn : S[n]? = some (.lst (lotV fs))) {Q : Vl → Store → Prop} {E : Str → Store → Prop} (hQ : lcmL fs ≤ 6 → ∀ T, Q (leastV fs) (S ++ T)) (hE : 6 < lcmL fs → ∀ T, E "TooLarge" (S ++ T)) : Wp (r_least [.loc n]) S Q E := by
  unfold r_least b_least
  rw [wp_fn]
  simp only [wp_ret, wp_stuck, wp_ifs, wp_newL, wp_var, wp_c, wp_op, wp_un, wp_tval, wp_tnot, wp_not, wp_nil, wp_cons, wp_tup, wp_lst, wp_dct, wp_call, wp_app, wp_append, wp_ixT, wp_ixL, wp_put, wp_sl, wp_pn, wp_ps, wp_slT, wp_addI, wp_addT, wp_sub, wp_mulAI, wp_mulAT, wp_mul, wp_div, wp_mod, wp_pow, wp_neg, wp_cmp, wp_eqI, wp_neI, wp_eqS, wp_neS, wp_is0', wp_not0', wp_isB, wp_notB, wp_lenT, wp_lenL, wp_tupT, wp_tupL, wp_lstT, ws_next, ws_brk, ws_cont, ws_seq, ws_expr, ws_ret, ws_retN, ws_set, ws_asg, ws_put, ws_raise, ws_if, ws_for1, wp_and, wp_or, wp_tand, wp_tor, wp_ifE, wp_chain, gSlot, wp_tru, wp_truI, wp_truB, wp_truT, wp_truL, wp_intB, wp_max, wp_min, ws_par2, ws_par3, ws_aug, wp_iadd, ws_chn, setN, wp_star, wp_seqT, wp_seqL, wp_slL, wp_addL, wp_boolL, wp_mulAL, wp_gcd, List.getElem?_cons_succ, List.getElem?_cons_zero, List.map_cons, List.map_nil, List.length_cons, List.length_nil, List.replicate_succ, List.replicate_zero, List.cons_append, List.nil_append, List.set_cons_succ, List.set_cons_zero, Option.some.injEq, exists_eq_left', Nat.reduceAdd, Nat.reduceSub, Nat.zero_add, Nat.add_zero, true_and, and_true, Vl.int.injEq, Vl.bl.injEq, Vl.loc.injEq, Vl.tup.injEq, exists_eq', exists_eq_left, Ob.lst.injEq, isS_non, isS_int, isS_tup, isS_bl, isS_loc, Bool.not_true, Bool.not_false]
  refine clot_ok hn (lot_fine h S) (fun _ => ?_) (fun z => absurd (lot_all h) (by rw [z]; decide))
  refine ⟨by decide, size_ok h get_last (ap_get hn) (fun z T => ?_) fun z T => ?_⟩
  · have hn2 : (S ++ [Ob.lst [Vl.loc n]] ++ T)[n]? = some (.lst (lotV fs)) := ap_get (ap_get hn)
    obtain ⟨U, e⟩ := least_in_ok h hn2
    rw [wp_of e, List.append_assoc, List.append_assoc]
    exact hQ z _
  · rw [List.append_assoc]
    exact hE z _
theorem pnumber_ok {fs : List Fan} (h : LotOk fs) {S : Store} {n : Nat} (hn : S[n]? = some (.lst (lotV fs))) {Q : Vl → Store → Prop} {E : Str → Store → Prop} (hQ : lcmL fs ≤ 6 → ∀ T, Q (numberV fs) (S ++ T)) (hE : 6 < lcmL fs → ∀ T, E "TooLarge" (S ++ T)) : Wp (r_number [.loc n]) S Q E := by
  unfold r_number b_number
  rw [wp_fn]
  simp only [wp_ret, wp_stuck, wp_ifs, wp_newL, wp_var, wp_c, wp_op, wp_un, wp_tval, wp_tnot, wp_not, wp_nil, wp_cons, wp_tup, wp_lst, wp_dct, wp_call, wp_app, wp_append, wp_ixT, wp_ixL, wp_put, wp_sl, wp_pn, wp_ps, wp_slT, wp_addI, wp_addT, wp_sub, wp_mulAI, wp_mulAT, wp_mul, wp_div, wp_mod, wp_pow, wp_neg, wp_cmp, wp_eqI, wp_neI, wp_eqS, wp_neS, wp_is0', wp_not0', wp_isB, wp_notB, wp_lenT, wp_lenL, wp_tupT, wp_tupL, wp_lstT, ws_next, ws_brk, ws_cont, ws_seq, ws_expr, ws_ret, ws_retN, ws_set, ws_asg, ws_put, ws_raise, ws_if, ws_for1, wp_and, wp_or, wp_tand, wp_tor, wp_ifE, wp_chain, gSlot, wp_tru, wp_truI, wp_truB, wp_truT, wp_truL, wp_intB, wp_max, wp_min, ws_par2, ws_par3, ws_aug, wp_iadd, ws_chn, setN, wp_star, wp_seqT, wp_seqL, wp_slL, wp_addL, wp_boolL, wp_mulAL, wp_gcd, List.getElem?_cons_succ, List.getElem?_cons_zero, List.map_cons, List.map_nil, List.length_cons, List.length_nil, List.replicate_succ, List.replicate_zero, List.cons_append, List.nil_append, List.set_cons_succ, List.set_cons_zero, Option.some.injEq, exists_eq_left', Nat.reduceAdd, Nat.reduceSub, Nat.zero_add, Nat.add_zero, true_and, and_true, Vl.int.injEq, Vl.bl.injEq, Vl.loc.injEq, Vl.tup.injEq, exists_eq', exists_eq_left, Ob.lst.injEq, isS_non, isS_int, isS_tup, isS_bl, isS_loc, Bool.not_true, Bool.not_false]
  refine clot_ok hn (lot_fine h S) (fun _ => ?_) (fun z => absurd (lot_all h) (by rw [z]; decide))
  refine ⟨by decide, size_ok h get_last (ap_get hn) (fun z T => ?_) fun z T => ?_⟩
  · have hn2 : (S ++ [Ob.lst [Vl.loc n]] ++ T)[n]? = some (.lst (lotV fs)) := ap_get (ap_get hn)
    obtain ⟨U, e⟩ := number_in_ok h hn2
    rw [wp_of e, List.append_assoc, List.append_assoc]
    exact hQ z _
  · rw [List.append_assoc]
    exact hE z _
def toldV (fs : List Fan) (i : Nat) : Vl := if i = 0 then leastV fs else numberV fs
theorem told_ok {fs : List Fan} (h : LotOk fs) {S : Store} {n : Nat} (hn : S[n]? = some (.lst (lotV fs))) {i : Nat} (hi : i < 2) : Gw (r__law_told [.int (i : Nat), .loc n]) S (if lcmL fs ≤ 6 then .tup [toldV fs i] else .non) := by
  refine wpg ?_
  unfold r__law_told b__law_told
  rw [wp_fn]
  simp only [wp_ret, wp_stuck, wp_ifs, wp_newL, wp_var, wp_c, wp_op, wp_un, wp_tval, wp_tnot, wp_not, wp_nil, wp_cons, wp_tup, wp_lst, wp_dct, wp_call, wp_app, wp_append, wp_ixT, wp_ixL, wp_put, wp_sl, wp_pn, wp_ps, wp_slT, wp_addI, wp_addT, wp_sub, wp_mulAI, wp_mulAT, wp_mul, wp_div, wp_mod, wp_pow, wp_neg, wp_cmp, wp_eqI, wp_neI, wp_eqS, wp_neS, wp_is0', wp_not0', wp_isB, wp_notB, wp_lenT, wp_lenL, wp_tupT, wp_tupL, wp_lstT, ws_next, ws_brk, ws_cont, ws_seq, ws_expr, ws_ret, ws_retN, ws_set, ws_asg, ws_put, ws_raise, ws_if, ws_for1, wp_and, wp_or, wp_tand, wp_tor, wp_ifE, wp_chain, gSlot, wp_tru, wp_truI, wp_truB, wp_truT, wp_truL, wp_intB, wp_max, wp_min, ws_par2, ws_par3, ws_aug, wp_iadd, ws_chn, setN, wp_star, wp_seqT, wp_seqL, wp_slL, wp_addL, wp_boolL, wp_mulAL, wp_gcd, List.getElem?_cons_succ, List.getElem?_cons_zero, List.map_cons, List.map_nil, List.length_cons, List.length_nil, List.replicate_succ, List.replicate_zero, List.cons_append, List.nil_append, List.set_cons_succ, List.set_cons_zero, Option.some.injEq, exists_eq_left', Nat.reduceAdd, Nat.reduceSub, Nat.zero_add, Nat.add_zero, true_and, and_true, Vl.int.injEq, Vl.bl.injEq, Vl.loc.injEq, Vl.tup.injEq, exists_eq', exists_eq_left, Ob.lst.injEq, isS_non, isS_int, isS_tup, isS_bl, isS_loc, Bool.not_true, Bool.not_false, ws_try1]
  have ht : (tkx "TooLarge" []) "TooLarge" = some true := by decide +kernel
  have key : ∀ (x : Str) (r : List Vl → M Vl) (v : Vl), x ∈ (["least", "number"] : List Str) → atI [Vl.fn "least", Vl.fn "number"] (i : Int) = some (.fn x) → gsel [("least", r_least), ("number", r_number)] x = r → toldV fs i = v → (∀ {S : Store} {Q : Vl → Store → Prop} {E : Str → Store → Prop}, S[n]? = some (.lst (lotV fs)) → (lcmL fs ≤ 6 → ∀ T, Q v (S ++ T)) → (6 < lcmL fs → ∀ T, E "TooLarge" (S ++ T)) → Wp (r [.loc n]) S Q E) →
      Wp (eCallE (eOp oIx (eLst (aCons (eC (.fn "least")) (aCons (eC (.fn "number")) aNil))) (eVar 0)) (gsel [("least", r_least), ("number", r_number)]) ["least", "number"] (aCons (eVar 1) aNil) [some (.int i), some (.loc n)]) S (fun v2 S1 => v2 = v ∧ lcmL fs ≤ 6 ∧ ∃ T, S1 = S ++ T) (fun c S1 => c = "TooLarge" ∧ ¬ lcmL fs ≤ 6 ∧ ∃ T, S1 = S ++ T) := by
    intro x r v hx ha hs _ hr
    have e1 : eOp oIx (eLst (aCons (eC (.fn "least")) (aCons (eC (.fn "number")) aNil))) (eVar 0) [some (.int (i : Nat)), some (.loc n)] S = some (.ok (.fn x) (S ++ [.lst [.fn "least", .fn "number"]])) := by
      refine wp_eq (E := fun _ _ => False) ?_ fun _ _ z => z
      simp only [wp_ret, wp_stuck, wp_ifs, wp_newL, wp_var, wp_c, wp_op, wp_un, wp_tval, wp_tnot, wp_not, wp_nil, wp_cons, wp_tup, wp_lst, wp_dct, wp_call, wp_app, wp_append, wp_ixT, wp_ixL, wp_put, wp_sl, wp_pn, wp_ps, wp_slT, wp_addI, wp_addT, wp_sub, wp_mulAI, wp_mulAT, wp_mul, wp_div, wp_mod, wp_pow, wp_neg, wp_cmp, wp_eqI, wp_neI, wp_eqS, wp_neS, wp_is0', wp_not0', wp_isB, wp_notB, wp_lenT, wp_lenL, wp_tupT, wp_tupL, wp_lstT, ws_next, ws_brk, ws_cont, ws_seq, ws_expr, ws_ret, ws_retN, ws_set, ws_asg, ws_put, ws_raise, ws_if, ws_for1, wp_and, wp_or, wp_tand, wp_tor, wp_ifE, wp_chain, gSlot, wp_tru, wp_truI, wp_truB, wp_truT, wp_truL, wp_intB, wp_max, wp_min, ws_par2, ws_par3, ws_aug, wp_iadd, ws_chn, setN, wp_star, wp_seqT, wp_seqL, wp_slL, wp_addL, wp_boolL, wp_mulAL, wp_gcd, List.getElem?_cons_succ, List.getElem?_cons_zero, List.map_cons, List.map_nil, List.length_cons, List.length_nil, List.replicate_succ, List.replicate_zero, List.cons_append, List.nil_append, List.set_cons_succ, List.set_cons_zero, Option.some.injEq, exists_eq_left', Nat.reduceAdd, Nat.reduceSub, Nat.zero_add, Nat.add_zero, true_and, and_true, Vl.int.injEq, Vl.bl.injEq, Vl.loc.injEq, Vl.tup.injEq, exists_eq', exists_eq_left, Ob.lst.injEq, isS_non, isS_int, isS_tup, isS_bl, isS_loc, Bool.not_true, Bool.not_false]
      exact ⟨by decide, _, get_last, _, ha, rfl⟩
    rw [wp_callE e1 hx, hs]
    simp only [wp_ret, wp_stuck, wp_ifs, wp_newL, wp_var, wp_c, wp_op, wp_un, wp_tval, wp_tnot, wp_not, wp_nil, wp_cons, wp_tup, wp_lst, wp_dct, wp_call, wp_app, wp_append, wp_ixT, wp_ixL, wp_put, wp_sl, wp_pn, wp_ps, wp_slT, wp_addI, wp_addT, wp_sub, wp_mulAI, wp_mulAT, wp_mul, wp_div, wp_mod, wp_pow, wp_neg, wp_cmp, wp_eqI, wp_neI, wp_eqS, wp_neS, wp_is0', wp_not0', wp_isB, wp_notB, wp_lenT, wp_lenL, wp_tupT, wp_tupL, wp_lstT, ws_next, ws_brk, ws_cont, ws_seq, ws_expr, ws_ret, ws_retN, ws_set, ws_asg, ws_put, ws_raise, ws_if, ws_for1, wp_and, wp_or, wp_tand, wp_tor, wp_ifE, wp_chain, gSlot, wp_tru, wp_truI, wp_truB, wp_truT, wp_truL, wp_intB, wp_max, wp_min, ws_par2, ws_par3, ws_aug, wp_iadd, ws_chn, setN, wp_star, wp_seqT, wp_seqL, wp_slL, wp_addL, wp_boolL, wp_mulAL, wp_gcd, List.getElem?_cons_succ, List.getElem?_cons_zero, List.map_cons, List.map_nil, List.length_cons, List.length_nil, List.replicate_succ, List.replicate_zero, List.cons_append, List.nil_append, List.set_cons_succ, List.set_cons_zero, Option.some.injEq, exists_eq_left', Nat.reduceAdd, Nat.reduceSub, Nat.zero_add, Nat.add_zero, true_and, and_true, Vl.int.injEq, Vl.bl.injEq, Vl.loc.injEq, Vl.tup.injEq, exists_eq', exists_eq_left, Ob.lst.injEq, isS_non, isS_int, isS_tup, isS_bl, isS_loc, Bool.not_true, Bool.not_false]
    exact hr (ap_get hn) (fun z T => ⟨rfl, z, _, List.append_assoc _ _ _⟩) fun z T => ⟨rfl, by omega, _, List.append_assoc _ _ _⟩
  have k2 := show Wp (eCallE (eOp oIx (eLst (aCons (eC (.fn "least")) (aCons (eC (.fn "number")) aNil))) (eVar 0)) (gsel [("least", r_least), ("number", r_number)]) ["least", "number"] (aCons (eVar 1) aNil) [some (.int i), some (.loc n)]) S (fun v2 S1 => v2 = toldV fs i ∧ lcmL fs ≤ 6 ∧ ∃ T, S1 = S ++ T) (fun c S1 => c = "TooLarge" ∧ ¬ lcmL fs ≤ 6 ∧ ∃ T, S1 = S ++ T) from by
    match i, hi with
    | 0, _ => exact key "least" r_least _ (by decide) rfl (by unfold gsel; rw [if_pos rfl]) rfl (fun hn => pleast_ok h hn)
    | 1, _ => exact key "number" r_number _ (by decide) rfl (by unfold gsel; rw [if_neg (by decide)]; unfold gsel; rw [if_pos rfl]) rfl (fun hn => pnumber_ok h hn)
  refine k2.imp ?_ ?_
  · rintro v S1 ⟨rfl, z, T, rfl⟩
    exact ⟨by decide, by rw [if_pos z], T, rfl⟩
  · rintro c S1 ⟨rfl, z, T, rfl⟩
    simp only [hand, ht]
    rw [if_neg z]
    exact ⟨rfl, T, rfl⟩
theorem due_ok {fs : List Fan} (h : LotOk fs) {S : Store} {n : Nat} (hn : S[n]? = some (.lst (lotV fs))) {i : Nat} (hi : i < 2) {ρ : Rho} (h7 : ρ[7]? = some (some (.int (i : Nat)))) (h4 : ρ[4]? = some (some (.loc n))) :
    Gw (eCallE (eOp oIx (eLst (aCons (eC (.fn "_law_least_of")) (aCons (eC (.fn "_law_number")) (aNil)))) (eVar 7)) (gsel [("_law_least_of", r__law_least_of), ("_law_number", r__law_number)]) ["_law_least_of", "_law_number"] (aCons (eVar 4) (aNil)) ρ) S (toldV fs i) := by
  have key : ∀ (x : Str) (r : List Vl → M Vl) (v : Vl), x ∈ (["_law_least_of", "_law_number"] : List Str) → atI [Vl.fn "_law_least_of", Vl.fn "_law_number"] (i : Int) = some (.fn x) → gsel [("_law_least_of", r__law_least_of), ("_law_number", r__law_number)] x = r → toldV fs i = v → (∀ {S : Store}, S[n]? = some (.lst (lotV fs)) → Gw (r [.loc n]) S v) →
      Gw (eCallE (eOp oIx (eLst (aCons (eC (.fn "_law_least_of")) (aCons (eC (.fn "_law_number")) (aNil)))) (eVar 7)) (gsel [("_law_least_of", r__law_least_of), ("_law_number", r__law_number)]) ["_law_least_of", "_law_number"] (aCons (eVar 4) (aNil)) ρ) S v := by
    intro x r v hx ha hs _ hr
    have e1 : eOp oIx (eLst (aCons (eC (.fn "_law_least_of")) (aCons (eC (.fn "_law_number")) aNil))) (eVar 7) ρ S = some (.ok (.fn x) (S ++ [.lst [.fn "_law_least_of", .fn "_law_number"]])) := by
      refine wp_eq (E := fun _ _ => False) ?_ fun _ _ z => z
      simp only [wp_ret, wp_stuck, wp_ifs, wp_newL, wp_var, wp_c, wp_op, wp_un, wp_tval, wp_tnot, wp_not, wp_nil, wp_cons, wp_tup, wp_lst, wp_dct, wp_call, wp_app, wp_append, wp_ixT, wp_ixL, wp_put, wp_sl, wp_pn, wp_ps, wp_slT, wp_addI, wp_addT, wp_sub, wp_mulAI, wp_mulAT, wp_mul, wp_div, wp_mod, wp_pow, wp_neg, wp_cmp, wp_eqI, wp_neI, wp_eqS, wp_neS, wp_is0', wp_not0', wp_isB, wp_notB, wp_lenT, wp_lenL, wp_tupT, wp_tupL, wp_lstT, ws_next, ws_brk, ws_cont, ws_seq, ws_expr, ws_ret, ws_retN, ws_set, ws_asg, ws_put, ws_raise, ws_if, ws_for1, wp_and, wp_or, wp_tand, wp_tor, wp_ifE, wp_chain, gSlot, wp_tru, wp_truI, wp_truB, wp_truT, wp_truL, wp_intB, wp_max, wp_min, ws_par2, ws_par3, ws_aug, wp_iadd, ws_chn, setN, wp_star, wp_seqT, wp_seqL, wp_slL, wp_addL, wp_boolL, wp_mulAL, wp_gcd, List.getElem?_cons_succ, List.getElem?_cons_zero, List.map_cons, List.map_nil, List.length_cons, List.length_nil, List.replicate_succ, List.replicate_zero, List.cons_append, List.nil_append, List.set_cons_succ, List.set_cons_zero, Option.some.injEq, exists_eq_left', Nat.reduceAdd, Nat.reduceSub, Nat.zero_add, Nat.add_zero, true_and, and_true, Vl.int.injEq, Vl.bl.injEq, Vl.loc.injEq, Vl.tup.injEq, exists_eq', exists_eq_left, Ob.lst.injEq, isS_non, isS_int, isS_tup, isS_bl, isS_loc, Bool.not_true, Bool.not_false, h7]
      exact ⟨by decide, _, get_last, _, ha, rfl⟩
    refine wpg ?_
    rw [wp_callE e1 hx, hs]
    obtain ⟨T, e⟩ := hr (S := S ++ [.lst [.fn "_law_least_of", .fn "_law_number"]]) (ap_get hn)
    simp only [wp_ret, wp_stuck, wp_ifs, wp_newL, wp_var, wp_c, wp_op, wp_un, wp_tval, wp_tnot, wp_not, wp_nil, wp_cons, wp_tup, wp_lst, wp_dct, wp_call, wp_app, wp_append, wp_ixT, wp_ixL, wp_put, wp_sl, wp_pn, wp_ps, wp_slT, wp_addI, wp_addT, wp_sub, wp_mulAI, wp_mulAT, wp_mul, wp_div, wp_mod, wp_pow, wp_neg, wp_cmp, wp_eqI, wp_neI, wp_eqS, wp_neS, wp_is0', wp_not0', wp_isB, wp_notB, wp_lenT, wp_lenL, wp_tupT, wp_tupL, wp_lstT, ws_next, ws_brk, ws_cont, ws_seq, ws_expr, ws_ret, ws_retN, ws_set, ws_asg, ws_put, ws_raise, ws_if, ws_for1, wp_and, wp_or, wp_tand, wp_tor, wp_ifE, wp_chain, gSlot, wp_tru, wp_truI, wp_truB, wp_truT, wp_truL, wp_intB, wp_max, wp_min, ws_par2, ws_par3, ws_aug, wp_iadd, ws_chn, setN, wp_star, wp_seqT, wp_seqL, wp_slL, wp_addL, wp_boolL, wp_mulAL, wp_gcd, List.getElem?_cons_succ, List.getElem?_cons_zero, List.map_cons, List.map_nil, List.length_cons, List.length_nil, List.replicate_succ, List.replicate_zero, List.cons_append, List.nil_append, List.set_cons_succ, List.set_cons_zero, Option.some.injEq, exists_eq_left', Nat.reduceAdd, Nat.reduceSub, Nat.zero_add, Nat.add_zero, true_and, and_true, Vl.int.injEq, Vl.bl.injEq, Vl.loc.injEq, Vl.tup.injEq, exists_eq', exists_eq_left, Ob.lst.injEq, isS_non, isS_int, isS_tup, isS_bl, isS_loc, Bool.not_true, Bool.not_false, h4, wp_of e]
    exact ⟨_, List.append_assoc _ _ _⟩
  match i, hi with
  | 0, _ => exact key "_law_least_of" r__law_least_of _ (by decide) rfl (by unfold gsel; rw [if_pos rfl]) rfl (fun hn => lleast_of_ok h hn)
  | 1, _ => exact key "_law_number" r__law_number _ (by decide) rfl (by unfold gsel; rw [if_neg (by decide)]; unfold gsel; rw [if_pos rfl]) rfl (fun hn => lnumber_ok h hn)
end LW
end Tw
end
section
set_option Elab.async false
set_option maxRecDepth 100000
set_option maxHeartbeats 3000000
set_option linter.all false
namespace Tw
namespace LW
open PySem L2
structure RsOk (rs : List (Int × Int)) : Prop where
  len : rs.length ≤ 2
  ray : ∀ p ∈ rs, (0 ≤ p.1 ∧ p.1 ≤ 4) ∧ (0 ≤ p.2 ∧ p.2 ≤ 4) ∧ ¬ (p.1 = 0 ∧ p.2 = 0)
  cross : crossP rs
theorem RsOk.nil : RsOk [] := ⟨by decide, (fun p hp => nomatch hp), trivial⟩
theorem rays_itr (rs : List (Int × Int)) : ∀ x ∈ rs.map rayV, itr 2 x = true := fun x hx => by
  obtain ⟨f, _, rfl⟩ := List.mem_map.mp hx
  rfl
theorem push_ok {p q : Int} (hp : 0 ≤ p ∧ p ≤ 4) (hq : 0 ≤ q ∧ q ≤ 4) (hpq : ¬ (p = 0 ∧ q = 0)) {rs : List (Int × Int)} (hrs : RsOk rs) (hl : rs.length ≤ 1) {S : Store} {L : Nat} (hL : S[L]? = some (.lst (rs.map rayV))) {a b c d e k : Option Vl} {D : Dk}
    (hD : ∀ rs2 S', RsOk rs2 → rs2.length ≤ rs.length + 1 → S'[L]? = some (.lst (rs2.map rayV)) → (∃ T, S' = S ++ T ∨ ∃ o, S' = (S ++ T).set L o) → D.nx [a, b, c, d, e, some (.loc L), k, some (.int p), some (.int q)] S') :
    Ws ((sIf (tOr (tVal (eOp oEq (eVar 5) (eLst (aNil)))) (tVal (eOp oNe (eOp oMulA (eOp oIx (eOp oIx (eVar 5) (eC (.int 0))) (eC (.int 0))) (eVar 8)) (eOp oMulA (eOp oIx (eOp oIx (eVar 5) (eC (.int 0))) (eC (.int 1))) (eVar 7))))) (sExpr (eApp (eVar 5) (eTup (aCons (eVar 7) (aCons (eVar 8) (aNil)))))) (sNext)) [a, b, c, d, e, some (.loc L), k, some (.int p), some (.int q)] S) D := by
  have hL2 : (S ++ [Ob.lst []])[L]? = some (.lst (rs.map rayV)) := ap_get hL
  obtain ⟨bb, e1, hb⟩ := oEq_lst (k := 2) (S := S ++ [Ob.lst []]) hL2 get_last (rays_itr rs) (fun y hy => nomatch hy) (by decide)
  have lp := lg3 (i := p) (by omega)
  have lq := lg3 (i := q) (by omega)
  have hin := (List.getElem?_eq_some_iff.mp hL2).1
  simp only [wp_ret, wp_stuck, wp_ifs, wp_newL, wp_var, wp_c, wp_op, wp_un, wp_tval, wp_tnot, wp_not, wp_nil, wp_cons, wp_tup, wp_lst, wp_dct, wp_call, wp_app, wp_append, wp_ixT, wp_ixL, wp_put, wp_sl, wp_pn, wp_ps, wp_slT, wp_addI, wp_addT, wp_sub, wp_mulAI, wp_mulAT, wp_mul, wp_div, wp_mod, wp_pow, wp_neg, wp_cmp, wp_eqI, wp_neI, wp_eqS, wp_neS, wp_is0', wp_not0', wp_isB, wp_notB, wp_lenT, wp_lenL, wp_tupT, wp_tupL, wp_lstT, ws_next, ws_brk, ws_cont, ws_seq, ws_expr, ws_ret, ws_retN, ws_set, ws_asg, ws_put, ws_raise, ws_if, ws_for1, wp_and, wp_or, wp_tand, wp_tor, wp_ifE, wp_chain, gSlot, wp_tru, wp_truI, wp_truB, wp_truT, wp_truL, wp_intB, wp_max, wp_min, ws_par2, ws_par3, ws_aug, wp_iadd, ws_chn, setN, wp_star, wp_seqT, wp_seqL, wp_slL, wp_addL, wp_boolL, wp_mulAL, wp_gcd, List.getElem?_cons_succ, List.getElem?_cons_zero, List.map_cons, List.map_nil, List.length_cons, List.length_nil, List.replicate_succ, List.replicate_zero, List.cons_append, List.nil_append, List.set_cons_succ, List.set_cons_zero, Option.some.injEq, exists_eq_left', Nat.reduceAdd, Nat.reduceSub, Nat.zero_add, Nat.add_zero, true_and, and_true, Vl.int.injEq, Vl.bl.injEq, Vl.loc.injEq, Vl.tup.injEq, exists_eq', exists_eq_left, Ob.lst.injEq, isS_non, isS_int, isS_tup, isS_bl, isS_loc, Bool.not_true, Bool.not_false, wp_of e1]
  refine ⟨by decide, wp_ite'.mpr ⟨fun z => ?_, fun z => ?_⟩⟩
  · have hz : rs = [] := by
      have := hb.mp z
      cases rs with
      | nil => rfl
      | cons f fs => cases this
    subst hz
    simp only [wp_ret, wp_stuck, wp_ifs, wp_newL, wp_var, wp_c, wp_op, wp_un, wp_tval, wp_tnot, wp_not, wp_nil, wp_cons, wp_tup, wp_lst, wp_dct, wp_call, wp_app, wp_append, wp_ixT, wp_ixL, wp_put, wp_sl, wp_pn, wp_ps, wp_slT, wp_addI, wp_addT, wp_sub, wp_mulAI, wp_mulAT, wp_mul, wp_div, wp_mod, wp_pow, wp_neg, wp_cmp, wp_eqI, wp_neI, wp_eqS, wp_neS, wp_is0', wp_not0', wp_isB, wp_notB, wp_lenT, wp_lenL, wp_tupT, wp_tupL, wp_lstT, ws_next, ws_brk, ws_cont, ws_seq, ws_expr, ws_ret, ws_retN, ws_set, ws_asg, ws_put, ws_raise, ws_if, ws_for1, wp_and, wp_or, wp_tand, wp_tor, wp_ifE, wp_chain, gSlot, wp_tru, wp_truI, wp_truB, wp_truT, wp_truL, wp_intB, wp_max, wp_min, ws_par2, ws_par3, ws_aug, wp_iadd, ws_chn, setN, wp_star, wp_seqT, wp_seqL, wp_slL, wp_addL, wp_boolL, wp_mulAL, wp_gcd, List.getElem?_cons_succ, List.getElem?_cons_zero, List.map_cons, List.map_nil, List.length_cons, List.length_nil, List.replicate_succ, List.replicate_zero, List.cons_append, List.nil_append, List.set_cons_succ, List.set_cons_zero, Option.some.injEq, exists_eq_left', Nat.reduceAdd, Nat.reduceSub, Nat.zero_add, Nat.add_zero, true_and, and_true, Vl.int.injEq, Vl.bl.injEq, Vl.loc.injEq, Vl.tup.injEq, exists_eq', exists_eq_left, Ob.lst.injEq, isS_non, isS_int, isS_tup, isS_bl, isS_loc, Bool.not_true, Bool.not_false, ws_ite]
    refine ⟨fun _ => ⟨_, hL2, by decide, _, hL2, by decide, hD [(p, q)] _ ⟨(by simp), (fun r hr => ?_), trivial⟩ (by simp) ?_ ⟨_, .inr ⟨_, rfl⟩⟩⟩, fun z => nomatch z⟩
    · simp only [List.mem_singleton] at hr
      subst hr
      exact ⟨hp, hq, hpq⟩
    · rw [List.getElem?_set_self hin]
      rfl
  · match rs, hl, hrs with
    | [], _, _ => rw [hb.mpr rfl] at z; cases z
    | [r], _, hrs =>
      obtain ⟨r1, r2, r3⟩ := hrs.ray r (by simp)
      have lr1 := lg3 (i := r.1) (by omega)
      have lr2 := lg3 (i := r.2) (by omega)
      have eL : (S ++ [Ob.lst []])[L]? = some (.lst [.tup [.int r.1, .int r.2]]) := hL2
      simp only [wp_ret, wp_stuck, wp_ifs, wp_newL, wp_var, wp_c, wp_op, wp_un, wp_tval, wp_tnot, wp_not, wp_nil, wp_cons, wp_tup, wp_lst, wp_dct, wp_call, wp_app, wp_append, wp_ixT, wp_ixL, wp_put, wp_sl, wp_pn, wp_ps, wp_slT, wp_addI, wp_addT, wp_sub, wp_mulAI, wp_mulAT, wp_mul, wp_div, wp_mod, wp_pow, wp_neg, wp_cmp, wp_eqI, wp_neI, wp_eqS, wp_neS, wp_is0', wp_not0', wp_isB, wp_notB, wp_lenT, wp_lenL, wp_tupT, wp_tupL, wp_lstT, ws_next, ws_brk, ws_cont, ws_seq, ws_expr, ws_ret, ws_retN, ws_set, ws_asg, ws_put, ws_raise, ws_if, ws_for1, wp_and, wp_or, wp_tand, wp_tor, wp_ifE, wp_chain, gSlot, wp_tru, wp_truI, wp_truB, wp_truT, wp_truL, wp_intB, wp_max, wp_min, ws_par2, ws_par3, ws_aug, wp_iadd, ws_chn, setN, wp_star, wp_seqT, wp_seqL, wp_slL, wp_addL, wp_boolL, wp_mulAL, wp_gcd, List.getElem?_cons_succ, List.getElem?_cons_zero, List.map_cons, List.map_nil, List.length_cons, List.length_nil, List.replicate_succ, List.replicate_zero, List.cons_append, List.nil_append, List.set_cons_succ, List.set_cons_zero, Option.some.injEq, exists_eq_left', Nat.reduceAdd, Nat.reduceSub, Nat.zero_add, Nat.add_zero, true_and, and_true, Vl.int.injEq, Vl.bl.injEq, Vl.loc.injEq, Vl.tup.injEq, exists_eq', exists_eq_left, Ob.lst.injEq, isS_non, isS_int, isS_tup, isS_bl, isS_loc, Bool.not_true, Bool.not_false, eL, at1, at20, at21, ws_ite]
      refine ⟨by omega, by omega, fun z2 => ⟨by decide, by decide, hD [r, (p, q)] _ ⟨(by simp), (fun s hs => ?_), ?_⟩ (by simp) ?_ ⟨_, .inr ⟨_, rfl⟩⟩⟩, fun _ => hD [r] _ hrs (by simp) hL2 ⟨_, .inl rfl⟩⟩
      · simp only [List.mem_cons, List.not_mem_nil, or_false] at hs
        rcases hs with rfl | rfl
        · exact ⟨r1, r2, r3⟩
        · exact ⟨hp, hq, hpq⟩
      · have : ¬ r.1 * q = r.2 * p := fun q => by rw [decide_eq_true q] at z2; cases z2
        show r.1 * q - r.2 * p ≠ 0
        omega
      · rw [List.getElem?_set_self hin]
        rfl
theorem fan_made {base ray : Int} (hb : 1 ≤ base ∧ base ≤ 12) (hr : 1 ≤ ray ∧ ray ≤ 4) {f : Nat} {S : Store} (h : Dr S f) (hf : 20 ≤ f) {Q : Vl → Store → Prop} {E : Str → Store → Prop} (hQ : ∀ fn S', Fan.Ok fn → Dr S' (f - 20) → Fr S S' → Q fn.v S') :
    Wp (r__law_fan [.loc 1, .int base, .int ray]) S Q E := by
  have hz := h.two
  have lb := lg3 (i := base) (by omega)
  have lr := lg3 (i := ray) (by omega)
  have l1 : (Int.natAbs 1).log2 < 40 := by decide
  unfold r__law_fan b__law_fan
  rw [wp_fn]
  generalize hC : (sIf (tOr (tVal (eOp oEq (eVar 5) (eLst (aNil)))) (tVal (eOp oNe (eOp oMulA (eOp oIx (eOp oIx (eVar 5) (eC (.int 0))) (eC (.int 0))) (eVar 8)) (eOp oMulA (eOp oIx (eOp oIx (eVar 5) (eC (.int 0))) (eC (.int 1))) (eVar 7))))) (sExpr (eApp (eVar 5) (eTup (aCons (eVar 7) (aCons (eVar 8) (aNil)))))) (sNext)) = C
  simp only [wp_ret, wp_stuck, wp_ifs, wp_newL, wp_var, wp_c, wp_op, wp_un, wp_tval, wp_tnot, wp_not, wp_nil, wp_cons, wp_tup, wp_lst, wp_dct, wp_call, wp_app, wp_append, wp_ixT, wp_ixL, wp_put, wp_sl, wp_pn, wp_ps, wp_slT, wp_addI, wp_addT, wp_sub, wp_mulAI, wp_mulAT, wp_mul, wp_div, wp_mod, wp_pow, wp_neg, wp_cmp, wp_eqI, wp_neI, wp_eqS, wp_neS, wp_is0', wp_not0', wp_isB, wp_notB, wp_lenT, wp_lenL, wp_tupT, wp_tupL, wp_lstT, ws_next, ws_brk, ws_cont, ws_seq, ws_expr, ws_ret, ws_retN, ws_set, ws_asg, ws_put, ws_raise, ws_if, ws_for1, wp_and, wp_or, wp_tand, wp_tor, wp_ifE, wp_chain, gSlot, wp_tru, wp_truI, wp_truB, wp_truT, wp_truL, wp_intB, wp_max, wp_min, ws_par2, ws_par3, ws_aug, wp_iadd, ws_chn, setN, wp_star, wp_seqT, wp_seqL, wp_slL, wp_addL, wp_boolL, wp_mulAL, wp_gcd, List.getElem?_cons_succ, List.getElem?_cons_zero, List.map_cons, List.map_nil, List.length_cons, List.length_nil, List.replicate_succ, List.replicate_zero, List.cons_append, List.nil_append, List.set_cons_succ, List.set_cons_zero, Option.some.injEq, exists_eq_left', Nat.reduceAdd, Nat.reduceSub, Nat.zero_add, Nat.add_zero, true_and, and_true, Vl.int.injEq, Vl.bl.injEq, Vl.loc.injEq, Vl.tup.injEq, exists_eq', exists_eq_left, Ob.lst.injEq, isS_non, isS_int, isS_tup, isS_bl, isS_loc, Bool.not_true, Bool.not_false]
  refine draw_ok h (by omega) fun m1 S1 m10 m11 k1 D1 F1 => ?_
  simp only [wp_ret, wp_stuck, wp_ifs, wp_newL, wp_var, wp_c, wp_op, wp_un, wp_tval, wp_tnot, wp_not, wp_nil, wp_cons, wp_tup, wp_lst, wp_dct, wp_call, wp_app, wp_append, wp_ixT, wp_ixL, wp_put, wp_sl, wp_pn, wp_ps, wp_slT, wp_addI, wp_addT, wp_sub, wp_mulAI, wp_mulAT, wp_mul, wp_div, wp_mod, wp_pow, wp_neg, wp_cmp, wp_eqI, wp_neI, wp_eqS, wp_neS, wp_is0', wp_not0', wp_isB, wp_notB, wp_lenT, wp_lenL, wp_tupT, wp_tupL, wp_lstT, ws_next, ws_brk, ws_cont, ws_seq, ws_expr, ws_ret, ws_retN, ws_set, ws_asg, ws_put, ws_raise, ws_if, ws_for1, wp_and, wp_or, wp_tand, wp_tor, wp_ifE, wp_chain, gSlot, wp_tru, wp_truI, wp_truB, wp_truT, wp_truL, wp_intB, wp_max, wp_min, ws_par2, ws_par3, ws_aug, wp_iadd, ws_chn, setN, wp_star, wp_seqT, wp_seqL, wp_slL, wp_addL, wp_boolL, wp_mulAL, wp_gcd, List.getElem?_cons_succ, List.getElem?_cons_zero, List.map_cons, List.map_nil, List.length_cons, List.length_nil, List.replicate_succ, List.replicate_zero, List.cons_append, List.nil_append, List.set_cons_succ, List.set_cons_zero, Option.some.injEq, exists_eq_left', Nat.reduceAdd, Nat.reduceSub, Nat.zero_add, Nat.add_zero, true_and, and_true, Vl.int.injEq, Vl.bl.injEq, Vl.loc.injEq, Vl.tup.injEq, exists_eq', exists_eq_left, Ob.lst.injEq, isS_non, isS_int, isS_tup, isS_bl, isS_loc, Bool.not_true, Bool.not_false]
  refine ⟨by decide, draw_ok D1 (by omega) fun m2 S2 m20 m21 k2 D2 F2 => ?_⟩
  simp only [wp_ret, wp_stuck, wp_ifs, wp_newL, wp_var, wp_c, wp_op, wp_un, wp_tval, wp_tnot, wp_not, wp_nil, wp_cons, wp_tup, wp_lst, wp_dct, wp_call, wp_app, wp_append, wp_ixT, wp_ixL, wp_put, wp_sl, wp_pn, wp_ps, wp_slT, wp_addI, wp_addT, wp_sub, wp_mulAI, wp_mulAT, wp_mul, wp_div, wp_mod, wp_pow, wp_neg, wp_cmp, wp_eqI, wp_neI, wp_eqS, wp_neS, wp_is0', wp_not0', wp_isB, wp_notB, wp_lenT, wp_lenL, wp_tupT, wp_tupL, wp_lstT, ws_next, ws_brk, ws_cont, ws_seq, ws_expr, ws_ret, ws_retN, ws_set, ws_asg, ws_put, ws_raise, ws_if, ws_for1, wp_and, wp_or, wp_tand, wp_tor, wp_ifE, wp_chain, gSlot, wp_tru, wp_truI, wp_truB, wp_truT, wp_truL, wp_intB, wp_max, wp_min, ws_par2, ws_par3, ws_aug, wp_iadd, ws_chn, setN, wp_star, wp_seqT, wp_seqL, wp_slL, wp_addL, wp_boolL, wp_mulAL, wp_gcd, List.getElem?_cons_succ, List.getElem?_cons_zero, List.map_cons, List.map_nil, List.length_cons, List.length_nil, List.replicate_succ, List.replicate_zero, List.cons_append, List.nil_append, List.set_cons_succ, List.set_cons_zero, Option.some.injEq, exists_eq_left', Nat.reduceAdd, Nat.reduceSub, Nat.zero_add, Nat.add_zero, true_and, and_true, Vl.int.injEq, Vl.bl.injEq, Vl.loc.injEq, Vl.tup.injEq, exists_eq', exists_eq_left, Ob.lst.injEq, isS_non, isS_int, isS_tup, isS_bl, isS_loc, Bool.not_true, Bool.not_false]
  refine ⟨by omega, draw_ok D2 (by omega) fun m3 S3 m30 m31 k3 D3 F3 => ?_⟩
  simp only [wp_ret, wp_stuck, wp_ifs, wp_newL, wp_var, wp_c, wp_op, wp_un, wp_tval, wp_tnot, wp_not, wp_nil, wp_cons, wp_tup, wp_lst, wp_dct, wp_call, wp_app, wp_append, wp_ixT, wp_ixL, wp_put, wp_sl, wp_pn, wp_ps, wp_slT, wp_addI, wp_addT, wp_sub, wp_mulAI, wp_mulAT, wp_mul, wp_div, wp_mod, wp_pow, wp_neg, wp_cmp, wp_eqI, wp_neI, wp_eqS, wp_neS, wp_is0', wp_not0', wp_isB, wp_notB, wp_lenT, wp_lenL, wp_tupT, wp_tupL, wp_lstT, ws_next, ws_brk, ws_cont, ws_seq, ws_expr, ws_ret, ws_retN, ws_set, ws_asg, ws_put, ws_raise, ws_if, ws_for1, wp_and, wp_or, wp_tand, wp_tor, wp_ifE, wp_chain, gSlot, wp_tru, wp_truI, wp_truB, wp_truT, wp_truL, wp_intB, wp_max, wp_min, ws_par2, ws_par3, ws_aug, wp_iadd, ws_chn, setN, wp_star, wp_seqT, wp_seqL, wp_slL, wp_addL, wp_boolL, wp_mulAL, wp_gcd, List.getElem?_cons_succ, List.getElem?_cons_zero, List.map_cons, List.map_nil, List.length_cons, List.length_nil, List.replicate_succ, List.replicate_zero, List.cons_append, List.nil_append, List.set_cons_succ, List.set_cons_zero, Option.some.injEq, exists_eq_left', Nat.reduceAdd, Nat.reduceSub, Nat.zero_add, Nat.add_zero, true_and, and_true, Vl.int.injEq, Vl.bl.injEq, Vl.loc.injEq, Vl.tup.injEq, exists_eq', exists_eq_left, Ob.lst.injEq, isS_non, isS_int, isS_tup, isS_bl, isS_loc, Bool.not_true, Bool.not_false]
  have z3 := D3.two
  refine ⟨by omega, by decide, by decide, by decide, draw_ok D3.app.app (by omega) fun m4 S4 m40 m41 k4 D4 F4 => ?_⟩
  simp only [wp_ret, wp_stuck, wp_ifs, wp_newL, wp_var, wp_c, wp_op, wp_un, wp_tval, wp_tnot, wp_not, wp_nil, wp_cons, wp_tup, wp_lst, wp_dct, wp_call, wp_app, wp_append, wp_ixT, wp_ixL, wp_put, wp_sl, wp_pn, wp_ps, wp_slT, wp_addI, wp_addT, wp_sub, wp_mulAI, wp_mulAT, wp_mul, wp_div, wp_mod, wp_pow, wp_neg, wp_cmp, wp_eqI, wp_neI, wp_eqS, wp_neS, wp_is0', wp_not0', wp_isB, wp_notB, wp_lenT, wp_lenL, wp_tupT, wp_tupL, wp_lstT, ws_next, ws_brk, ws_cont, ws_seq, ws_expr, ws_ret, ws_retN, ws_set, ws_asg, ws_put, ws_raise, ws_if, ws_for1, wp_and, wp_or, wp_tand, wp_tor, wp_ifE, wp_chain, gSlot, wp_tru, wp_truI, wp_truB, wp_truT, wp_truL, wp_intB, wp_max, wp_min, ws_par2, ws_par3, ws_aug, wp_iadd, ws_chn, setN, wp_star, wp_seqT, wp_seqL, wp_slL, wp_addL, wp_boolL, wp_mulAL, wp_gcd, List.getElem?_cons_succ, List.getElem?_cons_zero, List.map_cons, List.map_nil, List.length_cons, List.length_nil, List.replicate_succ, List.replicate_zero, List.cons_append, List.nil_append, List.set_cons_succ, List.set_cons_zero, Option.some.injEq, exists_eq_left', Nat.reduceAdd, Nat.reduceSub, Nat.zero_add, Nat.add_zero, true_and, and_true, Vl.int.injEq, Vl.bl.injEq, Vl.loc.injEq, Vl.tup.injEq, exists_eq', exists_eq_left, Ob.lst.injEq, isS_non, isS_int, isS_tup, isS_bl, isS_loc, Bool.not_true, Bool.not_false, F4.last (S := S3 ++ [Ob.lst []]) (by simp <;> omega)]
  refine ⟨by decide, ?_⟩
  obtain ⟨v, hv, hm⟩ := ix_mod (xs := [.int 0, .int 1, .int 2, .int 2, .int 1]) (m := m4) (j := 5) rfl (by decide)
  have : ∃ c : Nat, v = .int c ∧ c ≤ 2 := by
    simp only [List.mem_cons, List.not_mem_nil, or_false] at hm
    rcases hm with rfl | rfl | rfl | rfl | rfl
    · exact ⟨0, rfl, by decide⟩
    · exact ⟨1, rfl, by decide⟩
    · exact ⟨2, rfl, by decide⟩
    · exact ⟨2, rfl, by decide⟩
    · exact ⟨1, rfl, by decide⟩
  obtain ⟨c, rfl, hc⟩ := this
  refine ⟨_, hv, c, rfl, ⟨by omega, by omega⟩, ?_⟩
  rw [Int.toNat_natCast]
  have zl : S.length ≤ S3.length := by omega
  refine ws_range (fun i ρ S' => ∃ kk p q rs, ρ = [some (.loc 1), some (.int base), some (.int ray), some (.int (m1.fmod 3)), some (.tup [.int (m2.fmod (base + 1)), .int (m3.fmod (base + 1))]), some (.loc S3.length), kk, p, q] ∧ RsOk rs ∧ rs.length ≤ i ∧ S'[S3.length]? = some (.lst (rs.map rayV)) ∧ Dr S' (f - 4 - 2 * i) ∧ Fr S S')
    ⟨_, _, _, [], rfl, RsOk.nil, Nat.zero_le _, F4.get get_mid (by omega), D4.less, F1.trans (F2.trans (F3.trans (Fr.app.trans (Fr.app.trans F4))))⟩ ?_ ?_
  · rintro i ρ S' hi ⟨kk, p, q, rs, rfl, hrs, hl, hs, D5, F5⟩
    refine ⟨_, rfl, ?_⟩
    simp only [wp_ret, wp_stuck, wp_ifs, wp_newL, wp_var, wp_c, wp_op, wp_un, wp_tval, wp_tnot, wp_not, wp_nil, wp_cons, wp_tup, wp_lst, wp_dct, wp_call, wp_app, wp_append, wp_ixT, wp_ixL, wp_put, wp_sl, wp_pn, wp_ps, wp_slT, wp_addI, wp_addT, wp_sub, wp_mulAI, wp_mulAT, wp_mul, wp_div, wp_mod, wp_pow, wp_neg, wp_cmp, wp_eqI, wp_neI, wp_eqS, wp_neS, wp_is0', wp_not0', wp_isB, wp_notB, wp_lenT, wp_lenL, wp_tupT, wp_tupL, wp_lstT, ws_next, ws_brk, ws_cont, ws_seq, ws_expr, ws_ret, ws_retN, ws_set, ws_asg, ws_put, ws_raise, ws_if, ws_for1, wp_and, wp_or, wp_tand, wp_tor, wp_ifE, wp_chain, gSlot, wp_tru, wp_truI, wp_truB, wp_truT, wp_truL, wp_intB, wp_max, wp_min, ws_par2, ws_par3, ws_aug, wp_iadd, ws_chn, setN, wp_star, wp_seqT, wp_seqL, wp_slL, wp_addL, wp_boolL, wp_mulAL, wp_gcd, List.getElem?_cons_succ, List.getElem?_cons_zero, List.map_cons, List.map_nil, List.length_cons, List.length_nil, List.replicate_succ, List.replicate_zero, List.cons_append, List.nil_append, List.set_cons_succ, List.set_cons_zero, Option.some.injEq, exists_eq_left', Nat.reduceAdd, Nat.reduceSub, Nat.zero_add, Nat.add_zero, true_and, and_true, Vl.int.injEq, Vl.bl.injEq, Vl.loc.injEq, Vl.tup.injEq, exists_eq', exists_eq_left, Ob.lst.injEq, isS_non, isS_int, isS_tup, isS_bl, isS_loc, Bool.not_true, Bool.not_false]
    refine draw_ok D5 (by omega) fun n1 T1 n10 n11 j1 G1 J1 => ?_
    simp only [wp_ret, wp_stuck, wp_ifs, wp_newL, wp_var, wp_c, wp_op, wp_un, wp_tval, wp_tnot, wp_not, wp_nil, wp_cons, wp_tup, wp_lst, wp_dct, wp_call, wp_app, wp_append, wp_ixT, wp_ixL, wp_put, wp_sl, wp_pn, wp_ps, wp_slT, wp_addI, wp_addT, wp_sub, wp_mulAI, wp_mulAT, wp_mul, wp_div, wp_mod, wp_pow, wp_neg, wp_cmp, wp_eqI, wp_neI, wp_eqS, wp_neS, wp_is0', wp_not0', wp_isB, wp_notB, wp_lenT, wp_lenL, wp_tupT, wp_tupL, wp_lstT, ws_next, ws_brk, ws_cont, ws_seq, ws_expr, ws_ret, ws_retN, ws_set, ws_asg, ws_put, ws_raise, ws_if, ws_for1, wp_and, wp_or, wp_tand, wp_tor, wp_ifE, wp_chain, gSlot, wp_tru, wp_truI, wp_truB, wp_truT, wp_truL, wp_intB, wp_max, wp_min, ws_par2, ws_par3, ws_aug, wp_iadd, ws_chn, setN, wp_star, wp_seqT, wp_seqL, wp_slL, wp_addL, wp_boolL, wp_mulAL, wp_gcd, List.getElem?_cons_succ, List.getElem?_cons_zero, List.map_cons, List.map_nil, List.length_cons, List.length_nil, List.replicate_succ, List.replicate_zero, List.cons_append, List.nil_append, List.set_cons_succ, List.set_cons_zero, Option.some.injEq, exists_eq_left', Nat.reduceAdd, Nat.reduceSub, Nat.zero_add, Nat.add_zero, true_and, and_true, Vl.int.injEq, Vl.bl.injEq, Vl.loc.injEq, Vl.tup.injEq, exists_eq', exists_eq_left, Ob.lst.injEq, isS_non, isS_int, isS_tup, isS_bl, isS_loc, Bool.not_true, Bool.not_false]
    refine ⟨by omega, draw_ok G1 (by omega) fun n2 T2 n20 n21 j2 G2 J2 => ?_⟩
    simp only [wp_ret, wp_stuck, wp_ifs, wp_newL, wp_var, wp_c, wp_op, wp_un, wp_tval, wp_tnot, wp_not, wp_nil, wp_cons, wp_tup, wp_lst, wp_dct, wp_call, wp_app, wp_append, wp_ixT, wp_ixL, wp_put, wp_sl, wp_pn, wp_ps, wp_slT, wp_addI, wp_addT, wp_sub, wp_mulAI, wp_mulAT, wp_mul, wp_div, wp_mod, wp_pow, wp_neg, wp_cmp, wp_eqI, wp_neI, wp_eqS, wp_neS, wp_is0', wp_not0', wp_isB, wp_notB, wp_lenT, wp_lenL, wp_tupT, wp_tupL, wp_lstT, ws_next, ws_brk, ws_cont, ws_seq, ws_expr, ws_ret, ws_retN, ws_set, ws_asg, ws_put, ws_raise, ws_if, ws_for1, wp_and, wp_or, wp_tand, wp_tor, wp_ifE, wp_chain, gSlot, wp_tru, wp_truI, wp_truB, wp_truT, wp_truL, wp_intB, wp_max, wp_min, ws_par2, ws_par3, ws_aug, wp_iadd, ws_chn, setN, wp_star, wp_seqT, wp_seqL, wp_slL, wp_addL, wp_boolL, wp_mulAL, wp_gcd, List.getElem?_cons_succ, List.getElem?_cons_zero, List.map_cons, List.map_nil, List.length_cons, List.length_nil, List.replicate_succ, List.replicate_zero, List.cons_append, List.nil_append, List.set_cons_succ, List.set_cons_zero, Option.some.injEq, exists_eq_left', Nat.reduceAdd, Nat.reduceSub, Nat.zero_add, Nat.add_zero, true_and, and_true, Vl.int.injEq, Vl.bl.injEq, Vl.loc.injEq, Vl.tup.injEq, exists_eq', exists_eq_left, Ob.lst.injEq, isS_non, isS_int, isS_tup, isS_bl, isS_loc, Bool.not_true, Bool.not_false, ws_ite]
    have x0 := fm0 (i := n1) (j := ray + 1) (by omega)
    have x1 := fm1 (i := n1) (j := ray + 1) (by omega)
    have y0 := fm0 (i := n2) (j := ray + 1) (by omega)
    have y1 := fm1 (i := n2) (j := ray + 1) (by omega)
    have hs2 := J2.get (J1.get hs (by omega)) (by omega)
    have F6 := F5.trans (J1.trans J2)
    have fin : ∀ {p q : Int} {kk : Option Vl} (hp : 0 ≤ p ∧ p ≤ 4) (hq : 0 ≤ q ∧ q ≤ 4) (hpq : ¬ (p = 0 ∧ q = 0)) (D : Dk), (∀ ρ S', (∃ kk p q rs, ρ = [some (.loc 1), some (.int base), some (.int ray), some (.int (m1.fmod 3)), some (.tup [.int (m2.fmod (base + 1)), .int (m3.fmod (base + 1))]), some (.loc S3.length), kk, p, q] ∧ RsOk rs ∧ rs.length ≤ i + 1 ∧ S'[S3.length]? = some (.lst (rs.map rayV)) ∧ Dr S' (f - 4 - 2 * (i + 1)) ∧ Fr S S') → D.nx ρ S') →
        Ws (C [some (.loc 1), some (.int base), some (.int ray), some (.int (m1.fmod 3)), some (.tup [.int (m2.fmod (base + 1)), .int (m3.fmod (base + 1))]), some (.loc S3.length), kk, some (.int p), some (.int q)] T2) D := fun {p q kk} hp hq hpq D hj => by
      subst hC
      refine push_ok hp hq hpq hrs (by omega) hs2 fun rs2 S7 q1 q2 q3 q4 => hj _ _ ⟨_, _, _, rs2, rfl, q1, by omega, q3, ?_, ?_⟩
      · obtain ⟨T, rfl | ⟨o, rfl⟩⟩ := q4
        · exact G2.app.less
        · exact (G2.app.set (by omega)).less
      · obtain ⟨T, rfl | ⟨o, rfl⟩⟩ := q4
        · exact F6.trans Fr.app
        · exact (F6.trans Fr.app).set zl
    refine ⟨by omega, wp_ite'.mpr ⟨fun z1 => ?_, fun z1 => ?_⟩⟩
    · simp only [wp_ret, wp_stuck, wp_ifs, wp_newL, wp_var, wp_c, wp_op, wp_un, wp_tval, wp_tnot, wp_not, wp_nil, wp_cons, wp_tup, wp_lst, wp_dct, wp_call, wp_app, wp_append, wp_ixT, wp_ixL, wp_put, wp_sl, wp_pn, wp_ps, wp_slT, wp_addI, wp_addT, wp_sub, wp_mulAI, wp_mulAT, wp_mul, wp_div, wp_mod, wp_pow, wp_neg, wp_cmp, wp_eqI, wp_neI, wp_eqS, wp_neS, wp_is0', wp_not0', wp_isB, wp_notB, wp_lenT, wp_lenL, wp_tupT, wp_tupL, wp_lstT, ws_next, ws_brk, ws_cont, ws_seq, ws_expr, ws_ret, ws_retN, ws_set, ws_asg, ws_put, ws_raise, ws_if, ws_for1, wp_and, wp_or, wp_tand, wp_tor, wp_ifE, wp_chain, gSlot, wp_tru, wp_truI, wp_truB, wp_truT, wp_truL, wp_intB, wp_max, wp_min, ws_par2, ws_par3, ws_aug, wp_iadd, ws_chn, setN, wp_star, wp_seqT, wp_seqL, wp_slL, wp_addL, wp_boolL, wp_mulAL, wp_gcd, List.getElem?_cons_succ, List.getElem?_cons_zero, List.map_cons, List.map_nil, List.length_cons, List.length_nil, List.replicate_succ, List.replicate_zero, List.cons_append, List.nil_append, List.set_cons_succ, List.set_cons_zero, Option.some.injEq, exists_eq_left', Nat.reduceAdd, Nat.reduceSub, Nat.zero_add, Nat.add_zero, true_and, and_true, Vl.int.injEq, Vl.bl.injEq, Vl.loc.injEq, Vl.tup.injEq, exists_eq', exists_eq_left, Ob.lst.injEq, isS_non, isS_int, isS_tup, isS_bl, isS_loc, Bool.not_true, Bool.not_false]
      refine ⟨fun z2 => fin ⟨x0, by omega⟩ ⟨by decide, by decide⟩ (by omega) _ fun ρ S' q => q, fun z2 => fin ⟨x0, by omega⟩ ⟨y0, by omega⟩ (fun z => ?_) _ fun ρ S' q => q⟩
      have := of_decide_eq_false z2
      exact this z.2
    · simp only [wp_ret, wp_stuck, wp_ifs, wp_newL, wp_var, wp_c, wp_op, wp_un, wp_tval, wp_tnot, wp_not, wp_nil, wp_cons, wp_tup, wp_lst, wp_dct, wp_call, wp_app, wp_append, wp_ixT, wp_ixL, wp_put, wp_sl, wp_pn, wp_ps, wp_slT, wp_addI, wp_addT, wp_sub, wp_mulAI, wp_mulAT, wp_mul, wp_div, wp_mod, wp_pow, wp_neg, wp_cmp, wp_eqI, wp_neI, wp_eqS, wp_neS, wp_is0', wp_not0', wp_isB, wp_notB, wp_lenT, wp_lenL, wp_tupT, wp_tupL, wp_lstT, ws_next, ws_brk, ws_cont, ws_seq, ws_expr, ws_ret, ws_retN, ws_set, ws_asg, ws_put, ws_raise, ws_if, ws_for1, wp_and, wp_or, wp_tand, wp_tor, wp_ifE, wp_chain, gSlot, wp_tru, wp_truI, wp_truB, wp_truT, wp_truL, wp_intB, wp_max, wp_min, ws_par2, ws_par3, ws_aug, wp_iadd, ws_chn, setN, wp_star, wp_seqT, wp_seqL, wp_slL, wp_addL, wp_boolL, wp_mulAL, wp_gcd, List.getElem?_cons_succ, List.getElem?_cons_zero, List.map_cons, List.map_nil, List.length_cons, List.length_nil, List.replicate_succ, List.replicate_zero, List.cons_append, List.nil_append, List.set_cons_succ, List.set_cons_zero, Option.some.injEq, exists_eq_left', Nat.reduceAdd, Nat.reduceSub, Nat.zero_add, Nat.add_zero, true_and, and_true, Vl.int.injEq, Vl.bl.injEq, Vl.loc.injEq, Vl.tup.injEq, exists_eq', exists_eq_left, Ob.lst.injEq, isS_non, isS_int, isS_tup, isS_bl, isS_loc, Bool.not_true, Bool.not_false]
      refine ⟨(fun z => nomatch z), fun _ => fin ⟨x0, by omega⟩ ⟨y0, by omega⟩ (fun z => ?_) _ fun ρ S' q => q⟩
      have := of_decide_eq_false z1
      exact this z.1
  · rintro ρ S' ⟨kk, p, q, rs, rfl, hrs, hl, hs, D5, F5⟩
    simp only [wp_ret, wp_stuck, wp_ifs, wp_newL, wp_var, wp_c, wp_op, wp_un, wp_tval, wp_tnot, wp_not, wp_nil, wp_cons, wp_tup, wp_lst, wp_dct, wp_call, wp_app, wp_append, wp_ixT, wp_ixL, wp_put, wp_sl, wp_pn, wp_ps, wp_slT, wp_addI, wp_addT, wp_sub, wp_mulAI, wp_mulAT, wp_mul, wp_div, wp_mod, wp_pow, wp_neg, wp_cmp, wp_eqI, wp_neI, wp_eqS, wp_neS, wp_is0', wp_not0', wp_isB, wp_notB, wp_lenT, wp_lenL, wp_tupT, wp_tupL, wp_lstT, ws_next, ws_brk, ws_cont, ws_seq, ws_expr, ws_ret, ws_retN, ws_set, ws_asg, ws_put, ws_raise, ws_if, ws_for1, wp_and, wp_or, wp_tand, wp_tor, wp_ifE, wp_chain, gSlot, wp_tru, wp_truI, wp_truB, wp_truT, wp_truL, wp_intB, wp_max, wp_min, ws_par2, ws_par3, ws_aug, wp_iadd, ws_chn, setN, wp_star, wp_seqT, wp_seqL, wp_slL, wp_addL, wp_boolL, wp_mulAL, wp_gcd, List.getElem?_cons_succ, List.getElem?_cons_zero, List.map_cons, List.map_nil, List.length_cons, List.length_nil, List.replicate_succ, List.replicate_zero, List.cons_append, List.nil_append, List.set_cons_succ, List.set_cons_zero, Option.some.injEq, exists_eq_left', Nat.reduceAdd, Nat.reduceSub, Nat.zero_add, Nat.add_zero, true_and, and_true, Vl.int.injEq, Vl.bl.injEq, Vl.loc.injEq, Vl.tup.injEq, exists_eq', exists_eq_left, Ob.lst.injEq, isS_non, isS_int, isS_tup, isS_bl, isS_loc, Bool.not_true, Bool.not_false, hs]
    have x0 := fm0 (i := m1) (j := 3) (by omega)
    have x1 := fm1 (i := m1) (j := 3) (by omega)
    have y0 := fm0 (i := m2) (j := base + 1) (by omega)
    have y1 := fm1 (i := m2) (j := base + 1) (by omega)
    have w0 := fm0 (i := m3) (j := base + 1) (by omega)
    have w1 := fm1 (i := m3) (j := base + 1) (by omega)
    exact ⟨by decide, hQ ⟨m1.fmod 3, m2.fmod (base + 1), m3.fmod (base + 1), rs⟩ S' ⟨⟨x0, x1⟩, ⟨y0, by dsimp only; omega⟩, ⟨w0, by dsimp only; omega⟩, hrs.len, hrs.ray, hrs.cross⟩ D5.less F5⟩
theorem lot_made {base ray : Int} (hb : 1 ≤ base ∧ base ≤ 12) (hr : 1 ≤ ray ∧ ray ≤ 4) {f : Nat} {S : Store} (h : Dr S f) (hf : 200 ≤ f) {Q : Vl → Store → Prop} {E : Str → Store → Prop} (hQ : ∀ fs n S', LotOk fs → S.length ≤ n → S'[n]? = some (.lst (lotV fs)) → Dr S' (f - 200) → Fr S S' → Q (.loc n) S') :
    Wp (r__law_lot [.loc 1, .int 4, .int base, .int ray]) S Q E := by
  have hz := h.two
  unfold r__law_lot b__law_lot
  rw [wp_fn]
  simp only [wp_ret, wp_stuck, wp_ifs, wp_newL, wp_var, wp_c, wp_op, wp_un, wp_tval, wp_tnot, wp_not, wp_nil, wp_cons, wp_tup, wp_lst, wp_dct, wp_call, wp_app, wp_append, wp_ixT, wp_ixL, wp_put, wp_sl, wp_pn, wp_ps, wp_slT, wp_addI, wp_addT, wp_sub, wp_mulAI, wp_mulAT, wp_mul, wp_div, wp_mod, wp_pow, wp_neg, wp_cmp, wp_eqI, wp_neI, wp_eqS, wp_neS, wp_is0', wp_not0', wp_isB, wp_notB, wp_lenT, wp_lenL, wp_tupT, wp_tupL, wp_lstT, ws_next, ws_brk, ws_cont, ws_seq, ws_expr, ws_ret, ws_retN, ws_set, ws_asg, ws_put, ws_raise, ws_if, ws_for1, wp_and, wp_or, wp_tand, wp_tor, wp_ifE, wp_chain, gSlot, wp_tru, wp_truI, wp_truB, wp_truT, wp_truL, wp_intB, wp_max, wp_min, ws_par2, ws_par3, ws_aug, wp_iadd, ws_chn, setN, wp_star, wp_seqT, wp_seqL, wp_slL, wp_addL, wp_boolL, wp_mulAL, wp_gcd, List.getElem?_cons_succ, List.getElem?_cons_zero, List.map_cons, List.map_nil, List.length_cons, List.length_nil, List.replicate_succ, List.replicate_zero, List.cons_append, List.nil_append, List.set_cons_succ, List.set_cons_zero, Option.some.injEq, exists_eq_left', Nat.reduceAdd, Nat.reduceSub, Nat.zero_add, Nat.add_zero, true_and, and_true, Vl.int.injEq, Vl.bl.injEq, Vl.loc.injEq, Vl.tup.injEq, exists_eq', exists_eq_left, Ob.lst.injEq, isS_non, isS_int, isS_tup, isS_bl, isS_loc, Bool.not_true, Bool.not_false]
  rw [wp_comp, wp_rg1]
  simp only [wp_ret, wp_stuck, wp_ifs, wp_newL, wp_var, wp_c, wp_op, wp_un, wp_tval, wp_tnot, wp_not, wp_nil, wp_cons, wp_tup, wp_lst, wp_dct, wp_call, wp_app, wp_append, wp_ixT, wp_ixL, wp_put, wp_sl, wp_pn, wp_ps, wp_slT, wp_addI, wp_addT, wp_sub, wp_mulAI, wp_mulAT, wp_mul, wp_div, wp_mod, wp_pow, wp_neg, wp_cmp, wp_eqI, wp_neI, wp_eqS, wp_neS, wp_is0', wp_not0', wp_isB, wp_notB, wp_lenT, wp_lenL, wp_tupT, wp_tupL, wp_lstT, ws_next, ws_brk, ws_cont, ws_seq, ws_expr, ws_ret, ws_retN, ws_set, ws_asg, ws_put, ws_raise, ws_if, ws_for1, wp_and, wp_or, wp_tand, wp_tor, wp_ifE, wp_chain, gSlot, wp_tru, wp_truI, wp_truB, wp_truT, wp_truL, wp_intB, wp_max, wp_min, ws_par2, ws_par3, ws_aug, wp_iadd, ws_chn, setN, wp_star, wp_seqT, wp_seqL, wp_slL, wp_addL, wp_boolL, wp_mulAL, wp_gcd, List.getElem?_cons_succ, List.getElem?_cons_zero, List.map_cons, List.map_nil, List.length_cons, List.length_nil, List.replicate_succ, List.replicate_zero, List.cons_append, List.nil_append, List.set_cons_succ, List.set_cons_zero, Option.some.injEq, exists_eq_left', Nat.reduceAdd, Nat.reduceSub, Nat.zero_add, Nat.add_zero, true_and, and_true, Vl.int.injEq, Vl.bl.injEq, Vl.loc.injEq, Vl.tup.injEq, exists_eq', exists_eq_left, Ob.lst.injEq, isS_non, isS_int, isS_tup, isS_bl, isS_loc, Bool.not_true, Bool.not_false]
  refine draw_ok h (by omega) fun m S1 m0 m1 k1 D1 F1 => ?_
  simp only [wp_ret, wp_stuck, wp_ifs, wp_newL, wp_var, wp_c, wp_op, wp_un, wp_tval, wp_tnot, wp_not, wp_nil, wp_cons, wp_tup, wp_lst, wp_dct, wp_call, wp_app, wp_append, wp_ixT, wp_ixL, wp_put, wp_sl, wp_pn, wp_ps, wp_slT, wp_addI, wp_addT, wp_sub, wp_mulAI, wp_mulAT, wp_mul, wp_div, wp_mod, wp_pow, wp_neg, wp_cmp, wp_eqI, wp_neI, wp_eqS, wp_neS, wp_is0', wp_not0', wp_isB, wp_notB, wp_lenT, wp_lenL, wp_tupT, wp_tupL, wp_lstT, ws_next, ws_brk, ws_cont, ws_seq, ws_expr, ws_ret, ws_retN, ws_set, ws_asg, ws_put, ws_raise, ws_if, ws_for1, wp_and, wp_or, wp_tand, wp_tor, wp_ifE, wp_chain, gSlot, wp_tru, wp_truI, wp_truB, wp_truT, wp_truL, wp_intB, wp_max, wp_min, ws_par2, ws_par3, ws_aug, wp_iadd, ws_chn, setN, wp_star, wp_seqT, wp_seqL, wp_slL, wp_addL, wp_boolL, wp_mulAL, wp_gcd, List.getElem?_cons_succ, List.getElem?_cons_zero, List.map_cons, List.map_nil, List.length_cons, List.length_nil, List.replicate_succ, List.replicate_zero, List.cons_append, List.nil_append, List.set_cons_succ, List.set_cons_zero, Option.some.injEq, exists_eq_left', Nat.reduceAdd, Nat.reduceSub, Nat.zero_add, Nat.add_zero, true_and, and_true, Vl.int.injEq, Vl.bl.injEq, Vl.loc.injEq, Vl.tup.injEq, exists_eq', exists_eq_left, Ob.lst.injEq, isS_non, isS_int, isS_tup, isS_bl, isS_loc, Bool.not_true, Bool.not_false]
  have x0 := fm0 (i := m) (j := 4 + 1) (by omega)
  have x1 := fm1 (i := m) (j := 4 + 1) (by omega)
  have z1 := D1.two
  refine ⟨by decide, ⟨by omega, by omega⟩, ?_⟩
  refine wp_compL (fun i S' => ∃ fs, (∀ v ∈ fs, Fan.Ok v) ∧ fs.length ≤ i ∧ S'[S1.length]? = some (.lst (lotV fs)) ∧ Dr S' (f - 1 - 20 * i) ∧ Fr S S') _ 0 _ ⟨[], (by simp), Nat.zero_le _, get_last, D1.app, F1.trans Fr.app⟩ ?_ ?_
  · rintro j x T hx ⟨fs, hv, hl, hs, D, F⟩
    obtain ⟨hj, rfl⟩ := irange_get hx
    refine ⟨trivial, ?_⟩
    show (true = true → _) ∧ (true = false → _)
    refine ⟨fun _ => ?_, fun z => nomatch z⟩
    simp only [wp_ret, wp_stuck, wp_ifs, wp_newL, wp_var, wp_c, wp_op, wp_un, wp_tval, wp_tnot, wp_not, wp_nil, wp_cons, wp_tup, wp_lst, wp_dct, wp_call, wp_app, wp_append, wp_ixT, wp_ixL, wp_put, wp_sl, wp_pn, wp_ps, wp_slT, wp_addI, wp_addT, wp_sub, wp_mulAI, wp_mulAT, wp_mul, wp_div, wp_mod, wp_pow, wp_neg, wp_cmp, wp_eqI, wp_neI, wp_eqS, wp_neS, wp_is0', wp_not0', wp_isB, wp_notB, wp_lenT, wp_lenL, wp_tupT, wp_tupL, wp_lstT, ws_next, ws_brk, ws_cont, ws_seq, ws_expr, ws_ret, ws_retN, ws_set, ws_asg, ws_put, ws_raise, ws_if, ws_for1, wp_and, wp_or, wp_tand, wp_tor, wp_ifE, wp_chain, gSlot, wp_tru, wp_truI, wp_truB, wp_truT, wp_truL, wp_intB, wp_max, wp_min, ws_par2, ws_par3, ws_aug, wp_iadd, ws_chn, setN, wp_star, wp_seqT, wp_seqL, wp_slL, wp_addL, wp_boolL, wp_mulAL, wp_gcd, List.getElem?_cons_succ, List.getElem?_cons_zero, List.map_cons, List.map_nil, List.length_cons, List.length_nil, List.replicate_succ, List.replicate_zero, List.cons_append, List.nil_append, List.set_cons_succ, List.set_cons_zero, Option.some.injEq, exists_eq_left', Nat.reduceAdd, Nat.reduceSub, Nat.zero_add, Nat.add_zero, true_and, and_true, Vl.int.injEq, Vl.bl.injEq, Vl.loc.injEq, Vl.tup.injEq, exists_eq', exists_eq_left, Ob.lst.injEq, isS_non, isS_int, isS_tup, isS_bl, isS_loc, Bool.not_true, Bool.not_false]
    refine fan_made hb hr D (by omega) fun w T2 hw D2 F2 => ?_
    have e2 := F2.get hs (by omega)
    have hline : 16777216 = line := rfl
    have hlv : (lotV fs).length = fs.length := List.length_map _
    refine ⟨lotV fs, e2, by omega, fs ++ [w], (fun x hx => ?_), (by simp; omega), ?_, (D2.set (by omega)).less, (F.trans F2).set (by omega)⟩
    · rcases List.mem_append.mp hx with hx | hx
      · exact hv x hx
      · simp only [List.mem_singleton] at hx; subst hx; exact hw
    · rw [List.getElem?_set_self (List.getElem?_eq_some_iff.mp e2).1]
      unfold lotV
      rw [List.map_append]
      rfl
  · rintro T ⟨fs, hv, hl, hs, D, F⟩
    rw [irange_len] at hl D
    exact ⟨trivial, hQ fs _ T ⟨by omega, hv⟩ (by omega) hs D.less F⟩
end LW
end Tw
end
section
set_option Elab.async false
set_option maxRecDepth 100000
set_option maxHeartbeats 3000000
set_option linter.all false
namespace Tw
open PySem L2
/-! ## 78. _law_equal, as it is written in other laws: with an if in an if -/
noncomputable def lawEqC (g : List Vl → M Vl) : Sv :=
  sSeq (sIf (tVal (eCall bIsi (aCons (eVar 1) (aCons (eC (.ty "list")) (aNil))))) (sSeq (sIf (tOr (tNot (tVal (eCall bIsi (aCons (eVar 0) (aCons (eC (.ty "list")) (aNil)))))) (tVal (eOp oNe (eCall bLen (aCons (eVar 0) (aNil))) (eCall bLen (aCons (eVar 1) (aNil)))))) (sRet (eC (.bl false))) (sNext))
  (sRet (eCall g (aCons (eVar 0) (aCons (eVar 1) (aNil)))))) (sNext))
  (sSeq (sIf (tVal (eCall bIsi (aCons (eVar 1) (aCons (eC (.ty "tuple")) (aNil))))) (sSeq (sIf (tOr (tNot (tVal (eCall bIsi (aCons (eVar 0) (aCons (eC (.ty "tuple")) (aNil)))))) (tVal (eOp oNe (eCall bLen (aCons (eVar 0) (aNil))) (eCall bLen (aCons (eVar 1) (aNil)))))) (sRet (eC (.bl false))) (sNext))
  (sRet (eCall g (aCons (eVar 0) (aCons (eVar 1) (aNil)))))) (sNext))
  (sSeq (sIf (tVal (eCall bIsi (aCons (eVar 1) (aCons (eC (.ty "bool")) (aNil))))) (sRet (eAnd (eCall bIsi (aCons (eVar 0) (aCons (eC (.ty "bool")) (aNil)))) (eOp oEq (eVar 0) (eVar 1)))) (sNext))
  (sSeq (sIf (tVal (eCall bIsi (aCons (eVar 1) (aCons (eC (.ty "int")) (aNil))))) (sRet (eAnd (eCall bIsi (aCons (eVar 0) (aCons (eC (.ty "int")) (aNil)))) (eAnd (eNot (eCall bIsi (aCons (eVar 0) (aCons (eC (.ty "bool")) (aNil))))) (eOp oEq (eVar 0) (eVar 1))))) (sNext))
  (sSeq (sIf (tVal (eCall bIsi (aCons (eVar 1) (aCons (eC (.ty "str")) (aNil))))) (sRet (eAnd (eCall bIsi (aCons (eVar 0) (aCons (eC (.ty "str")) (aNil)))) (eOp oEq (eVar 0) (eVar 1)))) (sNext))
  (sRet (eOp oIs0 (eVar 0) (eC .non)))))))
noncomputable def lawEqD (g : List Vl → M Vl) : List Vl → M Vl := fnM 2 2 (lawEqC g)
mutual
noncomputable def eqW : Nat → List Vl → M Vl
  | 0 => fun _ => stuck
  | k + 1 => lawEqD (allW k)
noncomputable def allW : Nat → List Vl → M Vl
  | 0 => fun _ => stuck
  | k + 1 => lawAll (eqW k)
end
theorem eqc_atom {g : List Vl → M Vl} {v : Vl} {S : Store} (h : atomV v = true) : lawEqD g [v, v] S = some (.ok (.bl true) S) := by
  refine wpe' ?_
  unfold lawEqD lawEqC
  rw [wp_fn]
  cases v <;> first | cases h; done | skip
  · simp only [wp_ret, wp_stuck, wp_ifs, wp_newL, wp_var, wp_c, wp_op, wp_un, wp_tval, wp_tnot, wp_not, wp_nil, wp_cons, wp_tup, wp_lst, wp_dct, wp_call, wp_app, wp_append, wp_ixT, wp_ixL, wp_put, wp_sl, wp_pn, wp_ps, wp_slT, wp_addI, wp_addT, wp_sub, wp_mulAI, wp_mulAT, wp_mul, wp_div, wp_mod, wp_pow, wp_neg, wp_cmp, wp_eqI, wp_neI, wp_eqS, wp_neS, wp_is0', wp_not0', wp_isB, wp_notB, wp_lenT, wp_lenL, wp_tupT, wp_tupL, wp_lstT, ws_next, ws_brk, ws_cont, ws_seq, ws_expr, ws_ret, ws_retN, ws_set, ws_asg, ws_put, ws_raise, ws_if, ws_for1, wp_and, wp_or, wp_tand, wp_tor, wp_ifE, wp_chain, gSlot, wp_tru, wp_truI, wp_truB, wp_truT, wp_intB, wp_max, wp_min, ws_par2, ws_par3, ws_aug, wp_iadd, ws_chn, setN, wp_star, wp_seqT, wp_seqL, wp_slL, wp_addL, wp_boolL, List.getElem?_cons_succ, List.getElem?_cons_zero, List.map_cons, List.map_nil, List.length_cons, List.length_nil, List.replicate_succ, List.replicate_zero, List.cons_append, List.nil_append, List.set_cons_succ, List.set_cons_zero, Option.some.injEq, exists_eq_left', Nat.reduceAdd, Nat.reduceSub, Nat.zero_add, Nat.add_zero, true_and, and_true, Vl.int.injEq, Vl.bl.injEq, Vl.loc.injEq, Vl.tup.injEq, exists_eq', exists_eq_left, Ob.lst.injEq, isS_non, isS_int, isS_tup, isS_bl, isS_loc, Bool.not_true, Bool.not_false, wp_of (isi_q (v := .non) (S := S) rfl kq_NoneType_list), wp_of (isi_q (v := .non) (S := S) rfl kq_NoneType_tuple), wp_of (isi_q (v := .non) (S := S) rfl kq_NoneType_bool), wp_of (isi_q (v := .non) (S := S) rfl kq_NoneType_int), wp_of (isi_q (v := .non) (S := S) rfl kq_NoneType_str), ws_ite', wp_ite']
    simp
  · rename_i b
    simp only [wp_ret, wp_stuck, wp_ifs, wp_newL, wp_var, wp_c, wp_op, wp_un, wp_tval, wp_tnot, wp_not, wp_nil, wp_cons, wp_tup, wp_lst, wp_dct, wp_call, wp_app, wp_append, wp_ixT, wp_ixL, wp_put, wp_sl, wp_pn, wp_ps, wp_slT, wp_addI, wp_addT, wp_sub, wp_mulAI, wp_mulAT, wp_mul, wp_div, wp_mod, wp_pow, wp_neg, wp_cmp, wp_eqI, wp_neI, wp_eqS, wp_neS, wp_is0', wp_not0', wp_isB, wp_notB, wp_lenT, wp_lenL, wp_tupT, wp_tupL, wp_lstT, ws_next, ws_brk, ws_cont, ws_seq, ws_expr, ws_ret, ws_retN, ws_set, ws_asg, ws_put, ws_raise, ws_if, ws_for1, wp_and, wp_or, wp_tand, wp_tor, wp_ifE, wp_chain, gSlot, wp_tru, wp_truI, wp_truB, wp_truT, wp_intB, wp_max, wp_min, ws_par2, ws_par3, ws_aug, wp_iadd, ws_chn, setN, wp_star, wp_seqT, wp_seqL, wp_slL, wp_addL, wp_boolL, List.getElem?_cons_succ, List.getElem?_cons_zero, List.map_cons, List.map_nil, List.length_cons, List.length_nil, List.replicate_succ, List.replicate_zero, List.cons_append, List.nil_append, List.set_cons_succ, List.set_cons_zero, Option.some.injEq, exists_eq_left', Nat.reduceAdd, Nat.reduceSub, Nat.zero_add, Nat.add_zero, true_and, and_true, Vl.int.injEq, Vl.bl.injEq, Vl.loc.injEq, Vl.tup.injEq, exists_eq', exists_eq_left, Ob.lst.injEq, isS_non, isS_int, isS_tup, isS_bl, isS_loc, Bool.not_true, Bool.not_false, wp_of (isi_q (v := .bl b) (S := S) rfl kq_bool_list), wp_of (isi_q (v := .bl b) (S := S) rfl kq_bool_tuple), wp_of (isi_q (v := .bl b) (S := S) rfl kq_bool_bool), wp_of (eqD_b b S), ws_ite', wp_ite']
    simp
  · rename_i i
    simp only [wp_ret, wp_stuck, wp_ifs, wp_newL, wp_var, wp_c, wp_op, wp_un, wp_tval, wp_tnot, wp_not, wp_nil, wp_cons, wp_tup, wp_lst, wp_dct, wp_call, wp_app, wp_append, wp_ixT, wp_ixL, wp_put, wp_sl, wp_pn, wp_ps, wp_slT, wp_addI, wp_addT, wp_sub, wp_mulAI, wp_mulAT, wp_mul, wp_div, wp_mod, wp_pow, wp_neg, wp_cmp, wp_eqI, wp_neI, wp_eqS, wp_neS, wp_is0', wp_not0', wp_isB, wp_notB, wp_lenT, wp_lenL, wp_tupT, wp_tupL, wp_lstT, ws_next, ws_brk, ws_cont, ws_seq, ws_expr, ws_ret, ws_retN, ws_set, ws_asg, ws_put, ws_raise, ws_if, ws_for1, wp_and, wp_or, wp_tand, wp_tor, wp_ifE, wp_chain, gSlot, wp_tru, wp_truI, wp_truB, wp_truT, wp_intB, wp_max, wp_min, ws_par2, ws_par3, ws_aug, wp_iadd, ws_chn, setN, wp_star, wp_seqT, wp_seqL, wp_slL, wp_addL, wp_boolL, List.getElem?_cons_succ, List.getElem?_cons_zero, List.map_cons, List.map_nil, List.length_cons, List.length_nil, List.replicate_succ, List.replicate_zero, List.cons_append, List.nil_append, List.set_cons_succ, List.set_cons_zero, Option.some.injEq, exists_eq_left', Nat.reduceAdd, Nat.reduceSub, Nat.zero_add, Nat.add_zero, true_and, and_true, Vl.int.injEq, Vl.bl.injEq, Vl.loc.injEq, Vl.tup.injEq, exists_eq', exists_eq_left, Ob.lst.injEq, isS_non, isS_int, isS_tup, isS_bl, isS_loc, Bool.not_true, Bool.not_false, wp_of (isi_q (v := .int i) (S := S) rfl kq_int_list), wp_of (isi_q (v := .int i) (S := S) rfl kq_int_tuple), wp_of (isi_q (v := .int i) (S := S) rfl kq_int_bool), wp_of (isi_q (v := .int i) (S := S) rfl kq_int_int), ws_ite', wp_ite']
    simp
  · rename_i i
    simp only [wp_ret, wp_stuck, wp_ifs, wp_newL, wp_var, wp_c, wp_op, wp_un, wp_tval, wp_tnot, wp_not, wp_nil, wp_cons, wp_tup, wp_lst, wp_dct, wp_call, wp_app, wp_append, wp_ixT, wp_ixL, wp_put, wp_sl, wp_pn, wp_ps, wp_slT, wp_addI, wp_addT, wp_sub, wp_mulAI, wp_mulAT, wp_mul, wp_div, wp_mod, wp_pow, wp_neg, wp_cmp, wp_eqI, wp_neI, wp_eqS, wp_neS, wp_is0', wp_not0', wp_isB, wp_notB, wp_lenT, wp_lenL, wp_tupT, wp_tupL, wp_lstT, ws_next, ws_brk, ws_cont, ws_seq, ws_expr, ws_ret, ws_retN, ws_set, ws_asg, ws_put, ws_raise, ws_if, ws_for1, wp_and, wp_or, wp_tand, wp_tor, wp_ifE, wp_chain, gSlot, wp_tru, wp_truI, wp_truB, wp_truT, wp_intB, wp_max, wp_min, ws_par2, ws_par3, ws_aug, wp_iadd, ws_chn, setN, wp_star, wp_seqT, wp_seqL, wp_slL, wp_addL, wp_boolL, List.getElem?_cons_succ, List.getElem?_cons_zero, List.map_cons, List.map_nil, List.length_cons, List.length_nil, List.replicate_succ, List.replicate_zero, List.cons_append, List.nil_append, List.set_cons_succ, List.set_cons_zero, Option.some.injEq, exists_eq_left', Nat.reduceAdd, Nat.reduceSub, Nat.zero_add, Nat.add_zero, true_and, and_true, Vl.int.injEq, Vl.bl.injEq, Vl.loc.injEq, Vl.tup.injEq, exists_eq', exists_eq_left, Ob.lst.injEq, isS_non, isS_int, isS_tup, isS_bl, isS_loc, Bool.not_true, Bool.not_false, wp_of (isi_q (v := .str i) (S := S) rfl kq_str_list), wp_of (isi_q (v := .str i) (S := S) rfl kq_str_tuple), wp_of (isi_q (v := .str i) (S := S) rfl kq_str_bool), wp_of (isi_q (v := .str i) (S := S) rfl kq_str_int), wp_of (isi_q (v := .str i) (S := S) rfl kq_str_str), ws_ite', wp_ite']
    simp
theorem eqc_tup {g : List Vl → M Vl} {xs ys : List Vl} {S : Store} (hl : xs.length = ys.length) (hz : ys.length ≤ line) (h : g [.tup xs, .tup ys] S = some (.ok (.bl true) S)) : lawEqD g [.tup xs, .tup ys] S = some (.ok (.bl true) S) := by
  refine wpe' ?_
  unfold lawEqD lawEqC
  rw [wp_fn]
  simp only [wp_ret, wp_stuck, wp_ifs, wp_newL, wp_var, wp_c, wp_op, wp_un, wp_tval, wp_tnot, wp_not, wp_nil, wp_cons, wp_tup, wp_lst, wp_dct, wp_call, wp_app, wp_append, wp_ixT, wp_ixL, wp_put, wp_sl, wp_pn, wp_ps, wp_slT, wp_addI, wp_addT, wp_sub, wp_mulAI, wp_mulAT, wp_mul, wp_div, wp_mod, wp_pow, wp_neg, wp_cmp, wp_eqI, wp_neI, wp_eqS, wp_neS, wp_is0', wp_not0', wp_isB, wp_notB, wp_lenT, wp_lenL, wp_tupT, wp_tupL, wp_lstT, ws_next, ws_brk, ws_cont, ws_seq, ws_expr, ws_ret, ws_retN, ws_set, ws_asg, ws_put, ws_raise, ws_if, ws_for1, wp_and, wp_or, wp_tand, wp_tor, wp_ifE, wp_chain, gSlot, wp_tru, wp_truI, wp_truB, wp_truT, wp_intB, wp_max, wp_min, ws_par2, ws_par3, ws_aug, wp_iadd, ws_chn, setN, wp_star, wp_seqT, wp_seqL, wp_slL, wp_addL, wp_boolL, List.getElem?_cons_succ, List.getElem?_cons_zero, List.map_cons, List.map_nil, List.length_cons, List.length_nil, List.replicate_succ, List.replicate_zero, List.cons_append, List.nil_append, List.set_cons_succ, List.set_cons_zero, Option.some.injEq, exists_eq_left', Nat.reduceAdd, Nat.reduceSub, Nat.zero_add, Nat.add_zero, true_and, and_true, Vl.int.injEq, Vl.bl.injEq, Vl.loc.injEq, Vl.tup.injEq, exists_eq', exists_eq_left, Ob.lst.injEq, isS_non, isS_int, isS_tup, isS_bl, isS_loc, Bool.not_true, Bool.not_false, wp_of (isi_q (v := .tup xs) (S := S) rfl kq_tuple_tuple), wp_of (isi_q (v := .tup ys) (S := S) rfl kq_tuple_list), wp_of (isi_q (v := .tup ys) (S := S) rfl kq_tuple_tuple), wp_of h, ws_ite', wp_ite']
  exact ⟨(fun z => nomatch z), fun _ => ⟨fun _ => ⟨(fun z => nomatch z), fun _ => ⟨by rw [hl]; exact hz, hz, fun z => absurd z (by simp [hl]), fun _ => trivial⟩⟩, (fun z => nomatch z)⟩⟩
theorem eqc_lst {g : List Vl → M Vl} {xs ys : List Vl} {S : Store} {m n : Nat} (hm : S[m]? = some (.lst xs)) (hn : S[n]? = some (.lst ys)) (hl : xs.length = ys.length) (h : g [.loc m, .loc n] S = some (.ok (.bl true) S)) : lawEqD g [.loc m, .loc n] S = some (.ok (.bl true) S) := by
  have t1 : tyN S (.loc m) = some "list" := by show (match S[m]? with | some (.lst _) => some "list" | some .dct => some "dict" | none => none) = _; rw [hm]
  have t2 : tyN S (.loc n) = some "list" := by show (match S[n]? with | some (.lst _) => some "list" | some .dct => some "dict" | none => none) = _; rw [hn]
  refine wpe' ?_
  unfold lawEqD lawEqC
  rw [wp_fn]
  simp only [wp_ret, wp_stuck, wp_ifs, wp_newL, wp_var, wp_c, wp_op, wp_un, wp_tval, wp_tnot, wp_not, wp_nil, wp_cons, wp_tup, wp_lst, wp_dct, wp_call, wp_app, wp_append, wp_ixT, wp_ixL, wp_put, wp_sl, wp_pn, wp_ps, wp_slT, wp_addI, wp_addT, wp_sub, wp_mulAI, wp_mulAT, wp_mul, wp_div, wp_mod, wp_pow, wp_neg, wp_cmp, wp_eqI, wp_neI, wp_eqS, wp_neS, wp_is0', wp_not0', wp_isB, wp_notB, wp_lenT, wp_lenL, wp_tupT, wp_tupL, wp_lstT, ws_next, ws_brk, ws_cont, ws_seq, ws_expr, ws_ret, ws_retN, ws_set, ws_asg, ws_put, ws_raise, ws_if, ws_for1, wp_and, wp_or, wp_tand, wp_tor, wp_ifE, wp_chain, gSlot, wp_tru, wp_truI, wp_truB, wp_truT, wp_intB, wp_max, wp_min, ws_par2, ws_par3, ws_aug, wp_iadd, ws_chn, setN, wp_star, wp_seqT, wp_seqL, wp_slL, wp_addL, wp_boolL, List.getElem?_cons_succ, List.getElem?_cons_zero, List.map_cons, List.map_nil, List.length_cons, List.length_nil, List.replicate_succ, List.replicate_zero, List.cons_append, List.nil_append, List.set_cons_succ, List.set_cons_zero, Option.some.injEq, exists_eq_left', Nat.reduceAdd, Nat.reduceSub, Nat.zero_add, Nat.add_zero, true_and, and_true, Vl.int.injEq, Vl.bl.injEq, Vl.loc.injEq, Vl.tup.injEq, exists_eq', exists_eq_left, Ob.lst.injEq, isS_non, isS_int, isS_tup, isS_bl, isS_loc, Bool.not_true, Bool.not_false, hm, hn, wp_of (isi_q t1 kq_list_list), wp_of (isi_q t2 kq_list_list), wp_of h, ws_ite', wp_ite']
  exact ⟨fun _ => ⟨(fun z => nomatch z), fun _ => ⟨fun z => absurd z (by simp [hl]), fun _ => trivial⟩⟩, (fun z => nomatch z)⟩
theorem eqW_ok {S : Store} : ∀ (k : Nat) {v w : Vl}, Alk S k v w → eqW (2 * k + 1) [v, w] S = some (.ok (.bl true) S)
  | 0, v, w, ⟨e, h⟩ => by subst e; exact eqc_atom h
  | k + 1, v, w, h => by
    have e : 2 * (k + 1) + 1 = (2 * k + 1) + 1 + 1 := by omega
    rw [e]
    show lawEqD (lawAll (eqW (2 * k + 1))) [v, w] S = _
    rcases h with ⟨e, h⟩ | ⟨xs, ys, rfl, rfl, hl, hz, h⟩ | ⟨m, n, xs, ys, rfl, rfl, hm, hn, hl, hz, h⟩
    · subst e; exact eqc_atom h
    · exact eqc_tup hl hz (all_tup hl hz fun i x y hx hy => eqW_ok k (h i x y hx hy))
    · exact eqc_lst hm hn hl (all_lst hm hn hl hz fun i x y hx hy => eqW_ok k (h i x y hx hy))
end Tw
end
section
set_option Elab.async false
set_option maxRecDepth 100000
set_option maxHeartbeats 3000000
set_option linter.all false
namespace Tw
namespace LW
open PySem L2
theorem equal_ok {S : Store} {v w : Vl} (h : Alk S 4 v w) : r__law_equal_u9 [v, w] S = some (.ok (.bl true) S) := eqW_ok 4 h
theorem ray_alk {S : Store} (k : Nat) (a b : Int) : Alk S (k + 1) (.tup [.int a, .int b]) (.tup [.int a, .int b]) := Alk.tup (by show 2 ≤ line; decide) fun x hx => by
  simp only [List.mem_cons, List.not_mem_nil, or_false] at hx
  rcases hx with rfl | rfl <;> exact Alk.atom rfl
theorem fan_alk {S : Store} {f : Fan} (h : f.Ok) : Alk S 3 f.v f.v := by
  have hl := h.len
  refine Alk.tup (by show 3 ≤ line; decide) fun x hx => ?_
  simp only [List.mem_cons, List.not_mem_nil, or_false] at hx
  rcases hx with rfl | rfl | rfl
  · exact Alk.atom rfl
  · exact ray_alk 1 _ _
  · refine Alk.tup (by rw [List.length_map]; exact Nat.le_trans hl (by decide)) fun x hx => ?_
    obtain ⟨p, _, rfl⟩ := List.mem_map.mp hx
    exact ray_alk 0 _ _
theorem told_alk {S : Store} (fs : List Fan) (i : Nat) : Alk S 4 (toldV fs i) (toldV fs i) := by
  unfold toldV
  split
  · unfold leastV
    split
    · exact Alk.atom rfl
    · rw [List.getD_eq_getElem?_getD, List.getElem?_map]
      cases fs[bestAt (fs.map keyI)]? with
      | none => exact Alk.atom rfl
      | some f =>
        refine Alk.tup (by show 3 ≤ line; decide) fun x hx => ?_
        simp only [List.mem_cons, List.not_mem_nil, or_false] at hx
        rcases hx with rfl | rfl | rfl <;> exact Alk.atom rfl
  · unfold numberV
    split <;> exact Alk.atom rfl
theorem wp_lstL {n : Nat} {xs : List Vl} {S : Store} {R : Vl → Store → Prop} {E : Str → Store → Prop} (h : S[n]? = some (.lst xs)) : Wp (bList [.loc n]) S R E ↔ xs.length ≤ line ∧ R (.loc S.length) (S ++ [.lst xs]) := by
  show Wp (bnd (getL (.loc n)) fun xs => newL xs) S R E ↔ _
  rw [wp_bnd, wp_getL, h]
  simp only [Option.some.injEq, Ob.lst.injEq, exists_eq_left', wp_newL]
theorem lot_line {fs : List Fan} (h : LotOk fs) : (lotV fs).length ≤ line := by
  unfold lotV; rw [List.length_map]; exact Nat.le_trans h.len (by decide)
def bare (f : Fan) : Fan := ⟨f.room, f.a, f.b, []⟩
theorem bare_ok {fs : List Fan} (h : LotOk fs) : LotOk (fs.map bare) := ⟨by rw [List.length_map]; exact h.len, fun g hg => by
  obtain ⟨f, hf, rfl⟩ := List.mem_map.mp hg
  have := h.ok f hf
  exact ⟨this.room, this.a, this.b, by show 0 ≤ 2; decide, (fun p hp => nomatch hp), trivial⟩⟩
theorem tail_ok {fs : List Fan} (h : LotOk fs) {S : Store} {n : Nat} (hn : S[n]? = some (.lst (lotV fs))) {a b c d e f g i : Option Vl} {D : Dk}
    (hD : ∀ T v6 v7 v8, D.nx [a, b, c, d, some (.loc n), f, v6, v7, v8] (S ++ T)) :
    Ws ((sSeq (sSet 6 (eCall bList (aCons (eVar 4) (aNil))))
  (sSeq (sForR1 (eC (.int 2)) (gSlot 7) (sSeq (sSet 8 (eCall r__law_told (aCons (eVar 7) (aCons (eVar 6) (aNil)))))
  (sIf (tNot (tVal (eCall r__law_fits (aCons (eLst (aCons (eVar 4) (aNil))) (aNil))))) (sIf (tVal (eOp oNot0 (eVar 8) (eC .non))) (sRet (eC (.bl false))) (sNext)) (sIf (tOr (tVal (eOp oIs0 (eVar 8) (eC .non))) (tNot (tVal (eCall r__law_equal_u9 (aCons (eOp oIx (eVar 8) (eC (.int 0))) (aCons (eCallE (eOp oIx (eLst (aCons (eC (.fn "_law_least_of")) (aCons (eC (.fn "_law_number")) (aNil)))) (eVar 7)) (gsel [("_law_least_of", r__law_least_of), ("_law_number", r__law_number)]) ["_law_least_of", "_law_number"] (aCons (eVar 4) (aNil))) (aNil))))))) (sRet (eC (.bl false))) (sNext)))))
  (sIf (tNot (tVal (eCall r__law_equal_u9 (aCons (eVar 6) (aCons (eVar 4) (aNil)))))) (sRet (eC (.bl false))) (sNext)))) [a, b, c, d, some (.loc n), f, e, g, i] S) D := by
  simp only [wp_ret, wp_stuck, wp_ifs, wp_newL, wp_var, wp_c, wp_op, wp_un, wp_tval, wp_tnot, wp_not, wp_nil, wp_cons, wp_tup, wp_lst, wp_dct, wp_call, wp_app, wp_append, wp_ixT, wp_ixL, wp_put, wp_sl, wp_pn, wp_ps, wp_slT, wp_addI, wp_addT, wp_sub, wp_mulAI, wp_mulAT, wp_mul, wp_div, wp_mod, wp_pow, wp_neg, wp_cmp, wp_eqI, wp_neI, wp_eqS, wp_neS, wp_is0', wp_not0', wp_isB, wp_notB, wp_lenT, wp_lenL, wp_tupT, wp_tupL, wp_lstT, ws_next, ws_brk, ws_cont, ws_seq, ws_expr, ws_ret, ws_retN, ws_set, ws_asg, ws_put, ws_raise, ws_if, ws_for1, wp_and, wp_or, wp_tand, wp_tor, wp_ifE, wp_chain, gSlot, wp_tru, wp_truI, wp_truB, wp_truT, wp_truL, wp_intB, wp_max, wp_min, ws_par2, ws_par3, ws_aug, wp_iadd, ws_chn, setN, wp_star, wp_seqT, wp_seqL, wp_slL, wp_addL, wp_boolL, wp_mulAL, wp_gcd, List.getElem?_cons_succ, List.getElem?_cons_zero, List.map_cons, List.map_nil, List.length_cons, List.length_nil, List.replicate_succ, List.replicate_zero, List.cons_append, List.nil_append, List.set_cons_succ, List.set_cons_zero, Option.some.injEq, exists_eq_left', Nat.reduceAdd, Nat.reduceSub, Nat.zero_add, Nat.add_zero, true_and, and_true, Vl.int.injEq, Vl.bl.injEq, Vl.loc.injEq, Vl.tup.injEq, exists_eq', exists_eq_left, Ob.lst.injEq, isS_non, isS_int, isS_tup, isS_bl, isS_loc, Bool.not_true, Bool.not_false]
  refine (wp_lstL hn).mpr ⟨lot_line h, ⟨by decide, by decide⟩, ?_⟩
  have hline := lot_line h
  refine ws_range (fun k ρ S' => ∃ T v7 v8, S' = S ++ [Ob.lst (lotV fs)] ++ T ∧ ρ = [a, b, c, d, some (.loc n), f, some (.loc S.length), v7, v8]) ⟨[], _, _, (List.append_nil _).symm, rfl⟩ ?_ ?_
  · rintro k ρ S' hk ⟨T, v7, v8, rfl, rfl⟩
    have hk : k < 2 := hk
    refine ⟨_, rfl, ?_⟩
    have hn1 : (S ++ [Ob.lst (lotV fs)] ++ T)[n]? = some (.lst (lotV fs)) := ap_get (ap_get hn)
    have hh1 : (S ++ [Ob.lst (lotV fs)] ++ T)[S.length]? = some (.lst (lotV fs)) := acc_get
    obtain ⟨T2, e2⟩ := told_ok h hh1 hk
    rw [show (0 : Int) + (k : Int) = (k : Nat) from by omega]
    simp only [wp_ret, wp_stuck, wp_ifs, wp_newL, wp_var, wp_c, wp_op, wp_un, wp_tval, wp_tnot, wp_not, wp_nil, wp_cons, wp_tup, wp_lst, wp_dct, wp_call, wp_app, wp_append, wp_ixT, wp_ixL, wp_put, wp_sl, wp_pn, wp_ps, wp_slT, wp_addI, wp_addT, wp_sub, wp_mulAI, wp_mulAT, wp_mul, wp_div, wp_mod, wp_pow, wp_neg, wp_cmp, wp_eqI, wp_neI, wp_eqS, wp_neS, wp_is0', wp_not0', wp_isB, wp_notB, wp_lenT, wp_lenL, wp_tupT, wp_tupL, wp_lstT, ws_next, ws_brk, ws_cont, ws_seq, ws_expr, ws_ret, ws_retN, ws_set, ws_asg, ws_put, ws_raise, ws_if, ws_for1, wp_and, wp_or, wp_tand, wp_tor, wp_ifE, wp_chain, gSlot, wp_tru, wp_truI, wp_truB, wp_truT, wp_truL, wp_intB, wp_max, wp_min, ws_par2, ws_par3, ws_aug, wp_iadd, ws_chn, setN, wp_star, wp_seqT, wp_seqL, wp_slL, wp_addL, wp_boolL, wp_mulAL, wp_gcd, List.getElem?_cons_succ, List.getElem?_cons_zero, List.map_cons, List.map_nil, List.length_cons, List.length_nil, List.replicate_succ, List.replicate_zero, List.cons_append, List.nil_append, List.set_cons_succ, List.set_cons_zero, Option.some.injEq, exists_eq_left', Nat.reduceAdd, Nat.reduceSub, Nat.zero_add, Nat.add_zero, true_and, and_true, Vl.int.injEq, Vl.bl.injEq, Vl.loc.injEq, Vl.tup.injEq, exists_eq', exists_eq_left, Ob.lst.injEq, isS_non, isS_int, isS_tup, isS_bl, isS_loc, Bool.not_true, Bool.not_false, wp_of e2]
    obtain ⟨T3, e3⟩ := fits_ok h (S := S ++ [Ob.lst (lotV fs)] ++ T ++ T2 ++ [Ob.lst [Vl.loc n]]) get_last (ap_get (ap_get hn1))
    simp only [wp_ret, wp_stuck, wp_ifs, wp_newL, wp_var, wp_c, wp_op, wp_un, wp_tval, wp_tnot, wp_not, wp_nil, wp_cons, wp_tup, wp_lst, wp_dct, wp_call, wp_app, wp_append, wp_ixT, wp_ixL, wp_put, wp_sl, wp_pn, wp_ps, wp_slT, wp_addI, wp_addT, wp_sub, wp_mulAI, wp_mulAT, wp_mul, wp_div, wp_mod, wp_pow, wp_neg, wp_cmp, wp_eqI, wp_neI, wp_eqS, wp_neS, wp_is0', wp_not0', wp_isB, wp_notB, wp_lenT, wp_lenL, wp_tupT, wp_tupL, wp_lstT, ws_next, ws_brk, ws_cont, ws_seq, ws_expr, ws_ret, ws_retN, ws_set, ws_asg, ws_put, ws_raise, ws_if, ws_for1, wp_and, wp_or, wp_tand, wp_tor, wp_ifE, wp_chain, gSlot, wp_tru, wp_truI, wp_truB, wp_truT, wp_truL, wp_intB, wp_max, wp_min, ws_par2, ws_par3, ws_aug, wp_iadd, ws_chn, setN, wp_star, wp_seqT, wp_seqL, wp_slL, wp_addL, wp_boolL, wp_mulAL, wp_gcd, List.getElem?_cons_succ, List.getElem?_cons_zero, List.map_cons, List.map_nil, List.length_cons, List.length_nil, List.replicate_succ, List.replicate_zero, List.cons_append, List.nil_append, List.set_cons_succ, List.set_cons_zero, Option.some.injEq, exists_eq_left', Nat.reduceAdd, Nat.reduceSub, Nat.zero_add, Nat.add_zero, true_and, and_true, Vl.int.injEq, Vl.bl.injEq, Vl.loc.injEq, Vl.tup.injEq, exists_eq', exists_eq_left, Ob.lst.injEq, isS_non, isS_int, isS_tup, isS_bl, isS_loc, Bool.not_true, Bool.not_false, wp_of e3, ws_ite]
    generalize hS : S ++ [Ob.lst (lotV fs)] ++ T ++ T2 ++ [Ob.lst [Vl.loc n]] ++ T3 = S5
    have hn5 : S5[n]? = some (.lst (lotV fs)) := by rw [← hS]; exact ap_get (ap_get (ap_get hn1))
    by_cases hz : lcmL fs ≤ 6
    · simp only [if_pos hz, decide_eq_true hz]
      refine ⟨by decide, (fun z => nomatch z), fun _ => wp_ite'.mpr ⟨(fun z => nomatch z), fun _ => ?_⟩⟩
      obtain ⟨T6, e6⟩ := due_ok (ρ := [a, b, c, d, some (.loc n), f, some (.loc S.length), some (.int (k : Nat)), some (.tup [toldV fs k])]) h hn5 hk rfl rfl
      simp only [wp_ret, wp_stuck, wp_ifs, wp_newL, wp_var, wp_c, wp_op, wp_un, wp_tval, wp_tnot, wp_not, wp_nil, wp_cons, wp_tup, wp_lst, wp_dct, wp_call, wp_app, wp_append, wp_ixT, wp_ixL, wp_put, wp_sl, wp_pn, wp_ps, wp_slT, wp_addI, wp_addT, wp_sub, wp_mulAI, wp_mulAT, wp_mul, wp_div, wp_mod, wp_pow, wp_neg, wp_cmp, wp_eqI, wp_neI, wp_eqS, wp_neS, wp_is0', wp_not0', wp_isB, wp_notB, wp_lenT, wp_lenL, wp_tupT, wp_tupL, wp_lstT, ws_next, ws_brk, ws_cont, ws_seq, ws_expr, ws_ret, ws_retN, ws_set, ws_asg, ws_put, ws_raise, ws_if, ws_for1, wp_and, wp_or, wp_tand, wp_tor, wp_ifE, wp_chain, gSlot, wp_tru, wp_truI, wp_truB, wp_truT, wp_truL, wp_intB, wp_max, wp_min, ws_par2, ws_par3, ws_aug, wp_iadd, ws_chn, setN, wp_star, wp_seqT, wp_seqL, wp_slL, wp_addL, wp_boolL, wp_mulAL, wp_gcd, List.getElem?_cons_succ, List.getElem?_cons_zero, List.map_cons, List.map_nil, List.length_cons, List.length_nil, List.replicate_succ, List.replicate_zero, List.cons_append, List.nil_append, List.set_cons_succ, List.set_cons_zero, Option.some.injEq, exists_eq_left', Nat.reduceAdd, Nat.reduceSub, Nat.zero_add, Nat.add_zero, true_and, and_true, Vl.int.injEq, Vl.bl.injEq, Vl.loc.injEq, Vl.tup.injEq, exists_eq', exists_eq_left, Ob.lst.injEq, isS_non, isS_int, isS_tup, isS_bl, isS_loc, Bool.not_true, Bool.not_false, at1, wp_of e6, wp_of (equal_ok (told_alk fs k))]
      refine ⟨(fun z => nomatch z), fun _ => ⟨T ++ T2 ++ [Ob.lst [Vl.loc n]] ++ T3 ++ T6, _, _, ?_, rfl⟩⟩
      rw [← hS]
      simp only [List.append_assoc]
    · simp only [if_neg hz, decide_eq_false hz]
      refine ⟨by decide, fun _ => ⟨(fun z => nomatch z), fun _ => ⟨T ++ T2 ++ [Ob.lst [Vl.loc n]] ++ T3, _, _, ?_, rfl⟩⟩, (fun z => nomatch z)⟩
      rw [← hS]
      simp only [List.append_assoc]
  · rintro ρ S' ⟨T, v7, v8, rfl, rfl⟩
    have hn1 : (S ++ [Ob.lst (lotV fs)] ++ T)[n]? = some (.lst (lotV fs)) := ap_get (ap_get hn)
    have hh1 : (S ++ [Ob.lst (lotV fs)] ++ T)[S.length]? = some (.lst (lotV fs)) := acc_get
    have e := equal_ok (Alk.lst hh1 hn1 hline fun x hx => by
      obtain ⟨f, hf, rfl⟩ := List.mem_map.mp hx
      exact fan_alk (h.ok f hf))
    simp only [wp_ret, wp_stuck, wp_ifs, wp_newL, wp_var, wp_c, wp_op, wp_un, wp_tval, wp_tnot, wp_not, wp_nil, wp_cons, wp_tup, wp_lst, wp_dct, wp_call, wp_app, wp_append, wp_ixT, wp_ixL, wp_put, wp_sl, wp_pn, wp_ps, wp_slT, wp_addI, wp_addT, wp_sub, wp_mulAI, wp_mulAT, wp_mul, wp_div, wp_mod, wp_pow, wp_neg, wp_cmp, wp_eqI, wp_neI, wp_eqS, wp_neS, wp_is0', wp_not0', wp_isB, wp_notB, wp_lenT, wp_lenL, wp_tupT, wp_tupL, wp_lstT, ws_next, ws_brk, ws_cont, ws_seq, ws_expr, ws_ret, ws_retN, ws_set, ws_asg, ws_put, ws_raise, ws_if, ws_for1, wp_and, wp_or, wp_tand, wp_tor, wp_ifE, wp_chain, gSlot, wp_tru, wp_truI, wp_truB, wp_truT, wp_truL, wp_intB, wp_max, wp_min, ws_par2, ws_par3, ws_aug, wp_iadd, ws_chn, setN, wp_star, wp_seqT, wp_seqL, wp_slL, wp_addL, wp_boolL, wp_mulAL, wp_gcd, List.getElem?_cons_succ, List.getElem?_cons_zero, List.map_cons, List.map_nil, List.length_cons, List.length_nil, List.replicate_succ, List.replicate_zero, List.cons_append, List.nil_append, List.set_cons_succ, List.set_cons_zero, Option.some.injEq, exists_eq_left', Nat.reduceAdd, Nat.reduceSub, Nat.zero_add, Nat.add_zero, true_and, and_true, Vl.int.injEq, Vl.bl.injEq, Vl.loc.injEq, Vl.tup.injEq, exists_eq', exists_eq_left, Ob.lst.injEq, isS_non, isS_int, isS_tup, isS_bl, isS_loc, Bool.not_true, Bool.not_false, wp_of e, ws_ite]
    refine ⟨(fun z => nomatch z), fun _ => ?_⟩
    rw [List.append_assoc]
    exact hD _ _ _ _
theorem law_ok {ns : List Int} (hl : ns.length ≤ 63) : ∃ S', r_law [.frz (ns.map .int)] [] = some (.ok (.bl true) S') := by
  suffices h : Wp (r_law [.frz (ns.map .int)]) [] (fun v _ => v = .bl true) (fun _ _ => False) by
    obtain ⟨a, S1, e, rfl⟩ := wp_get h fun _ _ z => z
    exact ⟨S1, e⟩
  unfold r_law b_law
  rw [wp_fn]
  generalize hTL : (sSeq (sSet 6 (eCall bList (aCons (eVar 4) (aNil))))
  (sSeq (sForR1 (eC (.int 2)) (gSlot 7) (sSeq (sSet 8 (eCall r__law_told (aCons (eVar 7) (aCons (eVar 6) (aNil)))))
  (sIf (tNot (tVal (eCall r__law_fits (aCons (eLst (aCons (eVar 4) (aNil))) (aNil))))) (sIf (tVal (eOp oNot0 (eVar 8) (eC .non))) (sRet (eC (.bl false))) (sNext)) (sIf (tOr (tVal (eOp oIs0 (eVar 8) (eC .non))) (tNot (tVal (eCall r__law_equal_u9 (aCons (eOp oIx (eVar 8) (eC (.int 0))) (aCons (eCallE (eOp oIx (eLst (aCons (eC (.fn "_law_least_of")) (aCons (eC (.fn "_law_number")) (aNil)))) (eVar 7)) (gsel [("_law_least_of", r__law_least_of), ("_law_number", r__law_number)]) ["_law_least_of", "_law_number"] (aCons (eVar 4) (aNil))) (aNil))))))) (sRet (eC (.bl false))) (sNext)))))
  (sIf (tNot (tVal (eCall r__law_equal_u9 (aCons (eVar 6) (aCons (eVar 4) (aNil)))))) (sRet (eC (.bl false))) (sNext)))) = TL
  simp only [wp_ret, wp_stuck, wp_ifs, wp_newL, wp_var, wp_c, wp_op, wp_un, wp_tval, wp_tnot, wp_not, wp_nil, wp_cons, wp_tup, wp_lst, wp_dct, wp_call, wp_app, wp_append, wp_ixT, wp_ixL, wp_put, wp_sl, wp_pn, wp_ps, wp_slT, wp_addI, wp_addT, wp_sub, wp_mulAI, wp_mulAT, wp_mul, wp_div, wp_mod, wp_pow, wp_neg, wp_cmp, wp_eqI, wp_neI, wp_eqS, wp_neS, wp_is0', wp_not0', wp_isB, wp_notB, wp_lenT, wp_lenL, wp_tupT, wp_tupL, wp_lstT, ws_next, ws_brk, ws_cont, ws_seq, ws_expr, ws_ret, ws_retN, ws_set, ws_asg, ws_put, ws_raise, ws_if, ws_for1, wp_and, wp_or, wp_tand, wp_tor, wp_ifE, wp_chain, gSlot, wp_tru, wp_truI, wp_truB, wp_truT, wp_truL, wp_intB, wp_max, wp_min, ws_par2, ws_par3, ws_aug, wp_iadd, ws_chn, setN, wp_star, wp_seqT, wp_seqL, wp_slL, wp_addL, wp_boolL, wp_mulAL, wp_gcd, List.getElem?_cons_succ, List.getElem?_cons_zero, List.map_cons, List.map_nil, List.length_cons, List.length_nil, List.replicate_succ, List.replicate_zero, List.cons_append, List.nil_append, List.set_cons_succ, List.set_cons_zero, Option.some.injEq, exists_eq_left', Nat.reduceAdd, Nat.reduceSub, Nat.zero_add, Nat.add_zero, true_and, and_true, Vl.int.injEq, Vl.bl.injEq, Vl.loc.injEq, Vl.tup.injEq, exists_eq', exists_eq_left, Ob.lst.injEq, isS_non, isS_int, isS_tup, isS_bl, isS_loc, Bool.not_true, Bool.not_false]
  refine numbers_ok hl fun xs hx hxl => ?_
  have D0 : Dr ([] ++ [Ob.lst xs] ++ [Ob.lst [.loc 0, .int 0]]) 1000000 := ⟨xs, 0, rfl, rfl, hx, hxl, Int.le_refl 0, by decide⟩
  refine ⟨by decide, ⟨by decide, by decide⟩, ?_⟩
  refine ws_range (fun k ρ S' => ∃ v2 v3 v4 v5 v6 v7 v8, ρ = [some (.frz (ns.map .int)), some (.loc 1), v2, v3, v4, v5, v6, v7, v8] ∧ Dr S' (1000000 - 240 * k)) ⟨_, _, _, _, _, _, _, rfl, D0⟩ ?_ ?_
  · rintro k ρ S' hk ⟨v2, v3, v4, v5, v6, v7, v8, rfl, hD⟩
    refine ⟨_, rfl, ?_⟩
    have hk : k < 4 := hk
    have zD := hD.two
    simp only [wp_ret, wp_stuck, wp_ifs, wp_newL, wp_var, wp_c, wp_op, wp_un, wp_tval, wp_tnot, wp_not, wp_nil, wp_cons, wp_tup, wp_lst, wp_dct, wp_call, wp_app, wp_append, wp_ixT, wp_ixL, wp_put, wp_sl, wp_pn, wp_ps, wp_slT, wp_addI, wp_addT, wp_sub, wp_mulAI, wp_mulAT, wp_mul, wp_div, wp_mod, wp_pow, wp_neg, wp_cmp, wp_eqI, wp_neI, wp_eqS, wp_neS, wp_is0', wp_not0', wp_isB, wp_notB, wp_lenT, wp_lenL, wp_tupT, wp_tupL, wp_lstT, ws_next, ws_brk, ws_cont, ws_seq, ws_expr, ws_ret, ws_retN, ws_set, ws_asg, ws_put, ws_raise, ws_if, ws_for1, wp_and, wp_or, wp_tand, wp_tor, wp_ifE, wp_chain, gSlot, wp_tru, wp_truI, wp_truB, wp_truT, wp_truL, wp_intB, wp_max, wp_min, ws_par2, ws_par3, ws_aug, wp_iadd, ws_chn, setN, wp_star, wp_seqT, wp_seqL, wp_slL, wp_addL, wp_boolL, wp_mulAL, wp_gcd, List.getElem?_cons_succ, List.getElem?_cons_zero, List.map_cons, List.map_nil, List.length_cons, List.length_nil, List.replicate_succ, List.replicate_zero, List.cons_append, List.nil_append, List.set_cons_succ, List.set_cons_zero, Option.some.injEq, exists_eq_left', Nat.reduceAdd, Nat.reduceSub, Nat.zero_add, Nat.add_zero, true_and, and_true, Vl.int.injEq, Vl.bl.injEq, Vl.loc.injEq, Vl.tup.injEq, exists_eq', exists_eq_left, Ob.lst.injEq, isS_non, isS_int, isS_tup, isS_bl, isS_loc, Bool.not_true, Bool.not_false]
    refine ⟨by decide, draw_ok hD.app (by omega) fun m1 S1 _ _ k1 D1 F1 => ?_⟩
    simp only [wp_ret, wp_stuck, wp_ifs, wp_newL, wp_var, wp_c, wp_op, wp_un, wp_tval, wp_tnot, wp_not, wp_nil, wp_cons, wp_tup, wp_lst, wp_dct, wp_call, wp_app, wp_append, wp_ixT, wp_ixL, wp_put, wp_sl, wp_pn, wp_ps, wp_slT, wp_addI, wp_addT, wp_sub, wp_mulAI, wp_mulAT, wp_mul, wp_div, wp_mod, wp_pow, wp_neg, wp_cmp, wp_eqI, wp_neI, wp_eqS, wp_neS, wp_is0', wp_not0', wp_isB, wp_notB, wp_lenT, wp_lenL, wp_tupT, wp_tupL, wp_lstT, ws_next, ws_brk, ws_cont, ws_seq, ws_expr, ws_ret, ws_retN, ws_set, ws_asg, ws_put, ws_raise, ws_if, ws_for1, wp_and, wp_or, wp_tand, wp_tor, wp_ifE, wp_chain, gSlot, wp_tru, wp_truI, wp_truB, wp_truT, wp_truL, wp_intB, wp_max, wp_min, ws_par2, ws_par3, ws_aug, wp_iadd, ws_chn, setN, wp_star, wp_seqT, wp_seqL, wp_slL, wp_addL, wp_boolL, wp_mulAL, wp_gcd, List.getElem?_cons_succ, List.getElem?_cons_zero, List.map_cons, List.map_nil, List.length_cons, List.length_nil, List.replicate_succ, List.replicate_zero, List.cons_append, List.nil_append, List.set_cons_succ, List.set_cons_zero, Option.some.injEq, exists_eq_left', Nat.reduceAdd, Nat.reduceSub, Nat.zero_add, Nat.add_zero, true_and, and_true, Vl.int.injEq, Vl.bl.injEq, Vl.loc.injEq, Vl.tup.injEq, exists_eq', exists_eq_left, Ob.lst.injEq, isS_non, isS_int, isS_tup, isS_bl, isS_loc, Bool.not_true, Bool.not_false, F1.last zD]
    refine ⟨by decide, ?_⟩
    obtain ⟨v, hv, hm⟩ := ix_mod (xs := [.int 6, .int 2, .int 12]) (m := m1) (j := 3) rfl (by decide)
    have : ∃ c : Int, v = .int c ∧ 1 ≤ c ∧ c ≤ 12 := by
      simp only [List.mem_cons, List.not_mem_nil, or_false] at hm
      rcases hm with rfl | rfl | rfl
      · exact ⟨6, rfl, by decide⟩
      · exact ⟨2, rfl, by decide⟩
      · exact ⟨12, rfl, by decide⟩
    obtain ⟨base, rfl, hb⟩ := this
    refine ⟨_, hv, ?_⟩
    have z1 := D1.two
    refine ⟨by decide, draw_ok D1.app (by omega) fun m2 S2 _ _ k2 D2 F2 => ?_⟩
    simp only [wp_ret, wp_stuck, wp_ifs, wp_newL, wp_var, wp_c, wp_op, wp_un, wp_tval, wp_tnot, wp_not, wp_nil, wp_cons, wp_tup, wp_lst, wp_dct, wp_call, wp_app, wp_append, wp_ixT, wp_ixL, wp_put, wp_sl, wp_pn, wp_ps, wp_slT, wp_addI, wp_addT, wp_sub, wp_mulAI, wp_mulAT, wp_mul, wp_div, wp_mod, wp_pow, wp_neg, wp_cmp, wp_eqI, wp_neI, wp_eqS, wp_neS, wp_is0', wp_not0', wp_isB, wp_notB, wp_lenT, wp_lenL, wp_tupT, wp_tupL, wp_lstT, ws_next, ws_brk, ws_cont, ws_seq, ws_expr, ws_ret, ws_retN, ws_set, ws_asg, ws_put, ws_raise, ws_if, ws_for1, wp_and, wp_or, wp_tand, wp_tor, wp_ifE, wp_chain, gSlot, wp_tru, wp_truI, wp_truB, wp_truT, wp_truL, wp_intB, wp_max, wp_min, ws_par2, ws_par3, ws_aug, wp_iadd, ws_chn, setN, wp_star, wp_seqT, wp_seqL, wp_slL, wp_addL, wp_boolL, wp_mulAL, wp_gcd, List.getElem?_cons_succ, List.getElem?_cons_zero, List.map_cons, List.map_nil, List.length_cons, List.length_nil, List.replicate_succ, List.replicate_zero, List.cons_append, List.nil_append, List.set_cons_succ, List.set_cons_zero, Option.some.injEq, exists_eq_left', Nat.reduceAdd, Nat.reduceSub, Nat.zero_add, Nat.add_zero, true_and, and_true, Vl.int.injEq, Vl.bl.injEq, Vl.loc.injEq, Vl.tup.injEq, exists_eq', exists_eq_left, Ob.lst.injEq, isS_non, isS_int, isS_tup, isS_bl, isS_loc, Bool.not_true, Bool.not_false, F2.last z1]
    refine ⟨by decide, ?_⟩
    obtain ⟨v, hv, hm⟩ := ix_mod (xs := [.int 2, .int 2, .int 4]) (m := m2) (j := 3) rfl (by decide)
    have : ∃ c : Int, v = .int c ∧ 1 ≤ c ∧ c ≤ 4 := by
      simp only [List.mem_cons, List.not_mem_nil, or_false] at hm
      rcases hm with rfl | rfl | rfl
      · exact ⟨2, rfl, by decide⟩
      · exact ⟨2, rfl, by decide⟩
      · exact ⟨4, rfl, by decide⟩
    obtain ⟨ray, rfl, hr⟩ := this
    refine ⟨_, hv, ?_⟩
    refine lot_made hb hr D2 (by omega) fun fs n S3 hfs hn0 hn D3 F3 => ?_
    refine draw_ok D3 (by omega) fun m3 S4 _ _ k4 D4 F4 => ?_
    have z2 := D2.two
    have hn4 := F4.get hn (by omega)
    simp only [wp_ret, wp_stuck, wp_ifs, wp_newL, wp_var, wp_c, wp_op, wp_un, wp_tval, wp_tnot, wp_not, wp_nil, wp_cons, wp_tup, wp_lst, wp_dct, wp_call, wp_app, wp_append, wp_ixT, wp_ixL, wp_put, wp_sl, wp_pn, wp_ps, wp_slT, wp_addI, wp_addT, wp_sub, wp_mulAI, wp_mulAT, wp_mul, wp_div, wp_mod, wp_pow, wp_neg, wp_cmp, wp_eqI, wp_neI, wp_eqS, wp_neS, wp_is0', wp_not0', wp_isB, wp_notB, wp_lenT, wp_lenL, wp_tupT, wp_tupL, wp_lstT, ws_next, ws_brk, ws_cont, ws_seq, ws_expr, ws_ret, ws_retN, ws_set, ws_asg, ws_put, ws_raise, ws_if, ws_for1, wp_and, wp_or, wp_tand, wp_tor, wp_ifE, wp_chain, gSlot, wp_tru, wp_truI, wp_truB, wp_truT, wp_truL, wp_intB, wp_max, wp_min, ws_par2, ws_par3, ws_aug, wp_iadd, ws_chn, setN, wp_star, wp_seqT, wp_seqL, wp_slL, wp_addL, wp_boolL, wp_mulAL, wp_gcd, List.getElem?_cons_succ, List.getElem?_cons_zero, List.map_cons, List.map_nil, List.length_cons, List.length_nil, List.replicate_succ, List.replicate_zero, List.cons_append, List.nil_append, List.set_cons_succ, List.set_cons_zero, Option.some.injEq, exists_eq_left', Nat.reduceAdd, Nat.reduceSub, Nat.zero_add, Nat.add_zero, true_and, and_true, Vl.int.injEq, Vl.bl.injEq, Vl.loc.injEq, Vl.tup.injEq, exists_eq', exists_eq_left, Ob.lst.injEq, isS_non, isS_int, isS_tup, isS_bl, isS_loc, Bool.not_true, Bool.not_false, ws_ite]
    refine ⟨by decide, fun z => ?_, fun z => ?_⟩
    · refine wp_comp_map (fun x => match x with | .tup [p, q, _] => .tup [p, q, .tup []] | _ => .non) (wseq_L rfl hn4) hn4 (lot_line hfs) (fun x hx U => ?_) fun T => ?_
      · obtain ⟨f, hf, rfl⟩ := List.mem_map.mp hx
        refine wpg ?_
        unfold Fan.v
        simp only [wp_ret, wp_stuck, wp_ifs, wp_newL, wp_var, wp_c, wp_op, wp_un, wp_tval, wp_tnot, wp_not, wp_nil, wp_cons, wp_tup, wp_lst, wp_dct, wp_call, wp_app, wp_append, wp_ixT, wp_ixL, wp_put, wp_sl, wp_pn, wp_ps, wp_slT, wp_addI, wp_addT, wp_sub, wp_mulAI, wp_mulAT, wp_mul, wp_div, wp_mod, wp_pow, wp_neg, wp_cmp, wp_eqI, wp_neI, wp_eqS, wp_neS, wp_is0', wp_not0', wp_isB, wp_notB, wp_lenT, wp_lenL, wp_tupT, wp_tupL, wp_lstT, ws_next, ws_brk, ws_cont, ws_seq, ws_expr, ws_ret, ws_retN, ws_set, ws_asg, ws_put, ws_raise, ws_if, ws_for1, wp_and, wp_or, wp_tand, wp_tor, wp_ifE, wp_chain, gSlot, wp_tru, wp_truI, wp_truB, wp_truT, wp_truL, wp_intB, wp_max, wp_min, ws_par2, ws_par3, ws_aug, wp_iadd, ws_chn, setN, wp_star, wp_seqT, wp_seqL, wp_slL, wp_addL, wp_boolL, wp_mulAL, wp_gcd, List.getElem?_cons_succ, List.getElem?_cons_zero, List.map_cons, List.map_nil, List.length_cons, List.length_nil, List.replicate_succ, List.replicate_zero, List.cons_append, List.nil_append, List.set_cons_succ, List.set_cons_zero, Option.some.injEq, exists_eq_left', Nat.reduceAdd, Nat.reduceSub, Nat.zero_add, Nat.add_zero, true_and, and_true, Vl.int.injEq, Vl.bl.injEq, Vl.loc.injEq, Vl.tup.injEq, exists_eq', exists_eq_left, Ob.lst.injEq, isS_non, isS_int, isS_tup, isS_bl, isS_loc, Bool.not_true, Bool.not_false, at30, at31]
        exact ⟨by decide, by decide, [], by simp⟩
      · have e : (lotV fs).map (fun x => match x with | .tup [p, q, _] => Vl.tup [p, q, .tup []] | _ => .non) = lotV (fs.map bare) := by
          unfold lotV
          rw [List.map_map, List.map_map]
          rfl
        rw [e, ← hTL]
        refine tail_ok (bare_ok hfs) (n := S4.length) acc_get fun T2 v6 v7 v8 => ⟨_, _, _, _, _, _, _, rfl, ?_⟩
        exact D4.app.app.app.less
    · rw [← hTL]
      refine tail_ok hfs hn4 fun T2 v6 v7 v8 => ⟨_, _, _, _, _, _, _, rfl, ?_⟩
      exact D4.app.less
  · rintro ρ S' ⟨v2, v3, v4, v5, v6, v7, v8, rfl, hD⟩
    simp only [wp_ret, wp_stuck, wp_ifs, wp_newL, wp_var, wp_c, wp_op, wp_un, wp_tval, wp_tnot, wp_not, wp_nil, wp_cons, wp_tup, wp_lst, wp_dct, wp_call, wp_app, wp_append, wp_ixT, wp_ixL, wp_put, wp_sl, wp_pn, wp_ps, wp_slT, wp_addI, wp_addT, wp_sub, wp_mulAI, wp_mulAT, wp_mul, wp_div, wp_mod, wp_pow, wp_neg, wp_cmp, wp_eqI, wp_neI, wp_eqS, wp_neS, wp_is0', wp_not0', wp_isB, wp_notB, wp_lenT, wp_lenL, wp_tupT, wp_tupL, wp_lstT, ws_next, ws_brk, ws_cont, ws_seq, ws_expr, ws_ret, ws_retN, ws_set, ws_asg, ws_put, ws_raise, ws_if, ws_for1, wp_and, wp_or, wp_tand, wp_tor, wp_ifE, wp_chain, gSlot, wp_tru, wp_truI, wp_truB, wp_truT, wp_truL, wp_intB, wp_max, wp_min, ws_par2, ws_par3, ws_aug, wp_iadd, ws_chn, setN, wp_star, wp_seqT, wp_seqL, wp_slL, wp_addL, wp_boolL, wp_mulAL, wp_gcd, List.getElem?_cons_succ, List.getElem?_cons_zero, List.map_cons, List.map_nil, List.length_cons, List.length_nil, List.replicate_succ, List.replicate_zero, List.cons_append, List.nil_append, List.set_cons_succ, List.set_cons_zero, Option.some.injEq, exists_eq_left', Nat.reduceAdd, Nat.reduceSub, Nat.zero_add, Nat.add_zero, true_and, and_true, Vl.int.injEq, Vl.bl.injEq, Vl.loc.injEq, Vl.tup.injEq, exists_eq', exists_eq_left, Ob.lst.injEq, isS_non, isS_int, isS_tup, isS_bl, isS_loc, Bool.not_true, Bool.not_false]
end LW
end Tw
end
section
set_option Elab.async false
set_option maxRecDepth 100000
set_option maxHeartbeats 3000000
set_option linter.all false
namespace Tw
namespace LW
open PySem L2 PySem.Spec PyProof.Rows
theorem all_mk {q : Program} {w : World} {K : PySem.W.Frag} {h : Heap} {mg : Str → Option Value} {fa : Addr} (X : K.In h) (G : h.Ns mainGlobals mg) (hfa : mg "law" = some (.ref fa)) (T0 : Tabs0 q K mg h)
    {f_is_integer : Addr} {od_is_integer an_is_integer : Option Addr} {sl_is_integer : Array (Option Value)} {oc_is_integer kV_is_integer dc_is_integer pm_is_integer ct_is_integer : Value} {cd_is_integer : Value} {f_is_between : Addr} {od_is_between an_is_between : Option Addr} {sl_is_between : Array (Option Value)} {oc_is_between kV_is_between dc_is_between pm_is_between ct_is_between : Value} {cd_is_between : Value} {f_is_count : Addr} {od_is_count an_is_count : Option Addr} {sl_is_count : Array (Option Value)} {oc_is_count kV_is_count dc_is_count pm_is_count ct_is_count : Value} {cd_is_count : Value} {f_is_tuple_of : Addr} {od_is_tuple_of an_is_tuple_of : Option Addr} {sl_is_tuple_of : Array (Option Value)} {oc_is_tuple_of kV_is_tuple_of dc_is_tuple_of pm_is_tuple_of ct_is_tuple_of : Value} {cd_is_tuple_of : Value} {f_is_tuple_up_to : Addr} {od_is_tuple_up_to an_is_tuple_up_to : Option Addr} {sl_is_tuple_up_to : Array (Option Value)} {oc_is_tuple_up_to kV_is_tuple_up_to dc_is_tuple_up_to pm_is_tuple_up_to ct_is_tuple_up_to : Value} {cd_is_tuple_up_to : Value} {f_are_counts : Addr} {od_are_counts an_are_counts : Option Addr} {sl_are_counts : Array (Option Value)} {oc_are_counts kV_are_counts dc_are_counts pm_are_counts ct_are_counts : Value} {ac_are_counts pt_are_counts : Addr} {dd_are_counts : Option Addr} {vs_are_counts : Array Value} {sx_are_counts : Array (Option Value)} {f_turn_of : Addr} {od_turn_of an_turn_of : Option Addr} {sl_turn_of : Array (Option Value)} {oc_turn_of kV_turn_of dc_turn_of pm_turn_of ct_turn_of : Value} {cd_turn_of : Value} {f__is_ray : Addr} {od__is_ray an__is_ray : Option Addr} {sl__is_ray : Array (Option Value)} {oc__is_ray kV__is_ray dc__is_ray pm__is_ray ct__is_ray : Value} {cd__is_ray : Value} {f_is_fan : Addr} {od_is_fan an_is_fan : Option Addr} {sl_is_fan : Array (Option Value)} {oc_is_fan kV_is_fan dc_is_fan pm_is_fan ct_is_fan : Value} {ac_is_fan pt_is_fan : Addr} {dd_is_fan : Option Addr} {vs_is_fan : Array Value} {sx_is_fan : Array (Option Value)} {f_is_lot : Addr} {od_is_lot an_is_lot : Option Addr} {sl_is_lot : Array (Option Value)} {oc_is_lot kV_is_lot dc_is_lot pm_is_lot ct_is_lot : Value} {ac_is_lot pt_is_lot : Addr} {dd_is_lot : Option Addr} {vs_is_lot : Array Value} {sx_is_lot : Array (Option Value)} {f_check_lot : Addr} {od_check_lot an_check_lot : Option Addr} {sl_check_lot : Array (Option Value)} {oc_check_lot kV_check_lot dc_check_lot pm_check_lot ct_check_lot : Value} {cd_check_lot : Value} {f_order_of : Addr} {od_order_of an_order_of : Option Addr} {sl_order_of : Array (Option Value)} {oc_order_of kV_order_of dc_order_of pm_order_of ct_order_of : Value} {cd_order_of : Value} {f_least_in : Addr} {od_least_in an_least_in : Option Addr} {sl_least_in : Array (Option Value)} {oc_least_in kV_least_in dc_least_in pm_least_in ct_least_in : Value} {cd_least_in : Value} {f_grain_of : Addr} {od_grain_of an_grain_of : Option Addr} {sl_grain_of : Array (Option Value)} {oc_grain_of kV_grain_of dc_grain_of pm_grain_of ct_grain_of : Value} {cd_grain_of : Value} {f__is_beyond : Addr} {od__is_beyond an__is_beyond : Option Addr} {sl__is_beyond : Array (Option Value)} {oc__is_beyond kV__is_beyond dc__is_beyond pm__is_beyond ct__is_beyond : Value} {cd__is_beyond : Value} {f_check_size : Addr} {od_check_size an_check_size : Option Addr} {sl_check_size : Array (Option Value)} {oc_check_size kV_check_size dc_check_size pm_check_size ct_check_size : Value} {cd_check_size : Value} {f_least : Addr} {od_least an_least : Option Addr} {sl_least : Array (Option Value)} {oc_least kV_least dc_least pm_least ct_least : Value} {cd_least : Value} {f_number_in : Addr} {od_number_in an_number_in : Option Addr} {sl_number_in : Array (Option Value)} {oc_number_in kV_number_in dc_number_in pm_number_in ct_number_in : Value} {cd_number_in : Value} {f_number : Addr} {od_number an_number : Option Addr} {sl_number : Array (Option Value)} {oc_number kV_number dc_number pm_number ct_number : Value} {cd_number : Value} {f__law_mixed : Addr} {od__law_mixed an__law_mixed : Option Addr} {sl__law_mixed : Array (Option Value)} {oc__law_mixed kV__law_mixed dc__law_mixed pm__law_mixed ct__law_mixed : Value} {cd__law_mixed : Value} {f__law_numbers : Addr} {od__law_numbers an__law_numbers : Option Addr} {sl__law_numbers : Array (Option Value)} {oc__law_numbers kV__law_numbers dc__law_numbers pm__law_numbers ct__law_numbers : Value} {cd__law_numbers : Value} {f__law_draw : Addr} {od__law_draw an__law_draw : Option Addr} {sl__law_draw : Array (Option Value)} {oc__law_draw kV__law_draw dc__law_draw pm__law_draw ct__law_draw : Value} {cd__law_draw : Value} {f__law_equal : Addr} {od__law_equal an__law_equal : Option Addr} {sl__law_equal : Array (Option Value)} {oc__law_equal kV__law_equal dc__law_equal pm__law_equal ct__law_equal : Value} {cd__law_equal : Value} {f__law_all_equal : Addr} {od__law_all_equal an__law_all_equal : Option Addr} {sl__law_all_equal : Array (Option Value)} {oc__law_all_equal kV__law_all_equal dc__law_all_equal pm__law_all_equal ct__law_all_equal : Value} {cd__law_all_equal : Value} {f__law_fan : Addr} {od__law_fan an__law_fan : Option Addr} {sl__law_fan : Array (Option Value)} {oc__law_fan kV__law_fan dc__law_fan pm__law_fan ct__law_fan : Value} {cd__law_fan : Value} {f__law_lot : Addr} {od__law_lot an__law_lot : Option Addr} {sl__law_lot : Array (Option Value)} {oc__law_lot kV__law_lot dc__law_lot pm__law_lot ct__law_lot : Value} {cd__law_lot : Value} {f__law_divisor : Addr} {od__law_divisor an__law_divisor : Option Addr} {sl__law_divisor : Array (Option Value)} {oc__law_divisor kV__law_divisor dc__law_divisor pm__law_divisor ct__law_divisor : Value} {cd__law_divisor : Value} {f__law_grain : Addr} {od__law_grain an__law_grain : Option Addr} {sl__law_grain : Array (Option Value)} {oc__law_grain kV__law_grain dc__law_grain pm__law_grain ct__law_grain : Value} {cd__law_grain : Value} {f__law_fits : Addr} {od__law_fits an__law_fits : Option Addr} {sl__law_fits : Array (Option Value)} {oc__law_fits kV__law_fits dc__law_fits pm__law_fits ct__law_fits : Value} {cd__law_fits : Value} {f__law_key : Addr} {od__law_key an__law_key : Option Addr} {sl__law_key : Array (Option Value)} {oc__law_key kV__law_key dc__law_key pm__law_key ct__law_key : Value} {cd__law_key : Value} {f__law_least : Addr} {od__law_least an__law_least : Option Addr} {sl__law_least : Array (Option Value)} {oc__law_least kV__law_least dc__law_least pm__law_least ct__law_least : Value} {cd__law_least : Value} {f__law_told : Addr} {od__law_told an__law_told : Option Addr} {sl__law_told : Array (Option Value)} {oc__law_told kV__law_told dc__law_told pm__law_told ct__law_told : Value} {cd__law_told : Value} {f__law_number : Addr} {od__law_number an__law_number : Option Addr} {sl__law_number : Array (Option Value)} {oc__law_number kV__law_number dc__law_number pm__law_number ct__law_number : Value} {cd__law_number : Value} {f__law_least_of : Addr} {od__law_least_of an__law_least_of : Option Addr} {sl__law_least_of : Array (Option Value)} {oc__law_least_of kV__law_least_of dc__law_least_of pm__law_least_of ct__law_least_of : Value} {cd__law_least_of : Value} {f_law : Addr} {od_law an_law : Option Addr} {sl_law : Array (Option Value)} {oc_law kV_law dc_law pm_law ct_law : Value} {cd_law : Value} {t_MOST_ROOMS : Tok} {t_MOST_RAYS : Tok} {t_MOST_IN_BASE : Tok} {t_MOST_IN_RAY : Tok} {t_MOST_FANS : Tok} {t_MOST_COMMON_GRAIN : Tok} {e_BadFan : Addr} {e_TooLarge : Addr}
    (a_is_integer : PySem.W.nsIn K mainGlobals "is_integer" = some (some (.ref f_is_integer)))
    (l_is_integer : K.lookup f_is_integer = some ⟨oc_is_integer, od_is_integer, .func (PySem.W.fnOf "is_integer" "is_integer" (defArgs s_is_integer) (defBody s_is_integer) (defScope s_is_integer) .none kV_is_integer dc_is_integer pm_is_integer an_is_integer cd_is_integer ct_is_integer), sl_is_integer⟩)
    (c_is_integer : PySem.W.codeIn K cd_is_integer "is_integer" = true)
    (k_is_integer : PySem.W.keepIn K (.ref f_is_integer) = true)
    (a_is_between : PySem.W.nsIn K mainGlobals "is_between" = some (some (.ref f_is_between)))
    (l_is_between : K.lookup f_is_between = some ⟨oc_is_between, od_is_between, .func (PySem.W.fnOf "is_between" "is_between" (defArgs s_is_between) (defBody s_is_between) (defScope s_is_between) .none kV_is_between dc_is_between pm_is_between an_is_between cd_is_between ct_is_between), sl_is_between⟩)
    (c_is_between : PySem.W.codeIn K cd_is_between "is_between" = true)
    (k_is_between : PySem.W.keepIn K (.ref f_is_between) = true)
    (a_is_count : PySem.W.nsIn K mainGlobals "is_count" = some (some (.ref f_is_count)))
    (l_is_count : K.lookup f_is_count = some ⟨oc_is_count, od_is_count, .func (PySem.W.fnOf "is_count" "is_count" (defArgs s_is_count) (defBody s_is_count) (defScope s_is_count) .none kV_is_count dc_is_count pm_is_count an_is_count cd_is_count ct_is_count), sl_is_count⟩)
    (c_is_count : PySem.W.codeIn K cd_is_count "is_count" = true)
    (k_is_count : PySem.W.keepIn K (.ref f_is_count) = true)
    (a_is_tuple_of : PySem.W.nsIn K mainGlobals "is_tuple_of" = some (some (.ref f_is_tuple_of)))
    (l_is_tuple_of : K.lookup f_is_tuple_of = some ⟨oc_is_tuple_of, od_is_tuple_of, .func (PySem.W.fnOf "is_tuple_of" "is_tuple_of" (defArgs s_is_tuple_of) (defBody s_is_tuple_of) (defScope s_is_tuple_of) .none kV_is_tuple_of dc_is_tuple_of pm_is_tuple_of an_is_tuple_of cd_is_tuple_of ct_is_tuple_of), sl_is_tuple_of⟩)
    (c_is_tuple_of : PySem.W.codeIn K cd_is_tuple_of "is_tuple_of" = true)
    (k_is_tuple_of : PySem.W.keepIn K (.ref f_is_tuple_of) = true)
    (a_is_tuple_up_to : PySem.W.nsIn K mainGlobals "is_tuple_up_to" = some (some (.ref f_is_tuple_up_to)))
    (l_is_tuple_up_to : K.lookup f_is_tuple_up_to = some ⟨oc_is_tuple_up_to, od_is_tuple_up_to, .func (PySem.W.fnOf "is_tuple_up_to" "is_tuple_up_to" (defArgs s_is_tuple_up_to) (defBody s_is_tuple_up_to) (defScope s_is_tuple_up_to) .none kV_is_tuple_up_to dc_is_tuple_up_to pm_is_tuple_up_to an_is_tuple_up_to cd_is_tuple_up_to ct_is_tuple_up_to), sl_is_tuple_up_to⟩)
    (c_is_tuple_up_to : PySem.W.codeIn K cd_is_tuple_up_to "is_tuple_up_to" = true)
    (k_is_tuple_up_to : PySem.W.keepIn K (.ref f_is_tuple_up_to) = true)
    (a_are_counts : PySem.W.nsIn K mainGlobals "are_counts" = some (some (.ref f_are_counts)))
    (l_are_counts : K.lookup f_are_counts = some ⟨oc_are_counts, od_are_counts, .func (PySem.W.fnOf "are_counts" "are_counts" (defArgs s_are_counts) (defBody s_are_counts) (defScope s_are_counts) .none kV_are_counts dc_are_counts pm_are_counts an_are_counts (.ref ac_are_counts) ct_are_counts), sl_are_counts⟩)
    (c_are_counts : PySem.W.codeIn K (.ref ac_are_counts) "are_counts" = true)
    (k_are_counts : PySem.W.keepIn K (.ref f_are_counts) = true)
    (q_are_counts : K.lookup ac_are_counts = some ⟨.type "code", dd_are_counts, .fields vs_are_counts, sx_are_counts⟩)
    (w_are_counts : vs_are_counts[11]? = some (.ref pt_are_counts))
    (h_are_counts : PySem.W.codeHdIn K ac_are_counts pt_are_counts = true)
    (n_are_counts : K.lookup pt_are_counts = none)
    (r_are_counts_ : ((recsOf q).any fun e => e.name == ("are_counts" : Str)) = true)
    (a_turn_of : PySem.W.nsIn K mainGlobals "turn_of" = some (some (.ref f_turn_of)))
    (l_turn_of : K.lookup f_turn_of = some ⟨oc_turn_of, od_turn_of, .func (PySem.W.fnOf "turn_of" "turn_of" (defArgs s_turn_of) (defBody s_turn_of) (defScope s_turn_of) .none kV_turn_of dc_turn_of pm_turn_of an_turn_of cd_turn_of ct_turn_of), sl_turn_of⟩)
    (c_turn_of : PySem.W.codeIn K cd_turn_of "turn_of" = true)
    (k_turn_of : PySem.W.keepIn K (.ref f_turn_of) = true)
    (a__is_ray : PySem.W.nsIn K mainGlobals "_is_ray" = some (some (.ref f__is_ray)))
    (l__is_ray : K.lookup f__is_ray = some ⟨oc__is_ray, od__is_ray, .func (PySem.W.fnOf "_is_ray" "_is_ray" (defArgs s__is_ray) (defBody s__is_ray) (defScope s__is_ray) .none kV__is_ray dc__is_ray pm__is_ray an__is_ray cd__is_ray ct__is_ray), sl__is_ray⟩)
    (c__is_ray : PySem.W.codeIn K cd__is_ray "_is_ray" = true)
    (k__is_ray : PySem.W.keepIn K (.ref f__is_ray) = true)
    (a_is_fan : PySem.W.nsIn K mainGlobals "is_fan" = some (some (.ref f_is_fan)))
    (l_is_fan : K.lookup f_is_fan = some ⟨oc_is_fan, od_is_fan, .func (PySem.W.fnOf "is_fan" "is_fan" (defArgs s_is_fan) (defBody s_is_fan) (defScope s_is_fan) .none kV_is_fan dc_is_fan pm_is_fan an_is_fan (.ref ac_is_fan) ct_is_fan), sl_is_fan⟩)
    (c_is_fan : PySem.W.codeIn K (.ref ac_is_fan) "is_fan" = true)
    (k_is_fan : PySem.W.keepIn K (.ref f_is_fan) = true)
    (q_is_fan : K.lookup ac_is_fan = some ⟨.type "code", dd_is_fan, .fields vs_is_fan, sx_is_fan⟩)
    (w_is_fan : vs_is_fan[11]? = some (.ref pt_is_fan))
    (h_is_fan : PySem.W.codeHdIn K ac_is_fan pt_is_fan = true)
    (n_is_fan : K.lookup pt_is_fan = none)
    (r_is_fan_ : ((recsOf q).any fun e => e.name == ("is_fan" : Str)) = true)
    (a_is_lot : PySem.W.nsIn K mainGlobals "is_lot" = some (some (.ref f_is_lot)))
    (l_is_lot : K.lookup f_is_lot = some ⟨oc_is_lot, od_is_lot, .func (PySem.W.fnOf "is_lot" "is_lot" (defArgs s_is_lot) (defBody s_is_lot) (defScope s_is_lot) .none kV_is_lot dc_is_lot pm_is_lot an_is_lot (.ref ac_is_lot) ct_is_lot), sl_is_lot⟩)
    (c_is_lot : PySem.W.codeIn K (.ref ac_is_lot) "is_lot" = true)
    (k_is_lot : PySem.W.keepIn K (.ref f_is_lot) = true)
    (q_is_lot : K.lookup ac_is_lot = some ⟨.type "code", dd_is_lot, .fields vs_is_lot, sx_is_lot⟩)
    (w_is_lot : vs_is_lot[11]? = some (.ref pt_is_lot))
    (h_is_lot : PySem.W.codeHdIn K ac_is_lot pt_is_lot = true)
    (n_is_lot : K.lookup pt_is_lot = none)
    (r_is_lot_ : ((recsOf q).any fun e => e.name == ("is_lot" : Str)) = true)
    (a_check_lot : PySem.W.nsIn K mainGlobals "check_lot" = some (some (.ref f_check_lot)))
    (l_check_lot : K.lookup f_check_lot = some ⟨oc_check_lot, od_check_lot, .func (PySem.W.fnOf "check_lot" "check_lot" (defArgs s_check_lot) (defBody s_check_lot) (defScope s_check_lot) .none kV_check_lot dc_check_lot pm_check_lot an_check_lot cd_check_lot ct_check_lot), sl_check_lot⟩)
    (c_check_lot : PySem.W.codeIn K cd_check_lot "check_lot" = true)
    (k_check_lot : PySem.W.keepIn K (.ref f_check_lot) = true)
    (a_order_of : PySem.W.nsIn K mainGlobals "order_of" = some (some (.ref f_order_of)))
    (l_order_of : K.lookup f_order_of = some ⟨oc_order_of, od_order_of, .func (PySem.W.fnOf "order_of" "order_of" (defArgs s_order_of) (defBody s_order_of) (defScope s_order_of) .none kV_order_of dc_order_of pm_order_of an_order_of cd_order_of ct_order_of), sl_order_of⟩)
    (c_order_of : PySem.W.codeIn K cd_order_of "order_of" = true)
    (k_order_of : PySem.W.keepIn K (.ref f_order_of) = true)
    (a_least_in : PySem.W.nsIn K mainGlobals "least_in" = some (some (.ref f_least_in)))
    (l_least_in : K.lookup f_least_in = some ⟨oc_least_in, od_least_in, .func (PySem.W.fnOf "least_in" "least_in" (defArgs s_least_in) (defBody s_least_in) (defScope s_least_in) .none kV_least_in dc_least_in pm_least_in an_least_in cd_least_in ct_least_in), sl_least_in⟩)
    (c_least_in : PySem.W.codeIn K cd_least_in "least_in" = true)
    (k_least_in : PySem.W.keepIn K (.ref f_least_in) = true)
    (a_grain_of : PySem.W.nsIn K mainGlobals "grain_of" = some (some (.ref f_grain_of)))
    (l_grain_of : K.lookup f_grain_of = some ⟨oc_grain_of, od_grain_of, .func (PySem.W.fnOf "grain_of" "grain_of" (defArgs s_grain_of) (defBody s_grain_of) (defScope s_grain_of) .none kV_grain_of dc_grain_of pm_grain_of an_grain_of cd_grain_of ct_grain_of), sl_grain_of⟩)
    (c_grain_of : PySem.W.codeIn K cd_grain_of "grain_of" = true)
    (k_grain_of : PySem.W.keepIn K (.ref f_grain_of) = true)
    (a__is_beyond : PySem.W.nsIn K mainGlobals "_is_beyond" = some (some (.ref f__is_beyond)))
    (l__is_beyond : K.lookup f__is_beyond = some ⟨oc__is_beyond, od__is_beyond, .func (PySem.W.fnOf "_is_beyond" "_is_beyond" (defArgs s__is_beyond) (defBody s__is_beyond) (defScope s__is_beyond) .none kV__is_beyond dc__is_beyond pm__is_beyond an__is_beyond cd__is_beyond ct__is_beyond), sl__is_beyond⟩)
    (c__is_beyond : PySem.W.codeIn K cd__is_beyond "_is_beyond" = true)
    (k__is_beyond : PySem.W.keepIn K (.ref f__is_beyond) = true)
    (a_check_size : PySem.W.nsIn K mainGlobals "check_size" = some (some (.ref f_check_size)))
    (l_check_size : K.lookup f_check_size = some ⟨oc_check_size, od_check_size, .func (PySem.W.fnOf "check_size" "check_size" (defArgs s_check_size) (defBody s_check_size) (defScope s_check_size) .none kV_check_size dc_check_size pm_check_size an_check_size cd_check_size ct_check_size), sl_check_size⟩)
    (c_check_size : PySem.W.codeIn K cd_check_size "check_size" = true)
    (k_check_size : PySem.W.keepIn K (.ref f_check_size) = true)
    (a_least : PySem.W.nsIn K mainGlobals "least" = some (some (.ref f_least)))
    (l_least : K.lookup f_least = some ⟨oc_least, od_least, .func (PySem.W.fnOf "least" "least" (defArgs s_least) (defBody s_least) (defScope s_least) .none kV_least dc_least pm_least an_least cd_least ct_least), sl_least⟩)
    (c_least : PySem.W.codeIn K cd_least "least" = true)
    (k_least : PySem.W.keepIn K (.ref f_least) = true)
    (a_number_in : PySem.W.nsIn K mainGlobals "number_in" = some (some (.ref f_number_in)))
    (l_number_in : K.lookup f_number_in = some ⟨oc_number_in, od_number_in, .func (PySem.W.fnOf "number_in" "number_in" (defArgs s_number_in) (defBody s_number_in) (defScope s_number_in) .none kV_number_in dc_number_in pm_number_in an_number_in cd_number_in ct_number_in), sl_number_in⟩)
    (c_number_in : PySem.W.codeIn K cd_number_in "number_in" = true)
    (k_number_in : PySem.W.keepIn K (.ref f_number_in) = true)
    (a_number : PySem.W.nsIn K mainGlobals "number" = some (some (.ref f_number)))
    (l_number : K.lookup f_number = some ⟨oc_number, od_number, .func (PySem.W.fnOf "number" "number" (defArgs s_number) (defBody s_number) (defScope s_number) .none kV_number dc_number pm_number an_number cd_number ct_number), sl_number⟩)
    (c_number : PySem.W.codeIn K cd_number "number" = true)
    (k_number : PySem.W.keepIn K (.ref f_number) = true)
    (a__law_mixed : PySem.W.nsIn K mainGlobals "_law_mixed" = some (some (.ref f__law_mixed)))
    (l__law_mixed : K.lookup f__law_mixed = some ⟨oc__law_mixed, od__law_mixed, .func (PySem.W.fnOf "_law_mixed" "_law_mixed" (defArgs s__law_mixed) (defBody s__law_mixed) (defScope s__law_mixed) .none kV__law_mixed dc__law_mixed pm__law_mixed an__law_mixed cd__law_mixed ct__law_mixed), sl__law_mixed⟩)
    (c__law_mixed : PySem.W.codeIn K cd__law_mixed "_law_mixed" = true)
    (k__law_mixed : PySem.W.keepIn K (.ref f__law_mixed) = true)
    (a__law_numbers : PySem.W.nsIn K mainGlobals "_law_numbers" = some (some (.ref f__law_numbers)))
    (l__law_numbers : K.lookup f__law_numbers = some ⟨oc__law_numbers, od__law_numbers, .func (PySem.W.fnOf "_law_numbers" "_law_numbers" (defArgs s__law_numbers) (defBody s__law_numbers) (defScope s__law_numbers) .none kV__law_numbers dc__law_numbers pm__law_numbers an__law_numbers cd__law_numbers ct__law_numbers), sl__law_numbers⟩)
    (c__law_numbers : PySem.W.codeIn K cd__law_numbers "_law_numbers" = true)
    (k__law_numbers : PySem.W.keepIn K (.ref f__law_numbers) = true)
    (a__law_draw : PySem.W.nsIn K mainGlobals "_law_draw" = some (some (.ref f__law_draw)))
    (l__law_draw : K.lookup f__law_draw = some ⟨oc__law_draw, od__law_draw, .func (PySem.W.fnOf "_law_draw" "_law_draw" (defArgs s__law_draw) (defBody s__law_draw) (defScope s__law_draw) .none kV__law_draw dc__law_draw pm__law_draw an__law_draw cd__law_draw ct__law_draw), sl__law_draw⟩)
    (c__law_draw : PySem.W.codeIn K cd__law_draw "_law_draw" = true)
    (k__law_draw : PySem.W.keepIn K (.ref f__law_draw) = true)
    (a__law_equal : PySem.W.nsIn K mainGlobals "_law_equal" = some (some (.ref f__law_equal)))
    (l__law_equal : K.lookup f__law_equal = some ⟨oc__law_equal, od__law_equal, .func (PySem.W.fnOf "_law_equal" "_law_equal" (defArgs s__law_equal) (defBody s__law_equal) (defScope s__law_equal) .none kV__law_equal dc__law_equal pm__law_equal an__law_equal cd__law_equal ct__law_equal), sl__law_equal⟩)
    (c__law_equal : PySem.W.codeIn K cd__law_equal "_law_equal" = true)
    (k__law_equal : PySem.W.keepIn K (.ref f__law_equal) = true)
    (a__law_all_equal : PySem.W.nsIn K mainGlobals "_law_all_equal" = some (some (.ref f__law_all_equal)))
    (l__law_all_equal : K.lookup f__law_all_equal = some ⟨oc__law_all_equal, od__law_all_equal, .func (PySem.W.fnOf "_law_all_equal" "_law_all_equal" (defArgs s__law_all_equal) (defBody s__law_all_equal) (defScope s__law_all_equal) .none kV__law_all_equal dc__law_all_equal pm__law_all_equal an__law_all_equal cd__law_all_equal ct__law_all_equal), sl__law_all_equal⟩)
    (c__law_all_equal : PySem.W.codeIn K cd__law_all_equal "_law_all_equal" = true)
    (k__law_all_equal : PySem.W.keepIn K (.ref f__law_all_equal) = true)
    (a__law_fan : PySem.W.nsIn K mainGlobals "_law_fan" = some (some (.ref f__law_fan)))
    (l__law_fan : K.lookup f__law_fan = some ⟨oc__law_fan, od__law_fan, .func (PySem.W.fnOf "_law_fan" "_law_fan" (defArgs s__law_fan) (defBody s__law_fan) (defScope s__law_fan) .none kV__law_fan dc__law_fan pm__law_fan an__law_fan cd__law_fan ct__law_fan), sl__law_fan⟩)
    (c__law_fan : PySem.W.codeIn K cd__law_fan "_law_fan" = true)
    (k__law_fan : PySem.W.keepIn K (.ref f__law_fan) = true)
    (a__law_lot : PySem.W.nsIn K mainGlobals "_law_lot" = some (some (.ref f__law_lot)))
    (l__law_lot : K.lookup f__law_lot = some ⟨oc__law_lot, od__law_lot, .func (PySem.W.fnOf "_law_lot" "_law_lot" (defArgs s__law_lot) (defBody s__law_lot) (defScope s__law_lot) .none kV__law_lot dc__law_lot pm__law_lot an__law_lot cd__law_lot ct__law_lot), sl__law_lot⟩)
    (c__law_lot : PySem.W.codeIn K cd__law_lot "_law_lot" = true)
    (k__law_lot : PySem.W.keepIn K (.ref f__law_lot) = true)
    (a__law_divisor : PySem.W.nsIn K mainGlobals "_law_divisor" = some (some (.ref f__law_divisor)))
    (l__law_divisor : K.lookup f__law_divisor = some ⟨oc__law_divisor, od__law_divisor, .func (PySem.W.fnOf "_law_divisor" "_law_divisor" (defArgs s__law_divisor) (defBody s__law_divisor) (defScope s__law_divisor) .none kV__law_divisor dc__law_divisor pm__law_divisor an__law_divisor cd__law_divisor ct__law_divisor), sl__law_divisor⟩)
    (c__law_divisor : PySem.W.codeIn K cd__law_divisor "_law_divisor" = true)
    (k__law_divisor : PySem.W.keepIn K (.ref f__law_divisor) = true)
    (a__law_grain : PySem.W.nsIn K mainGlobals "_law_grain" = some (some (.ref f__law_grain)))
    (l__law_grain : K.lookup f__law_grain = some ⟨oc__law_grain, od__law_grain, .func (PySem.W.fnOf "_law_grain" "_law_grain" (defArgs s__law_grain) (defBody s__law_grain) (defScope s__law_grain) .none kV__law_grain dc__law_grain pm__law_grain an__law_grain cd__law_grain ct__law_grain), sl__law_grain⟩)
    (c__law_grain : PySem.W.codeIn K cd__law_grain "_law_grain" = true)
    (k__law_grain : PySem.W.keepIn K (.ref f__law_grain) = true)
    (a__law_fits : PySem.W.nsIn K mainGlobals "_law_fits" = some (some (.ref f__law_fits)))
    (l__law_fits : K.lookup f__law_fits = some ⟨oc__law_fits, od__law_fits, .func (PySem.W.fnOf "_law_fits" "_law_fits" (defArgs s__law_fits) (defBody s__law_fits) (defScope s__law_fits) .none kV__law_fits dc__law_fits pm__law_fits an__law_fits cd__law_fits ct__law_fits), sl__law_fits⟩)
    (c__law_fits : PySem.W.codeIn K cd__law_fits "_law_fits" = true)
    (k__law_fits : PySem.W.keepIn K (.ref f__law_fits) = true)
    (a__law_key : PySem.W.nsIn K mainGlobals "_law_key" = some (some (.ref f__law_key)))
    (l__law_key : K.lookup f__law_key = some ⟨oc__law_key, od__law_key, .func (PySem.W.fnOf "_law_key" "_law_key" (defArgs s__law_key) (defBody s__law_key) (defScope s__law_key) .none kV__law_key dc__law_key pm__law_key an__law_key cd__law_key ct__law_key), sl__law_key⟩)
    (c__law_key : PySem.W.codeIn K cd__law_key "_law_key" = true)
    (k__law_key : PySem.W.keepIn K (.ref f__law_key) = true)
    (a__law_least : PySem.W.nsIn K mainGlobals "_law_least" = some (some (.ref f__law_least)))
    (l__law_least : K.lookup f__law_least = some ⟨oc__law_least, od__law_least, .func (PySem.W.fnOf "_law_least" "_law_least" (defArgs s__law_least) (defBody s__law_least) (defScope s__law_least) .none kV__law_least dc__law_least pm__law_least an__law_least cd__law_least ct__law_least), sl__law_least⟩)
    (c__law_least : PySem.W.codeIn K cd__law_least "_law_least" = true)
    (k__law_least : PySem.W.keepIn K (.ref f__law_least) = true)
    (a__law_told : PySem.W.nsIn K mainGlobals "_law_told" = some (some (.ref f__law_told)))
    (l__law_told : K.lookup f__law_told = some ⟨oc__law_told, od__law_told, .func (PySem.W.fnOf "_law_told" "_law_told" (defArgs s__law_told) (defBody s__law_told) (defScope s__law_told) .none kV__law_told dc__law_told pm__law_told an__law_told cd__law_told ct__law_told), sl__law_told⟩)
    (c__law_told : PySem.W.codeIn K cd__law_told "_law_told" = true)
    (k__law_told : PySem.W.keepIn K (.ref f__law_told) = true)
    (a__law_number : PySem.W.nsIn K mainGlobals "_law_number" = some (some (.ref f__law_number)))
    (l__law_number : K.lookup f__law_number = some ⟨oc__law_number, od__law_number, .func (PySem.W.fnOf "_law_number" "_law_number" (defArgs s__law_number) (defBody s__law_number) (defScope s__law_number) .none kV__law_number dc__law_number pm__law_number an__law_number cd__law_number ct__law_number), sl__law_number⟩)
    (c__law_number : PySem.W.codeIn K cd__law_number "_law_number" = true)
    (k__law_number : PySem.W.keepIn K (.ref f__law_number) = true)
    (a__law_least_of : PySem.W.nsIn K mainGlobals "_law_least_of" = some (some (.ref f__law_least_of)))
    (l__law_least_of : K.lookup f__law_least_of = some ⟨oc__law_least_of, od__law_least_of, .func (PySem.W.fnOf "_law_least_of" "_law_least_of" (defArgs s__law_least_of) (defBody s__law_least_of) (defScope s__law_least_of) .none kV__law_least_of dc__law_least_of pm__law_least_of an__law_least_of cd__law_least_of ct__law_least_of), sl__law_least_of⟩)
    (c__law_least_of : PySem.W.codeIn K cd__law_least_of "_law_least_of" = true)
    (k__law_least_of : PySem.W.keepIn K (.ref f__law_least_of) = true)
    (a_law : PySem.W.nsIn K mainGlobals "law" = some (some (.ref f_law)))
    (l_law : K.lookup f_law = some ⟨oc_law, od_law, .func (PySem.W.fnOf "law" "law" (defArgs s_law) (defBody s_law) (defScope s_law) .none kV_law dc_law pm_law an_law cd_law ct_law), sl_law⟩)
    (c_law : PySem.W.codeIn K cd_law "law" = true)
    (k_law : PySem.W.keepIn K (.ref f_law) = true)
    (z_isinstance : PySem.W.nsIn K mainGlobals "isinstance" = some none)
    (z_int : PySem.W.nsIn K mainGlobals "int" = some none)
    (z_bool : PySem.W.nsIn K mainGlobals "bool" = some none)
    (z_tuple : PySem.W.nsIn K mainGlobals "tuple" = some none)
    (z_len : PySem.W.nsIn K mainGlobals "len" = some none)
    (z_all : PySem.W.nsIn K mainGlobals "all" = some none)
    (z_list : PySem.W.nsIn K mainGlobals "list" = some none)
    (z_min : PySem.W.nsIn K mainGlobals "min" = some none)
    (z_abs : PySem.W.nsIn K mainGlobals "abs" = some none)
    (z_max : PySem.W.nsIn K mainGlobals "max" = some none)
    (z_any : PySem.W.nsIn K mainGlobals "any" = some none)
    (z_range : PySem.W.nsIn K mainGlobals "range" = some none)
    (z_str : PySem.W.nsIn K mainGlobals "str" = some none)
    (z_sorted : PySem.W.nsIn K mainGlobals "sorted" = some none)
    (z_set : PySem.W.nsIn K mainGlobals "set" = some none)
    (bf_gcd : PySem.W.nsIn K mainGlobals "gcd" = some (some (.builtin "math.gcd")))
    (bf_lcm : PySem.W.nsIn K mainGlobals "lcm" = some (some (.builtin "math.lcm")))
    (v_MOST_ROOMS : PySem.W.nsIn K mainGlobals "MOST_ROOMS" = some (some (.int 3 t_MOST_ROOMS)))
    (v_MOST_RAYS : PySem.W.nsIn K mainGlobals "MOST_RAYS" = some (some (.int 2 t_MOST_RAYS)))
    (v_MOST_IN_BASE : PySem.W.nsIn K mainGlobals "MOST_IN_BASE" = some (some (.int 12 t_MOST_IN_BASE)))
    (v_MOST_IN_RAY : PySem.W.nsIn K mainGlobals "MOST_IN_RAY" = some (some (.int 4 t_MOST_IN_RAY)))
    (v_MOST_FANS : PySem.W.nsIn K mainGlobals "MOST_FANS" = some (some (.int 4 t_MOST_FANS)))
    (v_MOST_COMMON_GRAIN : PySem.W.nsIn K mainGlobals "MOST_COMMON_GRAIN" = some (some (.int 6 t_MOST_COMMON_GRAIN)))
    (b_BadFan : PySem.W.nsIn K mainGlobals "BadFan" = some (some (.ref e_BadFan)))
    (b_TooLarge : PySem.W.nsIn K mainGlobals "TooLarge" = some (some (.ref e_TooLarge)))
    (x1_BadFan : PySem.W.excIn K e_BadFan [.type "ValueError", .type "Exception", .type "BaseException", .type "object"] "ValueError.__new__" = true)
    (x2_BadFan : PySem.W.keepIn K (.ref e_BadFan) = true)
    (x3_BadFan : PySem.W.subIn K (.ref e_BadFan) (.type "BaseException") = some true)
    (x4_BadFan : PySem.W.typeIn K (.ref e_BadFan) = some (.type "type"))
    (x1_TooLarge : PySem.W.excIn K e_TooLarge [.type "ValueError", .type "Exception", .type "BaseException", .type "object"] "ValueError.__new__" = true)
    (x2_TooLarge : PySem.W.keepIn K (.ref e_TooLarge) = true)
    (x3_TooLarge : PySem.W.subIn K (.ref e_TooLarge) (.type "BaseException") = some true)
    (x4_TooLarge : PySem.W.typeIn K (.ref e_TooLarge) = some (.type "type"))
    (hd_TooLarge : PySem.W.hasDictIn K e_TooLarge = true)
    (su_TooLarge_TooLarge : PySem.W.subIn K (.ref e_TooLarge) (.ref e_TooLarge) = some true) :
    LawG PySem.Challenge.pw_twinpurse_k23_least_standings_and_number w K 13 "script" mg fa h := by
  have m_is_integer := PySem.W.mg_of X G a_is_integer
  have m_is_between := PySem.W.mg_of X G a_is_between
  have m_is_count := PySem.W.mg_of X G a_is_count
  have m_is_tuple_of := PySem.W.mg_of X G a_is_tuple_of
  have m_is_tuple_up_to := PySem.W.mg_of X G a_is_tuple_up_to
  have m_are_counts := PySem.W.mg_of X G a_are_counts
  have m_turn_of := PySem.W.mg_of X G a_turn_of
  have m__is_ray := PySem.W.mg_of X G a__is_ray
  have m_is_fan := PySem.W.mg_of X G a_is_fan
  have m_is_lot := PySem.W.mg_of X G a_is_lot
  have m_check_lot := PySem.W.mg_of X G a_check_lot
  have m_order_of := PySem.W.mg_of X G a_order_of
  have m_least_in := PySem.W.mg_of X G a_least_in
  have m_grain_of := PySem.W.mg_of X G a_grain_of
  have m__is_beyond := PySem.W.mg_of X G a__is_beyond
  have m_check_size := PySem.W.mg_of X G a_check_size
  have m_least := PySem.W.mg_of X G a_least
  have m_number_in := PySem.W.mg_of X G a_number_in
  have m_number := PySem.W.mg_of X G a_number
  have m__law_mixed := PySem.W.mg_of X G a__law_mixed
  have m__law_numbers := PySem.W.mg_of X G a__law_numbers
  have m__law_draw := PySem.W.mg_of X G a__law_draw
  have m__law_equal := PySem.W.mg_of X G a__law_equal
  have m__law_all_equal := PySem.W.mg_of X G a__law_all_equal
  have m__law_fan := PySem.W.mg_of X G a__law_fan
  have m__law_lot := PySem.W.mg_of X G a__law_lot
  have m__law_divisor := PySem.W.mg_of X G a__law_divisor
  have m__law_grain := PySem.W.mg_of X G a__law_grain
  have m__law_fits := PySem.W.mg_of X G a__law_fits
  have m__law_key := PySem.W.mg_of X G a__law_key
  have m__law_least := PySem.W.mg_of X G a__law_least
  have m__law_told := PySem.W.mg_of X G a__law_told
  have m__law_number := PySem.W.mg_of X G a__law_number
  have m__law_least_of := PySem.W.mg_of X G a__law_least_of
  have m_law := PySem.W.mg_of X G a_law
  have g_isinstance := PySem.W.mg_none_of X G z_isinstance
  have g_int := PySem.W.mg_none_of X G z_int
  have g_bool := PySem.W.mg_none_of X G z_bool
  have g_tuple := PySem.W.mg_none_of X G z_tuple
  have g_len := PySem.W.mg_none_of X G z_len
  have g_all := PySem.W.mg_none_of X G z_all
  have g_list := PySem.W.mg_none_of X G z_list
  have g_min := PySem.W.mg_none_of X G z_min
  have g_abs := PySem.W.mg_none_of X G z_abs
  have g_max := PySem.W.mg_none_of X G z_max
  have g_any := PySem.W.mg_none_of X G z_any
  have g_range := PySem.W.mg_none_of X G z_range
  have g_str := PySem.W.mg_none_of X G z_str
  have g_sorted := PySem.W.mg_none_of X G z_sorted
  have g_set := PySem.W.mg_none_of X G z_set
  have u_MOST_ROOMS := PySem.W.mg_of X G v_MOST_ROOMS
  have u_MOST_RAYS := PySem.W.mg_of X G v_MOST_RAYS
  have u_MOST_IN_BASE := PySem.W.mg_of X G v_MOST_IN_BASE
  have u_MOST_IN_RAY := PySem.W.mg_of X G v_MOST_IN_RAY
  have u_MOST_FANS := PySem.W.mg_of X G v_MOST_FANS
  have u_MOST_COMMON_GRAIN := PySem.W.mg_of X G v_MOST_COMMON_GRAIN
  have gf_gcd := PySem.W.mg_of X G bf_gcd
  have gf_lcm := PySem.W.mg_of X G bf_lcm
  have o_BadFan := PySem.W.mg_of X G b_BadFan
  have o_TooLarge := PySem.W.mg_of X G b_TooLarge
  have x_BadFan : XFact K mg "BadFan" e_BadFan := ⟨x1_BadFan, o_BadFan, x2_BadFan, x3_BadFan, x4_BadFan⟩
  have x_TooLarge : XFact K mg "TooLarge" e_TooLarge := ⟨x1_TooLarge, o_TooLarge, x2_TooLarge, x3_TooLarge, x4_TooLarge⟩
  cases hfa.symm.trans m_law
  refine ⟨PySem.W.fnOf "law" "law" (defArgs s_law) (defBody s_law) (defScope s_law) .none kV_law dc_law pm_law an_law cd_law ct_law, [(ac_are_counts, pt_are_counts), (ac_is_fan, pt_is_fan), (ac_is_lot, pt_is_lot)], r_law, (by simp only [List.forall_mem_cons, List.not_mem_nil, false_imp_iff, implies_true, and_true]; exact ⟨T0 "are_counts" _ _ _ _ _ _ _ r_are_counts_ m_are_counts l_are_counts rfl h_are_counts, T0 "is_fan" _ _ _ _ _ _ _ r_is_fan_ m_is_fan l_is_fan rfl h_is_fan, T0 "is_lot" _ _ _ _ _ _ _ r_is_lot_ m_is_lot l_is_lot rfl h_is_lot⟩), (by simp only [List.forall_mem_cons, List.not_mem_nil, false_imp_iff, implies_true, and_true]; exact ⟨n_are_counts, n_is_fan, n_is_lot⟩), (by simp only [List.forall_mem_cons, List.not_mem_nil, false_imp_iff, implies_true, and_true]; exact ⟨h_are_counts, h_is_fan, h_is_lot⟩), fun s u => .of_eq rfl, fun ns hl => law_ok hl, fun base iK nB TB => ?_⟩
  have kc_TooLarge : Clause ⟨K, mg, ([(ac_are_counts, pt_are_counts), (ac_is_fan, pt_is_fan), (ac_is_lot, pt_is_lot)] : List (Addr × Addr)).map (·.2)⟩ (.ref e_TooLarge) (tkx "TooLarge" []) := clause_of o_TooLarge (PySem.W.exm_ref x3_TooLarge hd_TooLarge x4_TooLarge su_TooLarge_TooLarge) (fun y hy => by
    cases hy)
  have TB_are_counts := TB (ac_are_counts, pt_are_counts) (by simp)
  have TB_is_fan := TB (ac_is_fan, pt_is_fan) (by simp)
  have TB_is_lot := TB (ac_is_lot, pt_is_lot) (by simp)
  have D_is_integer := d_is_integer (P := PySem.Challenge.pw_twinpurse_k23_least_standings_and_number) (w := w) (base := base) (tabs := (([(ac_are_counts, pt_are_counts), (ac_is_fan, pt_is_fan), (ac_is_lot, pt_is_lot)] : List (Addr × Addr)).map (·.2))) m_is_integer l_is_integer c_is_integer k_is_integer g_isinstance g_int g_bool
  have D_is_between := d_is_between (P := PySem.Challenge.pw_twinpurse_k23_least_standings_and_number) (w := w) (base := base) (tabs := (([(ac_are_counts, pt_are_counts), (ac_is_fan, pt_is_fan), (ac_is_lot, pt_is_lot)] : List (Addr × Addr)).map (·.2))) m_is_between l_is_between c_is_between k_is_between D_is_integer
  have D_is_count := d_is_count (P := PySem.Challenge.pw_twinpurse_k23_least_standings_and_number) (w := w) (base := base) (tabs := (([(ac_are_counts, pt_are_counts), (ac_is_fan, pt_is_fan), (ac_is_lot, pt_is_lot)] : List (Addr × Addr)).map (·.2))) m_is_count l_is_count c_is_count k_is_count D_is_integer
  have D_is_tuple_of := d_is_tuple_of (P := PySem.Challenge.pw_twinpurse_k23_least_standings_and_number) (w := w) (base := base) (tabs := (([(ac_are_counts, pt_are_counts), (ac_is_fan, pt_is_fan), (ac_is_lot, pt_is_lot)] : List (Addr × Addr)).map (·.2))) m_is_tuple_of l_is_tuple_of c_is_tuple_of k_is_tuple_of g_isinstance g_tuple g_len
  have D_is_tuple_up_to := d_is_tuple_up_to (P := PySem.Challenge.pw_twinpurse_k23_least_standings_and_number) (w := w) (base := base) (tabs := (([(ac_are_counts, pt_are_counts), (ac_is_fan, pt_is_fan), (ac_is_lot, pt_is_lot)] : List (Addr × Addr)).map (·.2))) m_is_tuple_up_to l_is_tuple_up_to c_is_tuple_up_to k_is_tuple_up_to g_isinstance g_tuple g_len
  have D_are_counts := d_are_counts (P := PySem.Challenge.pw_twinpurse_k23_least_standings_and_number) (w := w) (base := base) (tabs := (([(ac_are_counts, pt_are_counts), (ac_is_fan, pt_is_fan), (ac_is_lot, pt_is_lot)] : List (Addr × Addr)).map (·.2))) m_are_counts l_are_counts c_are_counts k_are_counts D_is_tuple_of D_is_count g_all TB_are_counts (by simp)
  have D_turn_of := d_turn_of (P := PySem.Challenge.pw_twinpurse_k23_least_standings_and_number) (w := w) (base := base) (tabs := (([(ac_are_counts, pt_are_counts), (ac_is_fan, pt_is_fan), (ac_is_lot, pt_is_lot)] : List (Addr × Addr)).map (·.2))) m_turn_of l_turn_of c_turn_of k_turn_of 
  have D__is_ray := d__is_ray (P := PySem.Challenge.pw_twinpurse_k23_least_standings_and_number) (w := w) (base := base) (tabs := (([(ac_are_counts, pt_are_counts), (ac_is_fan, pt_is_fan), (ac_is_lot, pt_is_lot)] : List (Addr × Addr)).map (·.2))) m__is_ray l__is_ray c__is_ray k__is_ray D_are_counts
  have D_is_fan := d_is_fan (P := PySem.Challenge.pw_twinpurse_k23_least_standings_and_number) (w := w) (base := base) (tabs := (([(ac_are_counts, pt_are_counts), (ac_is_fan, pt_is_fan), (ac_is_lot, pt_is_lot)] : List (Addr × Addr)).map (·.2))) m_is_fan l_is_fan c_is_fan k_is_fan D_is_tuple_of D_is_between D_are_counts D_is_tuple_up_to D__is_ray D_turn_of g_all g_len u_MOST_ROOMS u_MOST_RAYS TB_is_fan (by simp)
  have D_is_lot := d_is_lot (P := PySem.Challenge.pw_twinpurse_k23_least_standings_and_number) (w := w) (base := base) (tabs := (([(ac_are_counts, pt_are_counts), (ac_is_fan, pt_is_fan), (ac_is_lot, pt_is_lot)] : List (Addr × Addr)).map (·.2))) m_is_lot l_is_lot c_is_lot k_is_lot D_is_fan g_isinstance g_list g_all TB_is_lot (by simp)
  have D_check_lot := d_check_lot (P := PySem.Challenge.pw_twinpurse_k23_least_standings_and_number) (w := w) (base := base) (tabs := (([(ac_are_counts, pt_are_counts), (ac_is_fan, pt_is_fan), (ac_is_lot, pt_is_lot)] : List (Addr × Addr)).map (·.2))) m_check_lot l_check_lot c_check_lot k_check_lot D_is_lot x_BadFan
  have D_order_of := d_order_of (P := PySem.Challenge.pw_twinpurse_k23_least_standings_and_number) (w := w) (base := base) (tabs := (([(ac_are_counts, pt_are_counts), (ac_is_fan, pt_is_fan), (ac_is_lot, pt_is_lot)] : List (Addr × Addr)).map (·.2))) m_order_of l_order_of c_order_of k_order_of 
  have D_least_in := d_least_in (P := PySem.Challenge.pw_twinpurse_k23_least_standings_and_number) (w := w) (base := base) (tabs := (([(ac_are_counts, pt_are_counts), (ac_is_fan, pt_is_fan), (ac_is_lot, pt_is_lot)] : List (Addr × Addr)).map (·.2))) m_least_in l_least_in c_least_in k_least_in D_order_of g_min
  have D_grain_of := d_grain_of (P := PySem.Challenge.pw_twinpurse_k23_least_standings_and_number) (w := w) (base := base) (tabs := (([(ac_are_counts, pt_are_counts), (ac_is_fan, pt_is_fan), (ac_is_lot, pt_is_lot)] : List (Addr × Addr)).map (·.2))) m_grain_of l_grain_of c_grain_of k_grain_of D_turn_of g_len g_abs gf_gcd
  have D__is_beyond := d__is_beyond (P := PySem.Challenge.pw_twinpurse_k23_least_standings_and_number) (w := w) (base := base) (tabs := (([(ac_are_counts, pt_are_counts), (ac_is_fan, pt_is_fan), (ac_is_lot, pt_is_lot)] : List (Addr × Addr)).map (·.2))) m__is_beyond l__is_beyond c__is_beyond k__is_beyond g_max g_any u_MOST_IN_BASE u_MOST_IN_RAY
  have D_check_size := d_check_size (P := PySem.Challenge.pw_twinpurse_k23_least_standings_and_number) (w := w) (base := base) (tabs := (([(ac_are_counts, pt_are_counts), (ac_is_fan, pt_is_fan), (ac_is_lot, pt_is_lot)] : List (Addr × Addr)).map (·.2))) m_check_size l_check_size c_check_size k_check_size D__is_beyond D_grain_of g_len g_any u_MOST_FANS u_MOST_COMMON_GRAIN gf_lcm x_TooLarge
  have D_least := d_least (P := PySem.Challenge.pw_twinpurse_k23_least_standings_and_number) (w := w) (base := base) (tabs := (([(ac_are_counts, pt_are_counts), (ac_is_fan, pt_is_fan), (ac_is_lot, pt_is_lot)] : List (Addr × Addr)).map (·.2))) m_least l_least c_least k_least D_check_lot D_check_size D_least_in
  have D_number_in := d_number_in (P := PySem.Challenge.pw_twinpurse_k23_least_standings_and_number) (w := w) (base := base) (tabs := (([(ac_are_counts, pt_are_counts), (ac_is_fan, pt_is_fan), (ac_is_lot, pt_is_lot)] : List (Addr × Addr)).map (·.2))) m_number_in l_number_in c_number_in k_number_in g_any g_len
  have D_number := d_number (P := PySem.Challenge.pw_twinpurse_k23_least_standings_and_number) (w := w) (base := base) (tabs := (([(ac_are_counts, pt_are_counts), (ac_is_fan, pt_is_fan), (ac_is_lot, pt_is_lot)] : List (Addr × Addr)).map (·.2))) m_number l_number c_number k_number D_check_lot D_check_size D_number_in
  have D__law_mixed := d__law_mixed (P := PySem.Challenge.pw_twinpurse_k23_least_standings_and_number) (w := w) (base := base) (tabs := (([(ac_are_counts, pt_are_counts), (ac_is_fan, pt_is_fan), (ac_is_lot, pt_is_lot)] : List (Addr × Addr)).map (·.2))) m__law_mixed l__law_mixed c__law_mixed k__law_mixed 
  have D__law_numbers := d__law_numbers (P := PySem.Challenge.pw_twinpurse_k23_least_standings_and_number) (w := w) (base := base) (tabs := (([(ac_are_counts, pt_are_counts), (ac_is_fan, pt_is_fan), (ac_is_lot, pt_is_lot)] : List (Addr × Addr)).map (·.2))) m__law_numbers l__law_numbers c__law_numbers k__law_numbers D__law_mixed g_range
  have D__law_draw := d__law_draw (P := PySem.Challenge.pw_twinpurse_k23_least_standings_and_number) (w := w) (base := base) (tabs := (([(ac_are_counts, pt_are_counts), (ac_is_fan, pt_is_fan), (ac_is_lot, pt_is_lot)] : List (Addr × Addr)).map (·.2))) m__law_draw l__law_draw c__law_draw k__law_draw D__law_mixed g_len
  have D__law_equal_u0 := d__law_equal_u0 (P := PySem.Challenge.pw_twinpurse_k23_least_standings_and_number) (w := w) (base := base) (tabs := (([(ac_are_counts, pt_are_counts), (ac_is_fan, pt_is_fan), (ac_is_lot, pt_is_lot)] : List (Addr × Addr)).map (·.2))) m__law_equal l__law_equal c__law_equal k__law_equal 
  have D__law_all_equal_u0 := d__law_all_equal_u0 (P := PySem.Challenge.pw_twinpurse_k23_least_standings_and_number) (w := w) (base := base) (tabs := (([(ac_are_counts, pt_are_counts), (ac_is_fan, pt_is_fan), (ac_is_lot, pt_is_lot)] : List (Addr × Addr)).map (·.2))) m__law_all_equal l__law_all_equal c__law_all_equal k__law_all_equal 
  have D__law_equal_u1 := d__law_equal_u1 (P := PySem.Challenge.pw_twinpurse_k23_least_standings_and_number) (w := w) (base := base) (tabs := (([(ac_are_counts, pt_are_counts), (ac_is_fan, pt_is_fan), (ac_is_lot, pt_is_lot)] : List (Addr × Addr)).map (·.2))) m__law_equal l__law_equal c__law_equal k__law_equal D__law_all_equal_u0 g_isinstance g_list g_len g_tuple g_bool g_int g_str
  have D__law_all_equal_u1 := d__law_all_equal_u1 (P := PySem.Challenge.pw_twinpurse_k23_least_standings_and_number) (w := w) (base := base) (tabs := (([(ac_are_counts, pt_are_counts), (ac_is_fan, pt_is_fan), (ac_is_lot, pt_is_lot)] : List (Addr × Addr)).map (·.2))) m__law_all_equal l__law_all_equal c__law_all_equal k__law_all_equal D__law_equal_u0 g_range g_len
  have D__law_equal_u2 := d__law_equal_u2 (P := PySem.Challenge.pw_twinpurse_k23_least_standings_and_number) (w := w) (base := base) (tabs := (([(ac_are_counts, pt_are_counts), (ac_is_fan, pt_is_fan), (ac_is_lot, pt_is_lot)] : List (Addr × Addr)).map (·.2))) m__law_equal l__law_equal c__law_equal k__law_equal D__law_all_equal_u1 g_isinstance g_list g_len g_tuple g_bool g_int g_str
  have D__law_all_equal_u2 := d__law_all_equal_u2 (P := PySem.Challenge.pw_twinpurse_k23_least_standings_and_number) (w := w) (base := base) (tabs := (([(ac_are_counts, pt_are_counts), (ac_is_fan, pt_is_fan), (ac_is_lot, pt_is_lot)] : List (Addr × Addr)).map (·.2))) m__law_all_equal l__law_all_equal c__law_all_equal k__law_all_equal D__law_equal_u1 g_range g_len
  have D__law_equal_u3 := d__law_equal_u3 (P := PySem.Challenge.pw_twinpurse_k23_least_standings_and_number) (w := w) (base := base) (tabs := (([(ac_are_counts, pt_are_counts), (ac_is_fan, pt_is_fan), (ac_is_lot, pt_is_lot)] : List (Addr × Addr)).map (·.2))) m__law_equal l__law_equal c__law_equal k__law_equal D__law_all_equal_u2 g_isinstance g_list g_len g_tuple g_bool g_int g_str
  have D__law_all_equal_u3 := d__law_all_equal_u3 (P := PySem.Challenge.pw_twinpurse_k23_least_standings_and_number) (w := w) (base := base) (tabs := (([(ac_are_counts, pt_are_counts), (ac_is_fan, pt_is_fan), (ac_is_lot, pt_is_lot)] : List (Addr × Addr)).map (·.2))) m__law_all_equal l__law_all_equal c__law_all_equal k__law_all_equal D__law_equal_u2 g_range g_len
  have D__law_equal_u4 := d__law_equal_u4 (P := PySem.Challenge.pw_twinpurse_k23_least_standings_and_number) (w := w) (base := base) (tabs := (([(ac_are_counts, pt_are_counts), (ac_is_fan, pt_is_fan), (ac_is_lot, pt_is_lot)] : List (Addr × Addr)).map (·.2))) m__law_equal l__law_equal c__law_equal k__law_equal D__law_all_equal_u3 g_isinstance g_list g_len g_tuple g_bool g_int g_str
  have D__law_all_equal_u4 := d__law_all_equal_u4 (P := PySem.Challenge.pw_twinpurse_k23_least_standings_and_number) (w := w) (base := base) (tabs := (([(ac_are_counts, pt_are_counts), (ac_is_fan, pt_is_fan), (ac_is_lot, pt_is_lot)] : List (Addr × Addr)).map (·.2))) m__law_all_equal l__law_all_equal c__law_all_equal k__law_all_equal D__law_equal_u3 g_range g_len
  have D__law_equal_u5 := d__law_equal_u5 (P := PySem.Challenge.pw_twinpurse_k23_least_standings_and_number) (w := w) (base := base) (tabs := (([(ac_are_counts, pt_are_counts), (ac_is_fan, pt_is_fan), (ac_is_lot, pt_is_lot)] : List (Addr × Addr)).map (·.2))) m__law_equal l__law_equal c__law_equal k__law_equal D__law_all_equal_u4 g_isinstance g_list g_len g_tuple g_bool g_int g_str
  have D__law_all_equal_u5 := d__law_all_equal_u5 (P := PySem.Challenge.pw_twinpurse_k23_least_standings_and_number) (w := w) (base := base) (tabs := (([(ac_are_counts, pt_are_counts), (ac_is_fan, pt_is_fan), (ac_is_lot, pt_is_lot)] : List (Addr × Addr)).map (·.2))) m__law_all_equal l__law_all_equal c__law_all_equal k__law_all_equal D__law_equal_u4 g_range g_len
  have D__law_equal_u6 := d__law_equal_u6 (P := PySem.Challenge.pw_twinpurse_k23_least_standings_and_number) (w := w) (base := base) (tabs := (([(ac_are_counts, pt_are_counts), (ac_is_fan, pt_is_fan), (ac_is_lot, pt_is_lot)] : List (Addr × Addr)).map (·.2))) m__law_equal l__law_equal c__law_equal k__law_equal D__law_all_equal_u5 g_isinstance g_list g_len g_tuple g_bool g_int g_str
  have D__law_all_equal_u6 := d__law_all_equal_u6 (P := PySem.Challenge.pw_twinpurse_k23_least_standings_and_number) (w := w) (base := base) (tabs := (([(ac_are_counts, pt_are_counts), (ac_is_fan, pt_is_fan), (ac_is_lot, pt_is_lot)] : List (Addr × Addr)).map (·.2))) m__law_all_equal l__law_all_equal c__law_all_equal k__law_all_equal D__law_equal_u5 g_range g_len
  have D__law_equal_u7 := d__law_equal_u7 (P := PySem.Challenge.pw_twinpurse_k23_least_standings_and_number) (w := w) (base := base) (tabs := (([(ac_are_counts, pt_are_counts), (ac_is_fan, pt_is_fan), (ac_is_lot, pt_is_lot)] : List (Addr × Addr)).map (·.2))) m__law_equal l__law_equal c__law_equal k__law_equal D__law_all_equal_u6 g_isinstance g_list g_len g_tuple g_bool g_int g_str
  have D__law_all_equal_u7 := d__law_all_equal_u7 (P := PySem.Challenge.pw_twinpurse_k23_least_standings_and_number) (w := w) (base := base) (tabs := (([(ac_are_counts, pt_are_counts), (ac_is_fan, pt_is_fan), (ac_is_lot, pt_is_lot)] : List (Addr × Addr)).map (·.2))) m__law_all_equal l__law_all_equal c__law_all_equal k__law_all_equal D__law_equal_u6 g_range g_len
  have D__law_equal_u8 := d__law_equal_u8 (P := PySem.Challenge.pw_twinpurse_k23_least_standings_and_number) (w := w) (base := base) (tabs := (([(ac_are_counts, pt_are_counts), (ac_is_fan, pt_is_fan), (ac_is_lot, pt_is_lot)] : List (Addr × Addr)).map (·.2))) m__law_equal l__law_equal c__law_equal k__law_equal D__law_all_equal_u7 g_isinstance g_list g_len g_tuple g_bool g_int g_str
  have D__law_all_equal_u8 := d__law_all_equal_u8 (P := PySem.Challenge.pw_twinpurse_k23_least_standings_and_number) (w := w) (base := base) (tabs := (([(ac_are_counts, pt_are_counts), (ac_is_fan, pt_is_fan), (ac_is_lot, pt_is_lot)] : List (Addr × Addr)).map (·.2))) m__law_all_equal l__law_all_equal c__law_all_equal k__law_all_equal D__law_equal_u7 g_range g_len
  have D__law_equal_u9 := d__law_equal_u9 (P := PySem.Challenge.pw_twinpurse_k23_least_standings_and_number) (w := w) (base := base) (tabs := (([(ac_are_counts, pt_are_counts), (ac_is_fan, pt_is_fan), (ac_is_lot, pt_is_lot)] : List (Addr × Addr)).map (·.2))) m__law_equal l__law_equal c__law_equal k__law_equal D__law_all_equal_u8 g_isinstance g_list g_len g_tuple g_bool g_int g_str
  have D__law_all_equal_u9 := d__law_all_equal_u9 (P := PySem.Challenge.pw_twinpurse_k23_least_standings_and_number) (w := w) (base := base) (tabs := (([(ac_are_counts, pt_are_counts), (ac_is_fan, pt_is_fan), (ac_is_lot, pt_is_lot)] : List (Addr × Addr)).map (·.2))) m__law_all_equal l__law_all_equal c__law_all_equal k__law_all_equal D__law_equal_u8 g_range g_len
  have D__law_fan := d__law_fan (P := PySem.Challenge.pw_twinpurse_k23_least_standings_and_number) (w := w) (base := base) (tabs := (([(ac_are_counts, pt_are_counts), (ac_is_fan, pt_is_fan), (ac_is_lot, pt_is_lot)] : List (Addr × Addr)).map (·.2))) m__law_fan l__law_fan c__law_fan k__law_fan D__law_draw g_range g_tuple
  have D__law_lot := d__law_lot (P := PySem.Challenge.pw_twinpurse_k23_least_standings_and_number) (w := w) (base := base) (tabs := (([(ac_are_counts, pt_are_counts), (ac_is_fan, pt_is_fan), (ac_is_lot, pt_is_lot)] : List (Addr × Addr)).map (·.2))) m__law_lot l__law_lot c__law_lot k__law_lot D__law_draw D__law_fan g_range
  have D__law_divisor := d__law_divisor (P := PySem.Challenge.pw_twinpurse_k23_least_standings_and_number) (w := w) (base := base) (tabs := (([(ac_are_counts, pt_are_counts), (ac_is_fan, pt_is_fan), (ac_is_lot, pt_is_lot)] : List (Addr × Addr)).map (·.2))) m__law_divisor l__law_divisor c__law_divisor k__law_divisor 
  have D__law_grain := d__law_grain (P := PySem.Challenge.pw_twinpurse_k23_least_standings_and_number) (w := w) (base := base) (tabs := (([(ac_are_counts, pt_are_counts), (ac_is_fan, pt_is_fan), (ac_is_lot, pt_is_lot)] : List (Addr × Addr)).map (·.2))) m__law_grain l__law_grain c__law_grain k__law_grain D__law_divisor g_len g_abs
  have D__law_fits := d__law_fits (P := PySem.Challenge.pw_twinpurse_k23_least_standings_and_number) (w := w) (base := base) (tabs := (([(ac_are_counts, pt_are_counts), (ac_is_fan, pt_is_fan), (ac_is_lot, pt_is_lot)] : List (Addr × Addr)).map (·.2))) m__law_fits l__law_fits c__law_fits k__law_fits D__law_grain D__law_divisor g_len g_max
  have D__law_key := d__law_key (P := PySem.Challenge.pw_twinpurse_k23_least_standings_and_number) (w := w) (base := base) (tabs := (([(ac_are_counts, pt_are_counts), (ac_is_fan, pt_is_fan), (ac_is_lot, pt_is_lot)] : List (Addr × Addr)).map (·.2))) m__law_key l__law_key c__law_key k__law_key 
  have D__law_least := d__law_least (P := PySem.Challenge.pw_twinpurse_k23_least_standings_and_number) (w := w) (base := base) (tabs := (([(ac_are_counts, pt_are_counts), (ac_is_fan, pt_is_fan), (ac_is_lot, pt_is_lot)] : List (Addr × Addr)).map (·.2))) m__law_least l__law_least c__law_least k__law_least D__law_key g_sorted
  have D__law_told := d__law_told (P := PySem.Challenge.pw_twinpurse_k23_least_standings_and_number) (w := w) (base := base) (tabs := (([(ac_are_counts, pt_are_counts), (ac_is_fan, pt_is_fan), (ac_is_lot, pt_is_lot)] : List (Addr × Addr)).map (·.2))) m__law_told l__law_told c__law_told k__law_told D_least D_number x_TooLarge kc_TooLarge
  have D__law_number := d__law_number (P := PySem.Challenge.pw_twinpurse_k23_least_standings_and_number) (w := w) (base := base) (tabs := (([(ac_are_counts, pt_are_counts), (ac_is_fan, pt_is_fan), (ac_is_lot, pt_is_lot)] : List (Addr × Addr)).map (·.2))) m__law_number l__law_number c__law_number k__law_number g_len g_set
  have D__law_least_of := d__law_least_of (P := PySem.Challenge.pw_twinpurse_k23_least_standings_and_number) (w := w) (base := base) (tabs := (([(ac_are_counts, pt_are_counts), (ac_is_fan, pt_is_fan), (ac_is_lot, pt_is_lot)] : List (Addr × Addr)).map (·.2))) m__law_least_of l__law_least_of c__law_least_of k__law_least_of D__law_least
  exact g_law l_law c_law D__law_numbers D__law_draw D__law_lot D__law_told D__law_fits D__law_equal_u9 D__law_least_of D__law_number g_list g_range
end LW
end Tw
end
section
set_option Elab.async false
set_option linter.all false
open PySem PySem.W PyProof.Rows in
set_option maxRecDepth 100000 in
set_option maxHeartbeats 0 in
theorem PySem.Challenge.cw_twinpurse_k23_least_standings_and_number_holds : PySem.Challenge.rw_twinpurse_k23_least_standings_and_number.Holds := by
  w_on; o_law; k_head; (case hw => w_witness2)
  k_fill
  refine Tw.walkG (l := PySem.Challenge.rw_twinpurse_k23_least_standings_and_number) (k := 13) (x := "script") rfl rfl ⟨rfl, by decide, by decide⟩ (fun w h Y => PySem.W.kIn_of Y) ?F
  case F =>
    intro w mg fa h Y KX G hmg T0
    refine' Tw.LW.all_mk KX G hmg T0 ?a_is_integer ?l_is_integer ?c_is_integer ?k_is_integer ?a_is_between ?l_is_between ?c_is_between ?k_is_between ?a_is_count ?l_is_count ?c_is_count ?k_is_count ?a_is_tuple_of ?l_is_tuple_of ?c_is_tuple_of ?k_is_tuple_of ?a_is_tuple_up_to ?l_is_tuple_up_to ?c_is_tuple_up_to ?k_is_tuple_up_to ?a_are_counts ?l_are_counts ?c_are_counts ?k_are_counts ?q_are_counts ?w_are_counts ?h_are_counts ?n_are_counts ?r_are_counts_ ?a_turn_of ?l_turn_of ?c_turn_of ?k_turn_of ?a__is_ray ?l__is_ray ?c__is_ray ?k__is_ray ?a_is_fan ?l_is_fan ?c_is_fan ?k_is_fan ?q_is_fan ?w_is_fan ?h_is_fan ?n_is_fan ?r_is_fan_ ?a_is_lot ?l_is_lot ?c_is_lot ?k_is_lot ?q_is_lot ?w_is_lot ?h_is_lot ?n_is_lot ?r_is_lot_ ?a_check_lot ?l_check_lot ?c_check_lot ?k_check_lot ?a_order_of ?l_order_of ?c_order_of ?k_order_of ?a_least_in ?l_least_in ?c_least_in ?k_least_in ?a_grain_of ?l_grain_of ?c_grain_of ?k_grain_of ?a__is_beyond ?l__is_beyond ?c__is_beyond ?k__is_beyond ?a_check_size ?l_check_size ?c_check_size ?k_check_size ?a_least ?l_least ?c_least ?k_least ?a_number_in ?l_number_in ?c_number_in ?k_number_in ?a_number ?l_number ?c_number ?k_number ?a__law_mixed ?l__law_mixed ?c__law_mixed ?k__law_mixed ?a__law_numbers ?l__law_numbers ?c__law_numbers ?k__law_numbers ?a__law_draw ?l__law_draw ?c__law_draw ?k__law_draw ?a__law_equal ?l__law_equal ?c__law_equal ?k__law_equal ?a__law_all_equal ?l__law_all_equal ?c__law_all_equal ?k__law_all_equal ?a__law_fan ?l__law_fan ?c__law_fan ?k__law_fan ?a__law_lot ?l__law_lot ?c__law_lot ?k__law_lot ?a__law_divisor ?l__law_divisor ?c__law_divisor ?k__law_divisor ?a__law_grain ?l__law_grain ?c__law_grain ?k__law_grain ?a__law_fits ?l__law_fits ?c__law_fits ?k__law_fits ?a__law_key ?l__law_key ?c__law_key ?k__law_key ?a__law_least ?l__law_least ?c__law_least ?k__law_least ?a__law_told ?l__law_told ?c__law_told ?k__law_told ?a__law_number ?l__law_number ?c__law_number ?k__law_number ?a__law_least_of ?l__law_least_of ?c__law_least_of ?k__law_least_of ?a_law ?l_law ?c_law ?k_law ?z_isinstance ?z_int ?z_bool ?z_tuple ?z_len ?z_all ?z_list ?z_min ?z_abs ?z_max ?z_any ?z_range ?z_str ?z_sorted ?z_set ?bf_gcd ?bf_lcm ?v_MOST_ROOMS ?v_MOST_RAYS ?v_MOST_IN_BASE ?v_MOST_IN_RAY ?v_MOST_FANS ?v_MOST_COMMON_GRAIN ?b_BadFan ?b_TooLarge ?x1_BadFan ?x2_BadFan ?x3_BadFan ?x4_BadFan ?x1_TooLarge ?x2_TooLarge ?x3_TooLarge ?x4_TooLarge ?hd_TooLarge ?su_TooLarge_TooLarge
    (case a_is_integer => first | k_is | rfl | kernel_rfl)
    (case l_is_integer => first | k_is | rfl | kernel_rfl)
    (case c_is_integer => first | k_is | rfl | kernel_rfl)
    (case k_is_integer => first | k_is | rfl | kernel_rfl)
    (case a_is_between => first | k_is | rfl | kernel_rfl)
    (case l_is_between => first | k_is | rfl | kernel_rfl)
    (case c_is_between => first | k_is | rfl | kernel_rfl)
    (case k_is_between => first | k_is | rfl | kernel_rfl)
    (case a_is_count => first | k_is | rfl | kernel_rfl)
    (case l_is_count => first | k_is | rfl | kernel_rfl)
    (case c_is_count => first | k_is | rfl | kernel_rfl)
    (case k_is_count => first | k_is | rfl | kernel_rfl)
    (case a_is_tuple_of => first | k_is | rfl | kernel_rfl)
    (case l_is_tuple_of => first | k_is | rfl | kernel_rfl)
    (case c_is_tuple_of => first | k_is | rfl | kernel_rfl)
    (case k_is_tuple_of => first | k_is | rfl | kernel_rfl)
    (case a_is_tuple_up_to => first | k_is | rfl | kernel_rfl)
    (case l_is_tuple_up_to => first | k_is | rfl | kernel_rfl)
    (case c_is_tuple_up_to => first | k_is | rfl | kernel_rfl)
    (case k_is_tuple_up_to => first | k_is | rfl | kernel_rfl)
    (case a_are_counts => first | k_is | rfl | kernel_rfl)
    (case l_are_counts => first | k_is | rfl | kernel_rfl)
    (case c_are_counts => first | k_is | rfl | kernel_rfl)
    (case k_are_counts => first | k_is | rfl | kernel_rfl)
    (case q_are_counts => first | k_is | rfl | kernel_rfl)
    (case w_are_counts => first | k_is | rfl | kernel_rfl)
    (case h_are_counts => first | k_is | rfl | kernel_rfl)
    (case n_are_counts => first | k_is | rfl | kernel_rfl)
    (case r_are_counts_ => first | k_is | rfl | kernel_rfl)
    (case a_turn_of => first | k_is | rfl | kernel_rfl)
    (case l_turn_of => first | k_is | rfl | kernel_rfl)
    (case c_turn_of => first | k_is | rfl | kernel_rfl)
    (case k_turn_of => first | k_is | rfl | kernel_rfl)
    (case a__is_ray => first | k_is | rfl | kernel_rfl)
    (case l__is_ray => first | k_is | rfl | kernel_rfl)
    (case c__is_ray => first | k_is | rfl | kernel_rfl)
    (case k__is_ray => first | k_is | rfl | kernel_rfl)
    (case a_is_fan => first | k_is | rfl | kernel_rfl)
    (case l_is_fan => first | k_is | rfl | kernel_rfl)
    (case c_is_fan => first | k_is | rfl | kernel_rfl)
    (case k_is_fan => first | k_is | rfl | kernel_rfl)
    (case q_is_fan => first | k_is | rfl | kernel_rfl)
    (case w_is_fan => first | k_is | rfl | kernel_rfl)
    (case h_is_fan => first | k_is | rfl | kernel_rfl)
    (case n_is_fan => first | k_is | rfl | kernel_rfl)
    (case r_is_fan_ => first | k_is | rfl | kernel_rfl)
    (case a_is_lot => first | k_is | rfl | kernel_rfl)
    (case l_is_lot => first | k_is | rfl | kernel_rfl)
    (case c_is_lot => first | k_is | rfl | kernel_rfl)
    (case k_is_lot => first | k_is | rfl | kernel_rfl)
    (case q_is_lot => first | k_is | rfl | kernel_rfl)
    (case w_is_lot => first | k_is | rfl | kernel_rfl)
    (case h_is_lot => first | k_is | rfl | kernel_rfl)
    (case n_is_lot => first | k_is | rfl | kernel_rfl)
    (case r_is_lot_ => first | k_is | rfl | kernel_rfl)
    (case a_check_lot => first | k_is | rfl | kernel_rfl)
    (case l_check_lot => first | k_is | rfl | kernel_rfl)
    (case c_check_lot => first | k_is | rfl | kernel_rfl)
    (case k_check_lot => first | k_is | rfl | kernel_rfl)
    (case a_order_of => first | k_is | rfl | kernel_rfl)
    (case l_order_of => first | k_is | rfl | kernel_rfl)
    (case c_order_of => first | k_is | rfl | kernel_rfl)
    (case k_order_of => first | k_is | rfl | kernel_rfl)
    (case a_least_in => first | k_is | rfl | kernel_rfl)
    (case l_least_in => first | k_is | rfl | kernel_rfl)
    (case c_least_in => first | k_is | rfl | kernel_rfl)
    (case k_least_in => first | k_is | rfl | kernel_rfl)
    (case a_grain_of => first | k_is | rfl | kernel_rfl)
    (case l_grain_of => first | k_is | rfl | kernel_rfl)
    (case c_grain_of => first | k_is | rfl | kernel_rfl)
    (case k_grain_of => first | k_is | rfl | kernel_rfl)
    (case a__is_beyond => first | k_is | rfl | kernel_rfl)
    (case l__is_beyond => first | k_is | rfl | kernel_rfl)
    (case c__is_beyond => first | k_is | rfl | kernel_rfl)
    (case k__is_beyond => first | k_is | rfl | kernel_rfl)
    (case a_check_size => first | k_is | rfl | kernel_rfl)
    (case l_check_size => first | k_is | rfl | kernel_rfl)
    (case c_check_size => first | k_is | rfl | kernel_rfl)
    (case k_check_size => first | k_is | rfl | kernel_rfl)
    (case a_least => first | k_is | rfl | kernel_rfl)
    (case l_least => first | k_is | rfl | kernel_rfl)
    (case c_least => first | k_is | rfl | kernel_rfl)
    (case k_least => first | k_is | rfl | kernel_rfl)
    (case a_number_in => first | k_is | rfl | kernel_rfl)
    (case l_number_in => first | k_is | rfl | kernel_rfl)
    (case c_number_in => first | k_is | rfl | kernel_rfl)
    (case k_number_in => first | k_is | rfl | kernel_rfl)
    (case a_number => first | k_is | rfl | kernel_rfl)
    (case l_number => first | k_is | rfl | kernel_rfl)
    (case c_number => first | k_is | rfl | kernel_rfl)
    (case k_number => first | k_is | rfl | kernel_rfl)
    (case a__law_mixed => first | k_is | rfl | kernel_rfl)
    (case l__law_mixed => first | k_is | rfl | kernel_rfl)
    (case c__law_mixed => first | k_is | rfl | kernel_rfl)
    (case k__law_mixed => first | k_is | rfl | kernel_rfl)
    (case a__law_numbers => first | k_is | rfl | kernel_rfl)
    (case l__law_numbers => first | k_is | rfl | kernel_rfl)
    (case c__law_numbers => first | k_is | rfl | kernel_rfl)
    (case k__law_numbers => first | k_is | rfl | kernel_rfl)
    (case a__law_draw => first | k_is | rfl | kernel_rfl)
    (case l__law_draw => first | k_is | rfl | kernel_rfl)
    (case c__law_draw => first | k_is | rfl | kernel_rfl)
    (case k__law_draw => first | k_is | rfl | kernel_rfl)
    (case a__law_equal => first | k_is | rfl | kernel_rfl)
    (case l__law_equal => first | k_is | rfl | kernel_rfl)
    (case c__law_equal => first | k_is | rfl | kernel_rfl)
    (case k__law_equal => first | k_is | rfl | kernel_rfl)
    (case a__law_all_equal => first | k_is | rfl | kernel_rfl)
    (case l__law_all_equal => first | k_is | rfl | kernel_rfl)
    (case c__law_all_equal => first | k_is | rfl | kernel_rfl)
    (case k__law_all_equal => first | k_is | rfl | kernel_rfl)
    (case a__law_fan => first | k_is | rfl | kernel_rfl)
    (case l__law_fan => first | k_is | rfl | kernel_rfl)
    (case c__law_fan => first | k_is | rfl | kernel_rfl)
    (case k__law_fan => first | k_is | rfl | kernel_rfl)
    (case a__law_lot => first | k_is | rfl | kernel_rfl)
    (case l__law_lot => first | k_is | rfl | kernel_rfl)
    (case c__law_lot => first | k_is | rfl | kernel_rfl)
    (case k__law_lot => first | k_is | rfl | kernel_rfl)
    (case a__law_divisor => first | k_is | rfl | kernel_rfl)
    (case l__law_divisor => first | k_is | rfl | kernel_rfl)
    (case c__law_divisor => first | k_is | rfl | kernel_rfl)
    (case k__law_divisor => first | k_is | rfl | kernel_rfl)
    (case a__law_grain => first | k_is | rfl | kernel_rfl)
    (case l__law_grain => first | k_is | rfl | kernel_rfl)
    (case c__law_grain => first | k_is | rfl | kernel_rfl)
    (case k__law_grain => first | k_is | rfl | kernel_rfl)
    (case a__law_fits => first | k_is | rfl | kernel_rfl)
    (case l__law_fits => first | k_is | rfl | kernel_rfl)
    (case c__law_fits => first | k_is | rfl | kernel_rfl)
    (case k__law_fits => first | k_is | rfl | kernel_rfl)
    (case a__law_key => first | k_is | rfl | kernel_rfl)
    (case l__law_key => first | k_is | rfl | kernel_rfl)
    (case c__law_key => first | k_is | rfl | kernel_rfl)
    (case k__law_key => first | k_is | rfl | kernel_rfl)
    (case a__law_least => first | k_is | rfl | kernel_rfl)
    (case l__law_least => first | k_is | rfl | kernel_rfl)
    (case c__law_least => first | k_is | rfl | kernel_rfl)
    (case k__law_least => first | k_is | rfl | kernel_rfl)
    (case a__law_told => first | k_is | rfl | kernel_rfl)
    (case l__law_told => first | k_is | rfl | kernel_rfl)
    (case c__law_told => first | k_is | rfl | kernel_rfl)
    (case k__law_told => first | k_is | rfl | kernel_rfl)
    (case a__law_number => first | k_is | rfl | kernel_rfl)
    (case l__law_number => first | k_is | rfl | kernel_rfl)
    (case c__law_number => first | k_is | rfl | kernel_rfl)
    (case k__law_number => first | k_is | rfl | kernel_rfl)
    (case a__law_least_of => first | k_is | rfl | kernel_rfl)
    (case l__law_least_of => first | k_is | rfl | kernel_rfl)
    (case c__law_least_of => first | k_is | rfl | kernel_rfl)
    (case k__law_least_of => first | k_is | rfl | kernel_rfl)
    (case a_law => first | k_is | rfl | kernel_rfl)
    (case l_law => first | k_is | rfl | kernel_rfl)
    (case c_law => first | k_is | rfl | kernel_rfl)
    (case k_law => first | k_is | rfl | kernel_rfl)
    (case z_isinstance => first | k_is | rfl | kernel_rfl)
    (case z_int => first | k_is | rfl | kernel_rfl)
    (case z_bool => first | k_is | rfl | kernel_rfl)
    (case z_tuple => first | k_is | rfl | kernel_rfl)
    (case z_len => first | k_is | rfl | kernel_rfl)
    (case z_all => first | k_is | rfl | kernel_rfl)
    (case z_list => first | k_is | rfl | kernel_rfl)
    (case z_min => first | k_is | rfl | kernel_rfl)
    (case z_abs => first | k_is | rfl | kernel_rfl)
    (case z_max => first | k_is | rfl | kernel_rfl)
    (case z_any => first | k_is | rfl | kernel_rfl)
    (case z_range => first | k_is | rfl | kernel_rfl)
    (case z_str => first | k_is | rfl | kernel_rfl)
    (case z_sorted => first | k_is | rfl | kernel_rfl)
    (case z_set => first | k_is | rfl | kernel_rfl)
    (case bf_gcd => first | k_is | rfl | kernel_rfl)
    (case bf_lcm => first | k_is | rfl | kernel_rfl)
    (case v_MOST_ROOMS => first | k_is | rfl | kernel_rfl)
    (case v_MOST_RAYS => first | k_is | rfl | kernel_rfl)
    (case v_MOST_IN_BASE => first | k_is | rfl | kernel_rfl)
    (case v_MOST_IN_RAY => first | k_is | rfl | kernel_rfl)
    (case v_MOST_FANS => first | k_is | rfl | kernel_rfl)
    (case v_MOST_COMMON_GRAIN => first | k_is | rfl | kernel_rfl)
    (case b_BadFan => first | k_is | rfl | kernel_rfl)
    (case b_TooLarge => first | k_is | rfl | kernel_rfl)
    (case x1_BadFan => first | k_is | rfl | kernel_rfl)
    (case x2_BadFan => first | k_is | rfl | kernel_rfl)
    (case x3_BadFan => first | k_is | rfl | kernel_rfl)
    (case x4_BadFan => first | k_is | rfl | kernel_rfl)
    (case x1_TooLarge => first | k_is | rfl | kernel_rfl)
    (case x2_TooLarge => first | k_is | rfl | kernel_rfl)
    (case x3_TooLarge => first | k_is | rfl | kernel_rfl)
    (case x4_TooLarge => first | k_is | rfl | kernel_rfl)
    (case hd_TooLarge => first | k_is | rfl | kernel_rfl)
    (case su_TooLarge_TooLarge => first | k_is | rfl | kernel_rfl)
end
