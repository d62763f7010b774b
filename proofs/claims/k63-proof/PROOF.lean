import PyProof.Rows.All
import Wide.All
import OpenK.AllK
import Wide.FinOn
import KE.KStateDown
import HandS.ForMost
import HandS.Walk
import HandS.IsInst
import HandS.TupAny
import HandS.Rev
import HandS.CallLocal
import HandS.HeadEnd
import HandS.HeadHook1
import HandS.HeadHook2
import HandS.HeadHook3
import HandS.Head0
import HandS.Head1
import HandS.Head2
import HandS.Wide
import HandS.TupMul
import HandS.TupLe
import HandS.More
import HandS.Dict
import HandS.Text
import HandS.WideBits
import KE.KTupSum
import KE.DataMinMax
import HandS.AnyAll
import HandS.GenList
import HandS.Iter
import HandS.Zip
import HandS.HeadHook4
import HandS.HeadWalk
import HandS.NestedK
import HandS.SortInts
import PyProof.FactsAll.list_3
import PyProof.Rows.FactsN_divmod
import PyProof.Rows.FactsT3
import PySem.Challenge.RW_samesamples_k63_whole_peak_and_mean_wind
set_option Elab.async false
set_option linter.all false
set_option maxRecDepth 100000
set_option maxHeartbeats 4000000
/-! Trees in place of addresses: a layer over the hand layer. A value is a tree (T), the heap G tells the changeable objects alone; tuples are trees. -/
namespace Lz
open PySem PySem.Spec PyProof.Rows L2

/-! ### trees -/
inductive T where
  | non | bl (b : Bool) | int (i : Int) | str (x : Str) | tup (xs : List T) | frz (xs : List T) | ref (a : Addr) | ty (n : String)
instance : Inhabited T := ⟨.non⟩

/-- a list that nobody changes: locked, or written at the top -/
def SqF (K : PySem.W.Frag) (H : Hp) (a : Addr) (xs : List V) : Prop :=
  (∃ o, H a = some (.frz o (.lst xs))) ∨
    ∃ (o : Obj) (its : Array Value) (n : Nat), K.lookup a = some o ∧ o.cls = .type "list" ∧ o.dict = none ∧ o.data = .seq its n ∧ its.size ≤ sizeLine ∧ Vals xs its.toList
theorem SqF.l {K : PySem.W.Frag} {H : Hp} {a : Addr} {xs : List V} (h : SqF K H a xs) : SqL K H a xs := by
  rcases h with h | h
  · exact .inl (.inr h)
  · exact .inr h

mutual
def Rep (K : PySem.W.Frag) (H : Hp) : T → V → Prop
  | .non, v => v = .non
  | .bl b, v => v = .bl b
  | .int i, v => v = .int i
  | .str x, v => v = .str x
  | .ref a, v => v = .ref a
  | .ty n, v => v = .ty n
  | .tup ts, v => ∃ a vs, v = .ref a ∧ SqT K H a vs ∧ Reps K H ts vs
  | .frz ts, v => ∃ a vs, v = .ref a ∧ SqF K H a vs ∧ Reps K H ts vs
def Reps (K : PySem.W.Frag) (H : Hp) : List T → List V → Prop
  | [], vs => vs = []
  | t :: ts, vs => ∃ v r, vs = v :: r ∧ Rep K H t v ∧ Reps K H ts r
end

structure Mono (K : PySem.W.Frag) (H H' : Hp) : Prop where
  t : ∀ a xs, SqT K H a xs → SqT K H' a xs
  f : ∀ a xs, SqF K H a xs → SqF K H' a xs
theorem Mono.refl {K : PySem.W.Frag} {H : Hp} : Mono K H H := ⟨fun _ _ h => h, fun _ _ h => h⟩
theorem Mono.trans {K : PySem.W.Frag} {H H1 H2 : Hp} (a : Mono K H H1) (b : Mono K H1 H2) : Mono K H H2 := ⟨fun x xs h => b.t x xs (a.t x xs h), fun x xs h => b.f x xs (a.f x xs h)⟩
/-- what stands at p is no tuple and not locked -/
theorem Mono.upd {K : PySem.W.Frag} {H : Hp} {p : Addr} {o : HO} (h : ∀ u, H p = some u → (∀ xs, u ≠ .tup xs) ∧ (∀ ob v, u ≠ .frz ob v)) : Mono K H (L2.upd H p o) := by
  have key : ∀ a u, H a = some u → ((∃ xs, u = .tup xs) ∨ ∃ ob v, u = .frz ob v) → L2.upd H p o a = some u := fun a u e c => by
    rw [upd_ne]
    · exact e
    · rintro rfl
      obtain ⟨h1, h2⟩ := h u e
      rcases c with ⟨xs, rfl⟩ | ⟨ob, v, rfl⟩
      · exact h1 _ rfl
      · exact h2 _ _ rfl
  refine ⟨fun a xs q => ?_, fun a xs q => ?_⟩
  · rcases q with (q | ⟨ob, q⟩) | q
    · exact .inl (.inl (key a _ q (.inl ⟨_, rfl⟩)))
    · exact .inl (.inr ⟨ob, key a _ q (.inr ⟨_, _, rfl⟩)⟩)
    · exact .inr q
  · rcases q with ⟨ob, q⟩ | q
    · exact .inl ⟨ob, key a _ q (.inr ⟨_, _, rfl⟩)⟩
    · exact .inr q
theorem Mono.new {K : PySem.W.Frag} {H : Hp} {p : Addr} {o : HO} (h : H p = none) : Mono K H (L2.upd H p o) := Mono.upd fun u e => by rw [h] at e; cases e
theorem Mono.lst {K : PySem.W.Frag} {H : Hp} {p : Addr} {o : HO} {xs : List V} (h : H p = some (.lst xs)) : Mono K H (L2.upd H p o) := Mono.upd fun u e => by
  rw [h] at e
  cases e
  exact ⟨fun _ z => (nomatch z), fun _ _ z => (nomatch z)⟩

section
variable {K : PySem.W.Frag} {H H' : Hp}
mutual
theorem Rep.mono (m : Mono K H H') : ∀ (t : T) {v : V}, Rep K H t v → Rep K H' t v
  | .non, _, h => by simpa only [Rep] using h
  | .bl _, _, h => by simpa only [Rep] using h
  | .int _, _, h => by simpa only [Rep] using h
  | .str _, _, h => by simpa only [Rep] using h
  | .ref _, _, h => by simpa only [Rep] using h
  | .ty _, _, h => by simpa only [Rep] using h
  | .tup ts, v, h => by
    simp only [Rep] at h ⊢
    obtain ⟨a, vs, e, s, r⟩ := h
    exact ⟨a, vs, e, m.t _ _ s, Reps.mono m ts r⟩
  | .frz ts, v, h => by
    simp only [Rep] at h ⊢
    obtain ⟨a, vs, e, s, r⟩ := h
    exact ⟨a, vs, e, m.f _ _ s, Reps.mono m ts r⟩
theorem Reps.mono (m : Mono K H H') : ∀ (ts : List T) {vs : List V}, Reps K H ts vs → Reps K H' ts vs
  | [], _, h => by simpa only [Reps] using h
  | t :: ts, vs, h => by
    simp only [Reps] at h ⊢
    obtain ⟨v, r, e, a, b⟩ := h
    exact ⟨v, r, e, Rep.mono m t a, Reps.mono m ts b⟩
end
theorem Reps.nil : Reps K H [] [] := by simp only [Reps]
theorem Reps.cons {t : T} {v : V} {ts : List T} {vs : List V} (a : Rep K H t v) (b : Reps K H ts vs) : Reps K H (t :: ts) (v :: vs) := by
  simp only [Reps]
  exact ⟨v, vs, rfl, a, b⟩
theorem Reps.nil_iff {vs : List V} : Reps K H [] vs ↔ vs = [] := by simp only [Reps]
theorem Reps.cons_iff {t : T} {ts : List T} {vs : List V} : Reps K H (t :: ts) vs ↔ ∃ v r, vs = v :: r ∧ Rep K H t v ∧ Reps K H ts r := by simp only [Reps]
theorem Reps.length : ∀ {ts : List T} {vs : List V}, Reps K H ts vs → ts.length = vs.length
  | [], vs, h => by rw [Reps.nil_iff] at h; subst h; rfl
  | t :: ts, vs, h => by
    obtain ⟨v, r, rfl, _, b⟩ := Reps.cons_iff.mp h
    simp [Reps.length b]
theorem Reps.get : ∀ {ts : List T} {vs : List V} {i : Nat} {v : V}, Reps K H ts vs → vs[i]? = some v → ∃ t, ts[i]? = some t ∧ Rep K H t v
  | [], vs, i, v, h, e => by rw [Reps.nil_iff] at h; subst h; simp at e
  | t :: ts, vs, i, v, h, e => by
    obtain ⟨w, r, rfl, a, b⟩ := Reps.cons_iff.mp h
    cases i with
    | zero => simp at e; subst e; exact ⟨t, rfl, a⟩
    | succ i => exact Reps.get (i := i) b (by simpa using e)
theorem Reps.got : ∀ {ts : List T} {vs : List V} {i : Nat} {t : T}, Reps K H ts vs → ts[i]? = some t → ∃ v, vs[i]? = some v ∧ Rep K H t v
  | [], vs, i, v, h, e => by simp at e
  | t :: ts, vs, i, v, h, e => by
    obtain ⟨w, r, rfl, a, b⟩ := Reps.cons_iff.mp h
    cases i with
    | zero => simp at e; subst e; exact ⟨w, rfl, a⟩
    | succ i => exact Reps.got (i := i) b (by simpa using e)
theorem Reps.append : ∀ {ts us : List T} {vs ws : List V}, Reps K H ts vs → Reps K H us ws → Reps K H (ts ++ us) (vs ++ ws)
  | [], us, vs, ws, h, q => by rw [Reps.nil_iff] at h; subst h; exact q
  | t :: ts, us, vs, ws, h, q => by
    obtain ⟨w, r, rfl, a, b⟩ := Reps.cons_iff.mp h
    exact Reps.cons a (Reps.append b q)
theorem Reps.drop : ∀ {ts : List T} {vs : List V} (n : Nat), Reps K H ts vs → Reps K H (ts.drop n) (vs.drop n)
  | ts, vs, 0, h => h
  | [], vs, n + 1, h => by rw [Reps.nil_iff] at h; subst h; exact Reps.nil
  | t :: ts, vs, n + 1, h => by
    obtain ⟨w, r, rfl, a, b⟩ := Reps.cons_iff.mp h
    exact Reps.drop n b
theorem Reps.take : ∀ {ts : List T} {vs : List V} (n : Nat), Reps K H ts vs → Reps K H (ts.take n) (vs.take n)
  | ts, vs, 0, h => by simp only [List.take_zero]; exact Reps.nil
  | [], vs, n + 1, h => by rw [Reps.nil_iff] at h; subst h; exact Reps.nil
  | t :: ts, vs, n + 1, h => by
    obtain ⟨w, r, rfl, a, b⟩ := Reps.cons_iff.mp h
    exact Reps.cons a (Reps.take n b)
theorem Reps.set : ∀ {ts : List T} {vs : List V} {t : T} {v : V} (i : Nat), Rep K H t v → Reps K H ts vs → Reps K H (ts.set i t) (vs.set i v)
  | [], vs, t, v, i, a, h => by rw [Reps.nil_iff] at h; subst h; exact Reps.nil
  | u :: ts, vs, t, v, i, a, h => by
    obtain ⟨w, r, rfl, b, c⟩ := Reps.cons_iff.mp h
    cases i with
    | zero => exact Reps.cons a c
    | succ i => exact Reps.cons b (Reps.set i a c)
theorem Reps.reverse : ∀ {ts : List T} {vs : List V}, Reps K H ts vs → Reps K H ts.reverse vs.reverse
  | [], vs, h => by rw [Reps.nil_iff] at h; subst h; exact Reps.nil
  | t :: ts, vs, h => by
    obtain ⟨w, r, rfl, a, b⟩ := Reps.cons_iff.mp h
    rw [List.reverse_cons, List.reverse_cons]
    exact Reps.append (Reps.reverse b) (Reps.cons a Reps.nil)
theorem Reps.ints : ∀ {ns : List Int} {vs : List V}, Reps K H (ns.map T.int) vs → vs = ns.map V.int
  | [], vs, h => by rw [List.map_nil, Reps.nil_iff] at h; exact h
  | n :: ns, vs, h => by
    rw [List.map_cons] at h
    obtain ⟨w, r, rfl, a, b⟩ := Reps.cons_iff.mp h
    simp only [Rep] at a
    rw [a, Reps.ints b, List.map_cons]
theorem Reps.of_ints : ∀ (ns : List Int), Reps K H (ns.map T.int) (ns.map V.int)
  | [] => Reps.nil
  | n :: ns => Reps.cons (by simp only [Rep]) (Reps.of_ints ns)
theorem Reps.bls : ∀ {ns : List Bool} {vs : List V}, Reps K H (ns.map T.bl) vs → vs = ns.map V.bl
  | [], vs, h => by rw [List.map_nil, Reps.nil_iff] at h; exact h
  | n :: ns, vs, h => by
    rw [List.map_cons] at h
    obtain ⟨w, r, rfl, a, b⟩ := Reps.cons_iff.mp h
    simp only [Rep] at a
    rw [a, Reps.bls b, List.map_cons]
theorem Rep.tup {a : Addr} {ts : List T} {vs : List V} (s : SqT K H a vs) (r : Reps K H ts vs) : Rep K H (.tup ts) (.ref a) := by
  simp only [Rep]
  exact ⟨a, vs, rfl, s, r⟩
theorem Rep.tup_iff {ts : List T} {v : V} : Rep K H (.tup ts) v ↔ ∃ a vs, v = .ref a ∧ SqT K H a vs ∧ Reps K H ts vs := by simp only [Rep]
theorem Rep.frz_iff {ts : List T} {v : V} : Rep K H (.frz ts) v ↔ ∃ a vs, v = .ref a ∧ SqF K H a vs ∧ Reps K H ts vs := by simp only [Rep]
theorem Rep.int_iff {i : Int} {v : V} : Rep K H (.int i) v ↔ v = .int i := by simp only [Rep]
theorem Rep.bl_iff {i : Bool} {v : V} : Rep K H (.bl i) v ↔ v = .bl i := by simp only [Rep]
theorem Rep.str_iff {i : Str} {v : V} : Rep K H (.str i) v ↔ v = .str i := by simp only [Rep]
theorem Rep.non_iff {v : V} : Rep K H .non v ↔ v = .non := by simp only [Rep]
theorem Rep.ref_iff {i : Addr} {v : V} : Rep K H (.ref i) v ↔ v = .ref i := by simp only [Rep]
theorem Rep.ty_iff {i : String} {v : V} : Rep K H (.ty i) v ↔ v = .ty i := by simp only [Rep]
end

/-! ### the changeable objects -/
inductive O where
  | lst (xs : List T)
abbrev G := Addr → Option O
def set (g : G) (p : Addr) (o : O) : G := fun b => if b = p then some o else g b
theorem set_same {g : G} {p : Addr} {o : O} : set g p o p = some o := by unfold set; rw [if_pos rfl]
theorem set_ne {g : G} {p b : Addr} {o : O} (h : b ≠ p) : set g p o b = g b := by unfold set; rw [if_neg h]
theorem set_set {g : G} {p : Addr} {o u : O} : set (set g p o) p u = set g p u := by
  funext b
  unfold set
  split <;> rfl
theorem set_comm {g : G} {p q : Addr} {o u : O} (h : p ≠ q) : set (set g p o) q u = set (set g q u) p o := by
  funext b
  unfold set
  by_cases h1 : b = q
  · by_cases h2 : b = p
    · exact absurd (h2.symm.trans h1) h
    · simp [h1, Ne.symm h]
  · simp [h1]
theorem gne {g : G} {p q : Addr} {o : O} (h : g p = some o) (h' : g q = none) : p ≠ q := by
  rintro rfl
  rw [h] at h'
  cases h'
/-- g holds all that g' tells -/
def Sub (g' g : G) : Prop := ∀ a o, g' a = some o → g a = some o
theorem Sub.refl {g : G} : Sub g g := fun _ _ h => h
theorem Sub.trans {a b c : G} (h : Sub a b) (k : Sub b c) : Sub a c := fun x o e => k x o (h x o e)
theorem Sub.set {g' g : G} {p : Addr} {o : O} (h : Sub g' g) (hp : g' p = none) : Sub g' (set g p o) := fun a u e => by
  rw [set_ne (gne e hp)]
  exact h a u e

def ORep (K : PySem.W.Frag) (H : Hp) : O → Addr → Prop
  | .lst ts, a => ∃ vs, H a = some (.lst vs) ∧ Reps K H ts vs
/-- the tables of the defs' code objects stand -/
def TabG (H : Hp) (P : Addr) : Prop := ∃ ps : Array Value, H P = some (.tbl ps) ∧ TriplesOk ps.toList

/-- what a def's activation leans on: the tables, the heap at its entry -/
structure Bs where
  tabs : List Addr
  h0 : Hp
structure HRel (K : PySem.W.Frag) (Tb : Bs) (g : G) (H : Hp) : Prop where
  ob : ∀ a o, g a = some o → ORep K H o a
  tb : ∀ P ∈ Tb.tabs, TabG H P
  mo : Mono K Tb.h0 H
section
variable {K : PySem.W.Frag} {Tb : Bs} {g g' : G} {H H' : Hp}
theorem HRel.sub (h : HRel K Tb g H) (s : Sub g' g) : HRel K Tb g' H := ⟨fun a o e => h.ob a o (s a o e), h.tb, h.mo⟩
theorem ORep.there {a : Addr} {o : O} (h : ORep K H o a) : ∃ u, H a = some u := by
  cases o with
  | lst ts => obtain ⟨vs, e, _⟩ := h; exact ⟨_, e⟩
theorem HRel.free (h : HRel K Tb g H) {p : Addr} (hp : H p = none) : g p = none := by
  cases e : g p with
  | none => rfl
  | some o =>
    obtain ⟨u, e2⟩ := (h.ob p o e).there
    rw [hp] at e2
    cases e2
theorem HRel.lst (h : HRel K Tb g H) {p : Addr} {ts : List T} (e : g p = some (.lst ts)) : ∃ vs, H p = some (.lst vs) ∧ Reps K H ts vs := h.ob p _ e
/-- a new tuple: nothing of g changes -/
theorem HRel.newTup (h : HRel K Tb g H) {p : Addr} {o : HO} (hp : H p = none) : HRel K Tb g (upd H p o) := by
  have m : Mono K H (upd H p o) := Mono.new hp
  refine ⟨fun a u e => ?_, fun P hP => ?_, h.mo.trans m⟩
  · cases u with
    | lst ts =>
      obtain ⟨vs, e2, r⟩ := h.ob a _ e
      exact ⟨vs, by rw [upd_ne (ne_of_none e2 hp)]; exact e2, Reps.mono m ts r⟩
  · obtain ⟨ps, e2, r⟩ := h.tb P hP
    exact ⟨ps, by rw [upd_ne (ne_of_none e2 hp)]; exact e2, r⟩
/-- a list is laid anew at a free place, or in a list's place -/
theorem HRel.put (h : HRel K Tb g H) {p : Addr} {ts : List T} {vs : List V} (hp : H p = none ∨ ∃ xs, H p = some (.lst xs)) (r : Reps K H ts vs) : HRel K Tb (set g p (.lst ts)) (upd H p (.lst vs)) ∧ Mono K H (upd H p (.lst vs)) := by
  have m : Mono K H (upd H p (.lst vs)) := by
    rcases hp with hp | ⟨xs, hp⟩
    · exact Mono.new hp
    · exact Mono.lst hp
  refine ⟨⟨fun a u e => ?_, fun P hP => ?_, h.mo.trans m⟩, m⟩
  · by_cases ha : a = p
    · subst ha
      rw [set_same] at e
      cases e
      exact ⟨vs, upd_same, Reps.mono m ts r⟩
    · rw [set_ne ha] at e
      cases u with
      | lst us =>
        obtain ⟨ws, e2, r2⟩ := h.ob a _ e
        exact ⟨ws, by rw [upd_ne ha]; exact e2, Reps.mono m us r2⟩
  · obtain ⟨ps, e2, r2⟩ := h.tb P hP
    refine ⟨ps, ?_, r2⟩
    rw [upd_ne]
    · exact e2
    · rintro rfl
      rcases hp with hp | ⟨xs, hp⟩ <;> (rw [hp] at e2; cases e2)
end

/-! ### slots -/
abbrev SS := List (Option T)
structure Rel (K : PySem.W.Frag) (Tb : Bs) (s : SS) (g : G) (σ : L2.St) (H : Hp) : Prop where
  sl : ∀ (i : Nat) (t : T), s[i]? = some (some t) → ∃ v, σ[i]? = some (some v) ∧ Rep K H t v
  len : s.length = σ.length
  hp : HRel K Tb g H
section
variable {K : PySem.W.Frag} {Tb : Bs} {s : SS} {g g' : G} {σ : L2.St} {H H' : Hp}
theorem Rel.mono (r : Rel K Tb s g σ H) (h : HRel K Tb g' H') (m : Mono K H H') : Rel K Tb s g' σ H' :=
  ⟨fun i t e => let ⟨v, e2, q⟩ := r.sl i t e; ⟨v, e2, Rep.mono m t q⟩, r.len, h⟩
theorem Rel.put (r : Rel K Tb s g σ H) {t : T} {v : V} (i : Nat) (q : Rep K H t v) : Rel K Tb (s.set i (some t)) g (σ.set i (some v)) H := by
  refine ⟨fun j u e => ?_, by simp [r.len], r.hp⟩
  by_cases hj : i = j
  · subst hj
    have hi : i < s.length := by
      have := (List.getElem?_eq_some_iff.mp e).1
      simpa using this
    rw [List.getElem?_set_self hi] at e
    cases e
    exact ⟨v, by rw [List.getElem?_set_self (by rw [← r.len]; exact hi)], q⟩
  · rw [List.getElem?_set_ne hj] at e
    rw [List.getElem?_set_ne hj]
    exact r.sl j u e
theorem Rel.unset (r : Rel K Tb s g σ H) (i : Nat) (w : Option V) : Rel K Tb (s.set i none) g (σ.set i w) H := by
  refine ⟨fun j u e => ?_, by simp [r.len], r.hp⟩
  by_cases hj : i = j
  · subst hj
    have hi : i < s.length := by
      have := (List.getElem?_eq_some_iff.mp e).1
      simpa using this
    rw [List.getElem?_set_self hi] at e
    cases e
  · rw [List.getElem?_set_ne hj] at e
    rw [List.getElem?_set_ne hj]
    exact r.sl j u e
end
end Lz

set_option Elab.async false
set_option linter.all false
set_option maxRecDepth 100000
set_option maxHeartbeats 4000000
/-! Readings over trees, expressions. -/
namespace Lz
open PySem PySem.Spec PyProof.Rows L2

abbrev AT := SS → G → (T → G → Prop) → Prop
abbrev ATT := SS → G → (Bool → G → Prop) → Prop
abbrev ATA := SS → G → (List T → G → Prop) → Prop
abbrev A1 := T → G → (T → G → Prop) → Prop
abbrev A2 := T → T → G → (T → G → Prop) → Prop
abbrev AN := List T → G → (T → G → Prop) → Prop

section
variable (K : PySem.W.Frag) (Tb : Bs)
def conc (a : AT) : TE := fun σ H Q => ∃ s g A, Rel K Tb s g σ H ∧ a s g A ∧ ∀ τ v g' H', HRel K Tb g' H' → Mono K H H' → Rep K H' τ v → A τ g' → Q v H'
def concT (a : ATT) : TT := fun σ H Q => ∃ s g A, Rel K Tb s g σ H ∧ a s g A ∧ ∀ b g' H', HRel K Tb g' H' → Mono K H H' → A b g' → Q b H'
def concA (a : ATA) : TA := fun σ H Q => ∃ s g A, Rel K Tb s g σ H ∧ a s g A ∧ ∀ ts vs g' H', HRel K Tb g' H' → Mono K H H' → Reps K H' ts vs → A ts g' → Q vs H'
/-- one place, two places, many places: by values -/
def Sim1 (f : A1) (r : V → Hp → VK → Prop) : Prop := ∀ x v g H A Q, HRel K Tb g H → Rep K H x v → f x g A → (∀ τ w g' H', HRel K Tb g' H' → Mono K H H' → Rep K H' τ w → A τ g' → Q w H') → r v H Q
def Sim2 (f : A2) (r : R2) : Prop := ∀ x y v u g H A Q, HRel K Tb g H → Rep K H x v → Rep K H y u → f x y g A → (∀ τ w g' H', HRel K Tb g' H' → Mono K H H' → Rep K H' τ w → A τ g' → Q w H') → r v u H Q
def SimN (f : AN) (r : List V → Hp → VK → Prop) : Prop := ∀ xs vs g H A Q, HRel K Tb g H → Reps K H xs vs → f xs g A → (∀ τ w g' H', HRel K Tb g' H' → Mono K H H' → Rep K H' τ w → A τ g' → Q w H') → r vs H Q
end

def AE (X : Cx) (Tb : Bs) (e : Expr) (a : AT) : Prop := PE X e (conc X.K Tb a)
def AP (X : Cx) (Tb : Bs) (e : Expr) (a : ATT) : Prop := PT X e (concT X.K Tb a)
def APW (X : Cx) (Tb : Bs) (e : Expr) (a : ATT) : Prop := PW X e (concT X.K Tb a)
def AA (X : Cx) (Tb : Bs) (es : List Expr) (a : ATA) : Prop := PA X es (concA X.K Tb a)

theorem pimp {X : Cx} {e : Expr} {t t' : TE} (h : PE X e t) (q : ∀ σ H Q, t' σ H Q → t σ H Q) : PE X e t' := ⟨fun pins s σ H Q I w => h.run pins s σ H Q I (q σ H Q w)⟩
theorem ptimp {X : Cx} {e : Expr} {t t' : TT} (h : PT X e t) (q : ∀ σ H Q, t' σ H Q → t σ H Q) : PT X e t' := ⟨fun pins s σ H Q I w => h.run pins s σ H Q I (q σ H Q w)⟩
theorem pwimp {X : Cx} {e : Expr} {t t' : TT} (h : PW X e t) (q : ∀ σ H Q, t' σ H Q → t σ H Q) : PW X e t' := ⟨fun wh pins s σ H Q I w => h.run wh pins s σ H Q I (q σ H Q w)⟩
theorem paimp {X : Cx} {e : List Expr} {t t' : TA} (h : PA X e t) (q : ∀ σ H Q, t' σ H Q → t σ H Q) : PA X e t' := ⟨fun pos pins s σ H Q I w => h.run pos pins s σ H Q I (q σ H Q w)⟩

/-! ### names, constants -/
def aVar (i : Nat) : AT := fun s g A => match s[i]? with
  | some (some t) => A t g
  | _ => False
def aC (t : T) : AT := fun _ g A => A t g
section
variable {X : Cx} {Tb : Bs} {e a b c : Expr} {aa ab ac : AT} {pos : Pos}
theorem ae_of {t : TE} {al : AT} (h : PE X e t) (q : ∀ s g A σ H Q, Rel X.K Tb s g σ H → al s g A → (∀ τ v g' H', HRel X.K Tb g' H' → Mono X.K H H' → Rep X.K H' τ v → A τ g' → Q v H') → t σ H Q) : AE X Tb e al :=
  pimp h fun σ H Q ⟨s, g, A, R, w, k⟩ => q s g A σ H Q R w k
theorem ae_var {i : Nat} (h : PE X e (tVar i)) : AE X Tb e (aVar i) := ae_of h fun s g A σ H Q R w k => by
  unfold aVar at w
  split at w
  · rename_i t e1
    obtain ⟨v, e2, q⟩ := R.sl i t e1
    exact ⟨v, e2, k t v g H R.hp .refl q w⟩
  · exact w.elim
theorem ae_c {t : T} {v : V} (h : PE X e (tC v)) (q : ∀ H, Rep X.K H t v) : AE X Tb e (aC t) := ae_of h fun s g A σ H Q R w k => k t v g H R.hp .refl (q H) w
theorem ae_int {i j pos} : AE X Tb (.Constant (.int i) j pos) (aC (.int i)) := ae_c pe_int fun _ => by simp only [Rep]
theorem ae_bl {i j pos} : AE X Tb (.Constant (.bool i) j pos) (aC (.bl i)) := ae_c pe_bl fun _ => by simp only [Rep]
theorem ae_non {j pos} : AE X Tb (.Constant .none j pos) (aC .non) := ae_c pe_non fun _ => by simp only [Rep]
theorem ae_str {i j pos} : AE X Tb (.Constant (.str i) j pos) (aC (.str i)) := ae_c pe_str fun _ => by simp only [Rep]

/-! ### operators -/
def aOp (f : A2) (aa ab : AT) : AT := fun s g A => aa s g fun x g1 => ab s g1 fun y g2 => f x y g2 A
def aUn (f : A1) (aa : AT) : AT := fun s g A => aa s g fun x g1 => f x g1 A
theorem sim_op {f : A2} {r : R2} (sm : Sim2 X.K Tb f r) : ∀ σ H Q, conc X.K Tb (aOp f aa ab) σ H Q → tOp r (conc X.K Tb aa) (conc X.K Tb ab) σ H Q := by
  rintro σ H Q ⟨s, g, A, R, w, k⟩
  refine ⟨s, g, _, R, w, fun x v g1 H1 h1 m1 rx w1 => ⟨s, g1, _, R.mono h1 m1, w1, fun y u g2 H2 h2 m2 ry w2 => ?_⟩⟩
  exact sm x y v u g2 H2 A Q h2 (rx.mono m2 _) ry w2 fun τ w' g' H' h m q z => k τ w' g' H' h (m1.trans (m2.trans m)) q z
theorem ae_op {op : Operator} {f : A2} {r : R2} (ho : OpR X (binaryOp op) r) (sm : Sim2 X.K Tb f r) (ha : AE X Tb a aa) (hb : AE X Tb b ab) : AE X Tb (.BinOp a op b pos) (aOp f aa ab) := pimp (pe_op ho ha hb) (sim_op sm)
theorem ae_cmp {op : CmpOp} {f : A2} {r : R2} (ho : OpR X (compareOp op) r) (sm : Sim2 X.K Tb f r) (ha : AE X Tb a aa) (hb : AE X Tb b ab) (hm : behindInMarks op b = false) : AE X Tb (.Compare a [op] [b] pos) (aOp f aa ab) := pimp (pe_cmpR ho ha hb hm) (sim_op sm)
def aTest (a : AT) : ATT := fun s g A => a s g fun x g1 => match x with
  | .bl b => A b g1
  | _ => False
theorem sim_test {al : AT} {t : TE} (q : ∀ σ H Q, conc X.K Tb al σ H Q → t σ H Q) : ∀ σ H Q, concT X.K Tb (aTest al) σ H Q → tTest t σ H Q := by
  rintro σ H Q ⟨s, g, A, R, w, k⟩
  refine q σ H _ ⟨s, g, _, R, w, fun τ v g' H' h m r z => ?_⟩
  cases τ with
  | bl b => rw [Rep.bl_iff] at r; exact ⟨b, r, k b g' H' h m z⟩
  | _ => exact z.elim
theorem ap_cmp {op : CmpOp} {f : A2} {r : R2} (ho : OpR X (compareOp op) r) (sm : Sim2 X.K Tb f r) (ha : AE X Tb a aa) (hb : AE X Tb b ab) (hm : behindInMarks op b = false) : AP X Tb (.Compare a [op] [b] pos) (aTest (aOp f aa ab)) := ptimp (pt_cmpR ho ha hb hm) (sim_test (sim_op sm))
theorem ap_val {al : AT} (h : AE X Tb e al) (he : ∀ whole, isTrue e X.env whole = (do let v ← whole; standAt e.pos; holding [v] (truthy v)) := by intro _; rfl) : AP X Tb e (aTest al) :=
  ptimp (pt_val h he) (sim_test fun _ _ _ z => z)
theorem ae_un {op : UnaryOp} {f : A1} {r : V → Hp → VK → Prop} (ho : UnR X (unaryOp op) r) (sm : Sim1 X.K Tb f r) (ha : AE X Tb a aa) : AE X Tb (.UnaryOp op a pos) (aUn f aa) := ae_of (pe_un ho ha) fun s g A σ H Q R w k =>
  ⟨s, g, _, R, w, fun x v g1 H1 h1 m1 rx w1 => sm x v g1 H1 A Q h1 rx w1 fun τ w' g' H' h m q z => k τ w' g' H' h (m1.trans m) q z⟩
/-- a < b < c -/
def aChain (f f' : A2) (aa ab ac : AT) : AT := fun s g A => aa s g fun x g1 => ab s g1 fun y g2 => f x y g2 fun z g3 => match z with
  | .bl true => ac s g3 fun w g4 => f' y w g4 A
  | .bl false => A (.bl false) g3
  | _ => False
theorem sim_chain {f f' : A2} {r r' : R2} (sm : Sim2 X.K Tb f r) (sm' : Sim2 X.K Tb f' r') : ∀ σ H Q, conc X.K Tb (aChain f f' aa ab ac) σ H Q → tChain r r' (conc X.K Tb aa) (conc X.K Tb ab) (conc X.K Tb ac) σ H Q := by
  rintro σ H Q ⟨s, g, A, R, w, k⟩
  refine ⟨s, g, _, R, w, fun x v g1 H1 h1 m1 rx w1 => ⟨s, g1, _, R.mono h1 m1, w1, fun y u g2 H2 h2 m2 ry w2 => ?_⟩⟩
  refine sm x y v u g2 H2 _ _ h2 (rx.mono m2 _) ry w2 fun τ w' g3 H3 h3 m3 q z => ?_
  cases τ with
  | bl c =>
    rw [Rep.bl_iff] at q
    cases c with
    | true =>
      refine ⟨true, q, ?_⟩
      rw [if_pos rfl]
      refine ⟨s, g3, _, R.mono h3 (m1.trans (m2.trans m3)), z, fun t4 v4 g4 H4 h4 m4 r4 w4 => ?_⟩
      exact sm' y t4 u v4 g4 H4 A Q h4 ((ry.mono m3 _).mono m4 _) r4 w4 fun τ w5 g5 H5 h5 m5 q5 z5 => k τ w5 g5 H5 h5 (m1.trans (m2.trans (m3.trans (m4.trans m5)))) q5 z5
    | false =>
      refine ⟨false, q, ?_⟩
      rw [if_neg Bool.false_ne_true]
      exact k _ _ g3 H3 h3 (m1.trans (m2.trans m3)) (Rep.bl_iff.mpr rfl) z
  | _ => exact z.elim
theorem ae_chain {op op' : CmpOp} {f f' : A2} {r r' : R2} (ho : OpR X (compareOp op) r) (sm : Sim2 X.K Tb f r) (ho' : OpR X (compareOp op') r') (sm' : Sim2 X.K Tb f' r') (ha : AE X Tb a aa) (hb : AE X Tb b ab) (hc : AE X Tb c ac)
    (hm : lastMarks [op, op'] [b, c] = false := by with_unfolding_all rfl) : AE X Tb (.Compare a [op, op'] [b, c] pos) (aChain f f' aa ab ac) := pimp (pe_chain ho ho' ha hb hc hm) (sim_chain sm sm')
theorem ap_chain {op op' : CmpOp} {f f' : A2} {r r' : R2} (ho : OpR X (compareOp op) r) (sm : Sim2 X.K Tb f r) (ho' : OpR X (compareOp op') r') (sm' : Sim2 X.K Tb f' r') (ha : AE X Tb a aa) (hb : AE X Tb b ab) (hc : AE X Tb c ac)
    (hm : lastMarks [op, op'] [b, c] = false := by with_unfolding_all rfl) : AP X Tb (.Compare a [op, op'] [b, c] pos) (aTest (aChain f f' aa ab ac)) := ptimp (pt_chain ho ho' ha hb hc hm) (sim_test (sim_chain sm sm'))

/-! ### and, or, not, if -/
def aAndT (u w : ATT) : ATT := fun s g A => u s g fun c g1 => match c with
  | true => w s g1 A
  | false => A false g1
def aOrT (u w : ATT) : ATT := fun s g A => u s g fun c g1 => match c with
  | true => A true g1
  | false => w s g1 A
def aNotT (u : ATT) : ATT := fun s g A => u s g fun c g1 => A (!c) g1
variable {pa pb : ATT} {rest : List Expr}
theorem apw_and1 (h : AP X Tb a pa) : APW X Tb (.BoolOp .And [a] pos) pa := pw_and1 h
theorem apw_or1 (h : AP X Tb a pa) : APW X Tb (.BoolOp .Or [a] pos) pa := pw_or1 h
theorem apw_and (h : AP X Tb a pa) (hb : APW X Tb (.BoolOp .And (b :: rest) pos) pb) : APW X Tb (.BoolOp .And (a :: b :: rest) pos) (aAndT pa pb) := pwimp (pw_and h hb) fun σ H Q ⟨s, g, A, R, w, k⟩ =>
  ⟨s, g, _, R, w, fun c g1 H1 h1 m1 z => by
    cases c with
    | true => rw [if_pos rfl]; exact ⟨s, g1, A, R.mono h1 m1, z, fun b g2 H2 h2 m2 z2 => k b g2 H2 h2 (m1.trans m2) z2⟩
    | false => rw [if_neg Bool.false_ne_true]; exact k _ _ _ h1 m1 z⟩
theorem apw_or (h : AP X Tb a pa) (hb : APW X Tb (.BoolOp .Or (b :: rest) pos) pb) : APW X Tb (.BoolOp .Or (a :: b :: rest) pos) (aOrT pa pb) := pwimp (pw_or h hb) fun σ H Q ⟨s, g, A, R, w, k⟩ =>
  ⟨s, g, _, R, w, fun c g1 H1 h1 m1 z => by
    cases c with
    | false => rw [if_neg Bool.false_ne_true]; exact ⟨s, g1, A, R.mono h1 m1, z, fun b g2 H2 h2 m2 z2 => k b g2 H2 h2 (m1.trans m2) z2⟩
    | true => rw [if_pos rfl]; exact k _ _ _ h1 m1 z⟩
theorem ap_w (h : APW X Tb a pa) : AP X Tb a pa := PW.pt h
theorem ap_not (h : AP X Tb a pa) : AP X Tb (.UnaryOp .Not a pos) (aNotT pa) := ptimp (pt_not h) fun σ H Q ⟨s, g, A, R, w, k⟩ => ⟨s, g, _, R, w, fun c g1 H1 h1 m1 z => k _ _ _ h1 m1 z⟩
/-- as values: all but the last True or False -/
def aAndV (aa ab : AT) : AT := fun s g A => aa s g fun x g1 => match x with
  | .bl true => ab s g1 A
  | .bl false => A (.bl false) g1
  | _ => False
def aOrV (aa ab : AT) : AT := fun s g A => aa s g fun x g1 => match x with
  | .bl true => A (.bl true) g1
  | .bl false => ab s g1 A
  | _ => False
def aNotV (aa : AT) : AT := fun s g A => aa s g fun x g1 => match x with
  | .bl c => A (.bl (!c)) g1
  | _ => False
theorem ae_one {op} (h : AE X Tb a aa) : AE X Tb (.BoolOp op [a] pos) aa := pe_one h
theorem ae_and (h : AE X Tb a aa) (hb : AE X Tb (.BoolOp .And (b :: rest) pos) ab) : AE X Tb (.BoolOp .And (a :: b :: rest) pos) (aAndV aa ab) := ae_of (pe_and h hb) fun s g A σ H Q R w k =>
  ⟨s, g, _, R, w, fun x v g1 H1 h1 m1 rx z => by
    cases x with
    | bl c =>
      rw [Rep.bl_iff] at rx
      refine ⟨c, rx, ?_⟩
      cases c with
      | true => rw [if_pos rfl]; exact ⟨s, g1, A, R.mono h1 m1, z, fun τ v g2 H2 h2 m2 r2 z2 => k τ v g2 H2 h2 (m1.trans m2) r2 z2⟩
      | false => rw [if_neg Bool.false_ne_true]; exact k _ _ _ _ h1 m1 (Rep.bl_iff.mpr rfl) z
    | _ => exact z.elim⟩
theorem ae_or (h : AE X Tb a aa) (hb : AE X Tb (.BoolOp .Or (b :: rest) pos) ab) : AE X Tb (.BoolOp .Or (a :: b :: rest) pos) (aOrV aa ab) := ae_of (pe_or h hb) fun s g A σ H Q R w k =>
  ⟨s, g, _, R, w, fun x v g1 H1 h1 m1 rx z => by
    cases x with
    | bl c =>
      rw [Rep.bl_iff] at rx
      refine ⟨c, rx, ?_⟩
      cases c with
      | false => rw [if_neg Bool.false_ne_true]; exact ⟨s, g1, A, R.mono h1 m1, z, fun τ v g2 H2 h2 m2 r2 z2 => k τ v g2 H2 h2 (m1.trans m2) r2 z2⟩
      | true => rw [if_pos rfl]; exact k _ _ _ _ h1 m1 (Rep.bl_iff.mpr rfl) z
    | _ => exact z.elim⟩
theorem ae_not (h : AE X Tb a aa) : AE X Tb (.UnaryOp .Not a pos) (aNotV aa) := ae_of (pe_not h) fun s g A σ H Q R w k =>
  ⟨s, g, _, R, w, fun x v g1 H1 h1 m1 rx z => by
    cases x with
    | bl c => rw [Rep.bl_iff] at rx; exact ⟨c, rx, k _ _ _ _ h1 m1 (Rep.bl_iff.mpr rfl) z⟩
    | _ => exact z.elim⟩
def aIf (t : ATT) (aa ab : AT) : AT := fun s g A => t s g fun c g1 => match c with
  | true => aa s g1 A
  | false => ab s g1 A
theorem ae_if (h : AP X Tb c pa) (ha : AE X Tb a aa) (hb : AE X Tb b ab) : AE X Tb (.IfExp c a b pos) (aIf pa aa ab) := ae_of (pe_ifExp h ha hb) fun s g A σ H Q R w k =>
  ⟨s, g, _, R, w, fun c g1 H1 h1 m1 z => by
    cases c with
    | true => rw [if_pos rfl]; exact ⟨s, g1, A, R.mono h1 m1, z, fun τ v g2 H2 h2 m2 r2 z2 => k τ v g2 H2 h2 (m1.trans m2) r2 z2⟩
    | false => rw [if_neg Bool.false_ne_true]; exact ⟨s, g1, A, R.mono h1 m1, z, fun τ v g2 H2 h2 m2 r2 z2 => k τ v g2 H2 h2 (m1.trans m2) r2 z2⟩⟩

/-! ### argument lists, displays, built-in calls -/
def aNil : ATA := fun _ g A => A [] g
def aCons (aa : AT) (ar : ATA) : ATA := fun s g A => aa s g fun x g1 => ar s g1 fun xs g2 => A (x :: xs) g2
variable {ar : ATA} {es : List Expr}
theorem aa_nil : AA X Tb [] aNil := paimp pa_nil fun σ H Q ⟨s, g, A, R, w, k⟩ => k [] [] g H R.hp .refl Reps.nil w
theorem aa_cons (h : AE X Tb e aa) (hr : AA X Tb es ar) (hs : starEach (e :: es) X.env = (false, eval e X.env) :: starEach es X.env := by rfl) : AA X Tb (e :: es) (aCons aa ar) := paimp (pa_cons h hr hs) fun σ H Q ⟨s, g, A, R, w, k⟩ =>
  ⟨s, g, _, R, w, fun x v g1 H1 h1 m1 rx z => ⟨s, g1, _, R.mono h1 m1, z, fun xs vs g2 H2 h2 m2 rs z2 => k (x :: xs) (v :: vs) g2 H2 h2 (m1.trans m2) (Reps.cons (rx.mono m2 _) rs) z2⟩⟩
/-- (a, b, ..): a tree -/
def aTup (ar : ATA) : AT := fun s g A => ar s g fun xs g1 => xs.length ≤ sizeLine ∧ A (.tup xs) g1
theorem ae_tup {k} (h : AA X Tb es ar) : AE X Tb (.Tuple es k pos) (aTup ar) := ae_of (pe_tup h) fun s g A σ H Q R w k =>
  ⟨s, g, _, R, w, fun xs vs g1 H1 h1 m1 rs z => ⟨by rw [← rs.length]; exact z.1, fun p hp => k _ _ g1 _ (h1.newTup hp) (m1.trans (.new hp)) (Rep.tup (SqT.of upd_same) (Reps.mono (.new hp) xs rs)) z.2⟩⟩
/-- [a, b, ..]: a new list -/
def aLst (ar : ATA) : AT := fun s g A => ar s g fun xs g1 => xs.length ≤ sizeLine ∧ ∀ p, g1 p = none → A (.ref p) (set g1 p (.lst xs))
theorem ae_lst (h : AA X Tb es ar) : AE X Tb (.List es pos) (aLst ar) := ae_of (pe_lst h) fun s g A σ H Q R w k =>
  ⟨s, g, _, R, w, fun xs vs g1 H1 h1 m1 rs z => ⟨by rw [← rs.length]; exact z.1, fun p hp => by
    obtain ⟨h2, m2⟩ := h1.put (.inl hp) rs
    exact k _ _ _ _ h2 (m1.trans m2) (Rep.ref_iff.mpr rfl) (z.2 p (h1.free hp))⟩⟩
def aN (f : AN) (ar : ATA) : AT := fun s g A => ar s g fun xs g1 => f xs g1 A
theorem ae_b {x : Str} {p pos : Pos} {id : String} {f : AN} {r : List V → Hp → VK → Prop} (sm : SimN X.K Tb f r) (hc : CallR X (.builtin id) r) (hg : Gl X x) (hm : X.mg x = none) (hv : bootBuiltins x = some (.builtin id)) (ha : AA X Tb (e :: es) ar) (hn : x ≠ "__name__" := by decide) (hdb : (x == ("__debug__" : Str)) = false := by decide)
    (he : starEach (e :: es) X.env = (false, eval e X.env) :: starEach es X.env := by rfl) (hpl : (backTo pos (starEach es X.env)).any (·.1) = false := by rfl) : AE X Tb (.Call (.Name x p) (e :: es) [] pos) (aN f ar) := ae_of (pe_callB hc hg hm hv ha hn hdb he hpl) fun s g A σ H Q R w k =>
  ⟨s, g, _, R, w, fun xs vs g1 H1 h1 m1 rs z => sm xs vs g1 H1 A Q h1 rs z fun τ w' g' H' h m q z => k τ w' g' H' h (m1.trans m) q z⟩
theorem ae_ty {x : Str} {p pos : Pos} {id : String} {f : AN} {r : List V → Hp → VK → Prop} (sm : SimN X.K Tb f r) (hc : CallR X (.type id) r) (hg : Gl X x) (hm : X.mg x = none) (hv : bootBuiltins x = some (.type id)) (ha : AA X Tb (e :: es) ar) (hn : x ≠ "__name__" := by decide) (hdb : (x == ("__debug__" : Str)) = false := by decide)
    (he : starEach (e :: es) X.env = (false, eval e X.env) :: starEach es X.env := by rfl) (hpl : (backTo pos (starEach es X.env)).any (·.1) = false := by rfl) : AE X Tb (.Call (.Name x p) (e :: es) [] pos) (aN f ar) := ae_of (pe_callTy hc hg hm hv ha hn hdb he hpl) fun s g A σ H Q R w k =>
  ⟨s, g, _, R, w, fun xs vs g1 H1 h1 m1 rs z => sm xs vs g1 H1 A Q h1 rs z fun τ w' g' H' h m q z => k τ w' g' H' h (m1.trans m) q z⟩
/-- what was made is let go; g as it was -/
def aKeep (aa : AT) : AT := fun s g A => aa s g fun x g1 => Sub g g1 ∧ A x g
theorem ae_keep (h : AE X Tb e aa) : AE X Tb e (aKeep aa) := ae_of h fun s g A σ H Q R w k =>
  ⟨s, g, _, R, w, fun x v g1 H1 h1 m1 rx z => k x v g H1 (h1.sub z.1) m1 rx z.2⟩
end
end Lz

set_option Elab.async false
set_option linter.all false
set_option maxRecDepth 100000
set_option maxHeartbeats 4000000
/-! Operators over trees, by values. -/
namespace Lz
open PySem PySem.Spec PyProof.Rows L2
theorem tuple_mulS (l : Addr) (items : Array Value) (n : Nat) (dd : Option Addr) (sl : Array (Option Value)) (x : Int) (u : Tok) (c0 : (decide (x < -(2 ^ 63)) || decide (x ≥ 2 ^ 63)) = false) (c1 : (items.isEmpty || x == 1) = true) :
    Meets (Builtin.«tuple.__mul__» ⟨[.ref l, .int x u], []⟩) (fun _ R s => s.heap.get? l = some { cls := .type "tuple", dict := dd, data := .seq items n, slots := sl } ∧ R (.ok (.ret (Value.ref l))) s) :=
  .of_wp fun prog w A R s h => by
    obtain ⟨hp, g, d, tk, os⟩ := s
    obtain ⟨hl, h⟩ := h
    have f1 := AutoSeq1.idx_int
    wp_walk using wpAny_loadPart' hl
    repeat (first
      | (refine wpAny_ite_false (decide_eq_false (by rw [c0]; exact Bool.false_ne_true)) ?_; wp_walk using wpAny_loadPart' hl)
      | (refine wpAny_ite_true (decide_eq_true c1) ?_; wp_walk using wpAny_loadPart' hl))
    exact ⟨_, rfl, h⟩
theorem tuple_mulN (l : Addr) (items : Array Value) (n : Nat) (dd : Option Addr) (sl : Array (Option Value)) (x : Int) (u : Tok) (c0 : (decide (x < -(2 ^ 63)) || decide (x ≥ 2 ^ 63)) = false) (c1 : (items.isEmpty || x == 1) = false) (c2 : (decide (x ≤ 0) || items.isEmpty) = true) :
    Meets (Builtin.«tuple.__mul__» ⟨[.ref l, .int x u], []⟩) (fun _ R s => s.heap.get? l = some { cls := .type "tuple", dict := dd, data := .seq items n, slots := sl } ∧
      R (.ok (.ret (Value.ref s.heap.objs.size))) { s with heap := s.heap.push { cls := Value.type "tuple", data := Data.seq #[] }, toks := s.toks }) :=
  .of_wp fun prog w A R s h => by
    obtain ⟨hp, g, d, tk, os⟩ := s
    obtain ⟨hl, h⟩ := h
    have f1 := AutoSeq1.idx_int
    wp_walk using wpAny_loadPart' hl
    repeat (first
      | (refine wpAny_ite_false (decide_eq_false (by rw [c0]; exact Bool.false_ne_true)) ?_; wp_walk using wpAny_loadPart' hl)
      | (refine wpAny_ite_false (decide_eq_false (by rw [c1]; exact Bool.false_ne_true)) ?_; wp_walk using wpAny_loadPart' hl)
      | (refine wpAny_ite_true (decide_eq_true c2) ?_; wp_walk using wpAny_loadPart' hl))
    exact ⟨_, rfl, h⟩

/-- a tuple so many times, also 0 and 1 times -/
def rRepA (K : PySem.W.Frag) : R2 := fun x y H Q => ∃ l k xs, x = .ref l ∧ y = .int k ∧ SqT K H l xs ∧ (-(2 ^ 63) ≤ k ∧ k < 2 ^ 63) ∧ xs.length * k.toNat ≤ 1000000 ∧ ((xs = [] ∨ k = 1) → Q (.ref l) H) ∧ (xs ≠ [] → k ≠ 1 → ∀ p, H p = none → Q (.ref p) (upd H p (.tup (List.replicate k.toNat xs).flatten)))
theorem op_repA {X : Cx} : OpR X (binaryOp .Mult) (rRepA X.K) := by
  intro pins s σ H x y v u Q I rx ry h
  obtain ⟨l, k, xs, rfl, rfl, hT, ⟨b1, b2⟩, hz, q1, q2⟩ := h
  cases rx
  obtain ⟨t, rfl⟩ := ry
  obtain ⟨its, r, ⟨⟨cls, dd, data, sl⟩, ho, hc, n, hd⟩, hs⟩ := I.tuple hT
  simp only at hc hd
  subst hc hd
  have hle : its.length = xs.length := r.length.symm
  have hsz0 : its.toArray.size = xs.length := by rw [List.size_toArray, hle]
  have c0 : (decide (k < -(2 ^ 63)) || decide (k ≥ 2 ^ 63)) = false := by
    rw [decide_eq_false (by omega), decide_eq_false (by omega)] <;> rfl
  by_cases hn : xs = [] ∨ k = 1
  · have c1 : (its.toArray.isEmpty || k == 1) = true := by
      rcases hn with e | e
      · have : its = [] := List.eq_nil_of_length_eq_zero (by rw [hle, e]; rfl)
        rw [this]; rfl
      · rw [e]; exact Bool.or_true _
    refine wpAny_binaryOp_repeat_ref (T := "tuple") (U := "int") (by decide) ⟨_, ho, rfl⟩ (fun s' => typeIs_int s' k t) noFill_tuple_mul F.fills_int_mul F.slot_int_rmul repeat_tuple F.slot_int_index.lookup
      (call_meets F.slot_int_rmul (typeIs_int s k t) F.entry_int_rmul (F.args_int_rmul_2 _ _) (int_rmul_tuple k t l its.toArray n dd sl)
        ⟨ho, rfl, ⟨_, ho, rfl⟩, call_meets F.slot_tuple_mul ⟨_, ho, rfl⟩ F.entry_tuple_mul (F.args_tuple_mul_2 _ _) (tuple_mulS l its.toArray n dd sl k t c0 c1) ⟨ho, ?_⟩⟩)
    exact ⟨.ref l, H, I, rfl, q1 hn⟩
  · have n1 : xs ≠ [] := fun e => hn (.inl e)
    have n2 : k ≠ 1 := fun e => hn (.inr e)
    have hi : its.toArray.isEmpty = false := by
      cases its with
      | nil => exact absurd (List.eq_nil_of_length_eq_zero hle.symm) n1
      | cons a b => rfl
    have c1 : (its.toArray.isEmpty || k == 1) = false := by
      rw [hi, Bool.false_or]
      exact beq_eq_false_iff_ne.mpr n2
    by_cases hk : k ≤ 0
    · have c2 : (decide (k ≤ 0) || its.toArray.isEmpty) = true := by rw [decide_eq_true hk]; rfl
      refine wpAny_binaryOp_repeat_ref (T := "tuple") (U := "int") (by decide) ⟨_, ho, rfl⟩ (fun s' => typeIs_int s' k t) noFill_tuple_mul F.fills_int_mul F.slot_int_rmul repeat_tuple F.slot_int_index.lookup
        (call_meets F.slot_int_rmul (typeIs_int s k t) F.entry_int_rmul (F.args_int_rmul_2 _ _) (int_rmul_tuple k t l its.toArray n dd sl)
          ⟨ho, rfl, ⟨_, ho, rfl⟩, call_meets F.slot_tuple_mul ⟨_, ho, rfl⟩ F.entry_tuple_mul (F.args_tuple_mul_2 _ _) (tuple_mulN l its.toArray n dd sl k t c0 c1 c2) ⟨ho, ?_⟩⟩)
      have e0 : k.toNat = 0 := by omega
      have q := q2 n1 n2
      rw [e0] at q
      exact ⟨.ref s.heap.objs.size, _, I.laid (t' := s.toks) (o := .tup []) (fun b ob q => Heap.get?_push_of_some _ q) (Nat.le_refl _) ⟨Nat.zero_le _, [], .nil, IsTup.new _ _⟩, rfl, q _ (I.hok.fresh (Nat.le_refl _))⟩
    · have e1 : ((its.toArray.size : Nat) : Int) * k ≤ 1000000 := by
        rw [hsz0]
        have e2 : ((xs.length * k.toNat : Nat) : Int) = (xs.length : Int) * k := by rw [Int.natCast_mul, Int.toNat_of_nonneg (by omega)]
        rw [← e2]
        exact Int.ofNat_le.mpr hz
      have flen : (List.replicate k.toNat its).flatten.length ≤ sizeLine := by
        rw [PyProof.Rows.lm_len_rep_flat, hle, sizeLine_eq, Nat.mul_comm]
        omega
      have c2 : (decide (k ≤ 0) || its.toArray.isEmpty) = false := by
        rw [hi, Bool.or_false]
        exact decide_eq_false hk
      have c4 : Builtin.Tuple.tupleTooMany (((its.toArray.size : Nat) : Int) * k) = false := by
        unfold Builtin.Tuple.tupleTooMany
        rw [sizeLine_eq]
        exact decide_eq_false (by omega)
      refine wpAny_binaryOp_repeat_ref (T := "tuple") (U := "int") (by decide) ⟨_, ho, rfl⟩ (fun s' => typeIs_int s' k t) noFill_tuple_mul F.fills_int_mul F.slot_int_rmul repeat_tuple F.slot_int_index.lookup
        (call_meets F.slot_int_rmul (typeIs_int s k t) F.entry_int_rmul (F.args_int_rmul_2 _ _) (int_rmul_tuple k t l its.toArray n dd sl)
          ⟨ho, rfl, ⟨_, ho, rfl⟩, call_meets F.slot_tuple_mul ⟨_, ho, rfl⟩ F.entry_tuple_mul (F.args_tuple_mul_2 _ _) (tuple_mulW l its.toArray n dd sl k t c0 c1 c2 (by omega) c4 (by rw [size_rep, List.size_toArray]; exact flen)) ⟨ho, ?_⟩⟩)
      rw [size_rep]
      refine ⟨.ref s.heap.objs.size, _, I.laid (t' := s.toks) (o := .tup (List.replicate k.toNat xs).flatten) (fun b ob q => Heap.get?_push_of_some _ q) (Nat.le_refl _) ?_, rfl, q2 n1 n2 _ (I.hok.fresh (Nat.le_refl _))⟩
      exact ⟨by rw [PyProof.Rows.lm_len_rep_flat, sizeLine_eq, Nat.mul_comm]; omega, _, r.rep k.toNat, IsTup.new _ _⟩
section
variable {X : Cx} {K : PySem.W.Frag} {Tb : Bs}

/-! ### numbers -/
/-- two whole numbers, under a condition, into something -/
def vI (C : Int → Int → Prop) (f : Int → Int → T) : A2 := fun x y g A => match x, y with
  | .int i, .int j => C i j ∧ A (f i j) g
  | _, _ => False
def vI0 (f : Int → Int → T) : A2 := fun x y g A => match x, y with
  | .int i, .int j => A (f i j) g
  | _, _ => False
def toV : T → V
  | .non => .non
  | .bl b => .bl b
  | .int i => .int i
  | .str x => .str x
  | .ty n => .ty n
  | _ => .non
theorem sim_I {C : Int → Int → Prop} {f : Int → Int → T} {h : Int → Int → V} (hf : ∀ i j H, Rep K H (f i j) (h i j)) : Sim2 K Tb (vI C f) (rI C h) := by
  intro x y v u g H A Q h1 rx ry w k
  cases x <;> cases y <;> first
    | exact (show False from w).elim
    | (rw [Rep.int_iff] at rx ry
       exact ⟨_, _, rx, ry, w.1, k _ _ g H h1 .refl (hf _ _ _) w.2⟩)
theorem sim_I0 {f : Int → Int → T} {h : Int → Int → V} (hf : ∀ i j H, Rep K H (f i j) (h i j)) : Sim2 K Tb (vI0 f) (rI0 h) := by
  intro x y v u g H A Q h1 rx ry w k
  cases x <;> cases y <;> first
    | exact (show False from w).elim
    | (rw [Rep.int_iff] at rx ry
       exact ⟨_, _, rx, ry, k _ _ g H h1 .refl (hf _ _ _) w⟩)
theorem sim_or {f : A2} {r r' : R2} (h : Sim2 K Tb f r) : Sim2 K Tb f (fun x y H Q => r x y H Q ∨ r' x y H Q) := fun x y v u g H A Q h1 rx ry w k => .inl (h x y v u g H A Q h1 rx ry w k)

def vSub : A2 := vI0 fun i j => .int (i - j)
/-- a product; one factor below 2 ^ 64, or both together below a million bits -/
def CMulB (i j : Int) : Prop := CMul i j ∨ CMulW i j
/-- * : numbers, a list or a tuple so many times -/
def vMul : A2 := fun x y g A => match x, y with
  | .int i, .int j => CMulB i j ∧ A (.int (i * j)) g
  | .tup ts, .int k => (-(2 ^ 63) ≤ k ∧ k < 2 ^ 63) ∧ ts.length * k.toNat ≤ 1000000 ∧ A (.tup (List.replicate k.toNat ts).flatten) g
  | _, _ => False
def vDiv : A2 := vI CDivW fun i j => .int (i / j)
def vMod : A2 := vI (fun _ j => 0 < j) fun i j => .int (i % j)
def vAnd : A2 := vI0 fun i j => .int (Builtin.bitAnd i j)
def vShr : A2 := vI (fun _ j => 0 ≤ j) fun i j => .int (i / 2 ^ j.toNat)
def vPow : A2 := vI CPow fun i j => .int (i ^ j.toNat)
theorem ae_sub {a b : Expr} {aa ab : AT} {pos : Pos} (ha : AE X Tb a aa) (hb : AE X Tb b ab) : AE X Tb (.BinOp a .Sub b pos) (aOp vSub aa ab) := ae_op op_sub (sim_I0 fun _ _ _ => Rep.int_iff.mpr rfl) ha hb
theorem ae_div {a b : Expr} {aa ab : AT} {pos : Pos} (ha : AE X Tb a aa) (hb : AE X Tb b ab) : AE X Tb (.BinOp a .FloorDiv b pos) (aOp vDiv aa ab) := ae_op op_fdivW (sim_I fun _ _ _ => Rep.int_iff.mpr rfl) ha hb
theorem ae_mod {a b : Expr} {aa ab : AT} {pos : Pos} (ha : AE X Tb a aa) (hb : AE X Tb b ab) : AE X Tb (.BinOp a .Mod b pos) (aOp vMod aa ab) := ae_op op_mod (sim_I fun _ _ _ => Rep.int_iff.mpr rfl) ha hb
theorem ae_band {a b : Expr} {aa ab : AT} {pos : Pos} (ha : AE X Tb a aa) (hb : AE X Tb b ab) : AE X Tb (.BinOp a .BitAnd b pos) (aOp vAnd aa ab) := ae_op op_and (sim_I0 fun _ _ _ => Rep.int_iff.mpr rfl) ha hb
theorem ae_shr {a b : Expr} {aa ab : AT} {pos : Pos} (ha : AE X Tb a aa) (hb : AE X Tb b ab) : AE X Tb (.BinOp a .RShift b pos) (aOp vShr aa ab) := ae_op op_shr (sim_I fun _ _ _ => Rep.int_iff.mpr rfl) ha hb
theorem ae_pow {a b : Expr} {aa ab : AT} {pos : Pos} (ha : AE X Tb a aa) (hb : AE X Tb b ab) : AE X Tb (.BinOp a .Pow b pos) (aOp vPow aa ab) := ae_op op_pow (sim_I fun _ _ _ => Rep.int_iff.mpr rfl) ha hb
theorem ae_mul {a b : Expr} {aa ab : AT} {pos : Pos} (ha : AE X Tb a aa) (hb : AE X Tb b ab) : AE X Tb (.BinOp a .Mult b pos) (aOp vMul aa ab) := by
  refine ae_op ((op_mul.or op_mulW).or op_repA) ?_ ha hb
  intro x y v u g H A Q h1 rx ry w k
  cases x <;> cases y <;> first
    | exact (show False from w).elim
    | skip
  · rename_i i j
    rw [Rep.int_iff] at rx ry
    obtain ⟨hc, w⟩ := (show CMulB i j ∧ A (.int (i * j)) g from w)
    have q := k _ (.int (i * j)) g H h1 .refl (Rep.int_iff.mpr rfl) w
    rcases hc with hc | hc
    · exact .inl (.inl ⟨i, j, rx, ry, hc, q⟩)
    · exact .inl (.inr ⟨i, j, rx, ry, hc, q⟩)
  · rename_i ts j
    rw [Rep.int_iff] at ry
    obtain ⟨a, vs, rfl, s, r⟩ := Rep.tup_iff.mp rx
    obtain ⟨⟨b1, b2⟩, hz, w⟩ := (show ((-(2 ^ 63) : Int) ≤ j ∧ j < 2 ^ 63) ∧ ts.length * j.toNat ≤ 1000000 ∧ A (.tup (List.replicate j.toNat ts).flatten) g from w)
    have rr : ∀ n : Nat, Reps X.K H (List.replicate n ts).flatten (List.replicate n vs).flatten := fun n => by
      induction n with
      | zero => exact Reps.nil
      | succ n ih => rw [List.replicate_succ, List.replicate_succ, List.flatten_cons, List.flatten_cons]; exact Reps.append r ih
    have hl : ts.length = vs.length := r.length
    refine .inr ⟨a, j, vs, rfl, ry, s, ⟨b1, b2⟩, by rw [← hl]; exact hz, fun hn => ?_, fun n1 n2 p hp => ?_⟩
    · refine k _ _ g H h1 .refl (Rep.tup s ?_) w
      rcases hn with e | e
      · subst e
        have : ts = [] := List.eq_nil_of_length_eq_zero hl
        subst this
        have e0 : ∀ n, (List.replicate n ([] : List T)).flatten = [] := fun n => by induction n with
          | zero => rfl
          | succ n ih => rw [List.replicate_succ, List.flatten_cons, ih]; rfl
        rw [e0]
        exact Reps.nil
      · subst e
        show Reps _ _ (List.replicate 1 ts).flatten _
        simpa using r
    · have m : Mono X.K H (upd H p (.tup (List.replicate j.toNat vs).flatten)) := Mono.new hp
      exact k _ _ g _ (h1.newTup hp) m (Rep.tup (.inl (.inl upd_same)) (Reps.mono m _ (rr _))) w
def vNeg : A1 := fun x g A => match x with
    | .int i => A (.int (-i)) g
    | _ => False
theorem ae_neg {a : Expr} {aa : AT} {pos : Pos} (ha : AE X Tb a aa) : AE X Tb (.UnaryOp .USub a pos) (aUn vNeg aa) := by
  refine ae_un un_neg ?_ ha
  intro x v g H A Q h1 rx w k
  cases x <;> first
    | exact (show False from w).elim
    | (rw [Rep.int_iff] at rx; exact ⟨_, rx, k _ _ g H h1 .refl (Rep.int_iff.mpr rfl) w⟩)
end
end Lz

set_option Elab.async false
set_option linter.all false
set_option maxRecDepth 100000
set_option maxHeartbeats 4000000
/-! More operators over trees, by values. -/
namespace Lz
open PySem PySem.Spec PyProof.Rows L2
section
variable {X : Cx} {K : PySem.W.Frag} {Tb : Bs} {e a b c : Expr} {aa ab ac : AT} {pos : Pos}

/-! ### + -/
def vAdd : A2 := fun x y g A => match x, y with
  | .int i, .int j => A (.int (i + j)) g
  | .int i, .bl k => A (.int (i + b2i k)) g
  | .str i, .str j => i.length + j.length ≤ sizeLine ∧ A (.str (i ++ j)) g
  | .tup ts, .tup us => ts.length + us.length ≤ sizeLine ∧ A (.tup (ts ++ us)) g
  | .ref p, .ref q => match g p, g q with
    | some (.lst ts), some (.lst us) => ts.length + us.length ≤ sizeLine ∧ ∀ r, g r = none → A (.ref r) (set g r (.lst (ts ++ us)))
    | _, _ => False
  | _, _ => False
theorem ae_add (ha : AE X Tb a aa) (hb : AE X Tb b ab) : AE X Tb (.BinOp a .Add b pos) (aOp vAdd aa ab) := by
  refine ae_op ((op_add.or op_add_ib).or (op_add_str.or (op_catA.or op_cat))) ?_ ha hb
  intro x y v u g H A Q h1 rx ry w k
  cases x <;> cases y <;> first
    | exact (show False from w).elim
    | skip
  · rw [Rep.int_iff] at rx; rw [Rep.bl_iff] at ry
    exact .inl (.inr ⟨_, _, rx, ry, k _ _ g H h1 .refl (Rep.int_iff.mpr rfl) w⟩)
  · rw [Rep.int_iff] at rx ry
    exact .inl (.inl ⟨_, _, rx, ry, k _ _ g H h1 .refl (Rep.int_iff.mpr rfl) w⟩)
  · rename_i i j
    rw [Rep.str_iff] at rx ry
    obtain ⟨w1, w2⟩ := (show i.length + j.length ≤ sizeLine ∧ A (.str (i ++ j)) g from w)
    exact .inr (.inl ⟨_, _, rx, ry, w1, k _ _ g H h1 .refl (Rep.str_iff.mpr rfl) w2⟩)
  · rename_i ts us
    obtain ⟨p, xs, rfl, s1, r1⟩ := Rep.tup_iff.mp rx
    obtain ⟨q, ys, rfl, s2, r2⟩ := Rep.tup_iff.mp ry
    obtain ⟨w1, w2⟩ := (show ts.length + us.length ≤ sizeLine ∧ A (.tup (ts ++ us)) g from w)
    refine .inr (.inr (.inl ⟨p, q, xs, ys, rfl, rfl, s1, s2, by rw [← r1.length, ← r2.length]; exact w1, fun e => ?_, fun _ e => ?_, fun _ _ z hz => ?_⟩))
    · subst e
      have : ts = [] := List.eq_nil_of_length_eq_zero (by rw [r1.length]; rfl)
      subst this
      exact k _ _ g H h1 .refl (Rep.tup s2 r2) w2
    · subst e
      have : us = [] := List.eq_nil_of_length_eq_zero (by rw [r2.length]; rfl)
      subst this
      rw [List.append_nil] at w2
      exact k _ _ g H h1 .refl (Rep.tup s1 r1) w2
    · exact k _ _ g _ (h1.newTup hz) (.new hz) (Rep.tup (SqT.of upd_same) (Reps.mono (.new hz) _ (Reps.append r1 r2))) w2
  · rename_i p q
    rw [Rep.ref_iff] at rx ry
    have w' : (match g p, g q with
      | some (.lst ts), some (.lst us) => ts.length + us.length ≤ sizeLine ∧ ∀ r, g r = none → A (.ref r) (set g r (.lst (ts ++ us)))
      | _, _ => False) := w
    split at w'
    · rename_i ts us e1 e2
      obtain ⟨xs, f1, r1⟩ := h1.lst e1
      obtain ⟨ys, f2, r2⟩ := h1.lst e2
      refine .inr (.inr (.inr ⟨p, q, xs, ys, rx, ry, f1, f2, by rw [← r1.length, ← r2.length]; exact w'.1, fun z hz => ?_⟩))
      obtain ⟨h2, m2⟩ := h1.put (.inl hz) (Reps.append r1 r2)
      exact k _ _ _ _ h2 m2 (Rep.ref_iff.mpr rfl) (w'.2 z (h1.free hz))
    · exact w'.elim

/-! ### < <= > >= of whole numbers -/
def vLt : A2 := vI0 fun i j => .bl (decide (i < j))
def vLe : A2 := vI0 fun i j => .bl (decide (i ≤ j))
def vGt : A2 := vI0 fun i j => .bl (decide (j < i))
def vGe : A2 := vI0 fun i j => .bl (decide (j ≤ i))
theorem sLt : Sim2 K Tb vLt (rI0 fun i j => .bl (decide (i < j))) := sim_I0 fun _ _ _ => Rep.bl_iff.mpr rfl
theorem sLe : Sim2 K Tb vLe (rI0 fun i j => .bl (decide (i ≤ j))) := sim_I0 fun _ _ _ => Rep.bl_iff.mpr rfl
theorem sGt : Sim2 K Tb vGt (rI0 fun i j => .bl (decide (j < i))) := sim_I0 fun _ _ _ => Rep.bl_iff.mpr rfl
theorem sGe : Sim2 K Tb vGe (rI0 fun i j => .bl (decide (j ≤ i))) := sim_I0 fun _ _ _ => Rep.bl_iff.mpr rfl
theorem ae_lt (ha : AE X Tb a aa) (hb : AE X Tb b ab) : AE X Tb (.Compare a [.Lt] [b] pos) (aOp vLt aa ab) := ae_cmp op_lt sLt ha hb (nomark _)
theorem ae_le (ha : AE X Tb a aa) (hb : AE X Tb b ab) : AE X Tb (.Compare a [.LtE] [b] pos) (aOp vLe aa ab) := ae_cmp op_le sLe ha hb (nomark _)
theorem ae_gt (ha : AE X Tb a aa) (hb : AE X Tb b ab) : AE X Tb (.Compare a [.Gt] [b] pos) (aOp vGt aa ab) := ae_cmp op_gt sGt ha hb (nomark _)
theorem ae_ge (ha : AE X Tb a aa) (hb : AE X Tb b ab) : AE X Tb (.Compare a [.GtE] [b] pos) (aOp vGe aa ab) := ae_cmp op_ge sGe ha hb (nomark _)
theorem ap_lt (ha : AE X Tb a aa) (hb : AE X Tb b ab) : AP X Tb (.Compare a [.Lt] [b] pos) (aTest (aOp vLt aa ab)) := ap_cmp op_lt sLt ha hb (nomark _)
theorem ap_le (ha : AE X Tb a aa) (hb : AE X Tb b ab) : AP X Tb (.Compare a [.LtE] [b] pos) (aTest (aOp vLe aa ab)) := ap_cmp op_le sLe ha hb (nomark _)
theorem ap_gt (ha : AE X Tb a aa) (hb : AE X Tb b ab) : AP X Tb (.Compare a [.Gt] [b] pos) (aTest (aOp vGt aa ab)) := ap_cmp op_gt sGt ha hb (nomark _)
theorem ap_ge (ha : AE X Tb a aa) (hb : AE X Tb b ab) : AP X Tb (.Compare a [.GtE] [b] pos) (aTest (aOp vGe aa ab)) := ap_cmp op_ge sGe ha hb (nomark _)

/-! ### == and != -/
/-- flat trees of kinds that == tells apart -/
def flatEq : T → T → Option Bool
  | .non, .non => some true
  | .non, .int _ => some false | .int _, .non => some false | .non, .bl _ => some false | .bl _, .non => some false | .non, .str _ => some false | .str _, .non => some false
  | .int i, .int j => some (decide (i = j))
  | .bl i, .bl j => some (decide (i = j))
  | .str i, .str j => some (decide (i = j))
  | .int _, .str _ => some false | .str _, .int _ => some false | .bl _, .str _ => some false | .str _, .bl _ => some false
  | _, _ => none
def vEqF : A2 := fun x y g A => match flatEq x y with
  | some k => A (.bl k) g
  | none => False
def vNeF : A2 := fun x y g A => match flatEq x y with
  | some k => A (.bl (!k)) g
  | none => False
theorem flat_rep {x y : T} {v u : V} {H : Hp} {k : Bool} (h : flatEq x y = some k) (rx : Rep K H x v) (ry : Rep K H y u) : scal v u = true ∧ decide (v = u) = k := by
  cases x <;> cases y <;> first
    | (simp only [Rep] at rx ry
       subst rx ry
       simp only [flatEq, Option.some.injEq] at h
       subst h
       exact ⟨rfl, by simp⟩)
    | (exfalso; simp [flatEq] at h; done)
theorem sEqF : Sim2 K Tb vEqF rEq := fun x y v u g H A Q h1 rx ry w k => by
  unfold vEqF at w
  split at w
  · rename_i b e
    obtain ⟨h2, h3⟩ := flat_rep e rx ry
    exact ⟨h2, by rw [h3]; exact k _ _ g H h1 .refl (Rep.bl_iff.mpr rfl) w⟩
  · exact w.elim
theorem sNeF : Sim2 K Tb vNeF rNe := fun x y v u g H A Q h1 rx ry w k => by
  unfold vNeF at w
  split at w
  · rename_i b e
    obtain ⟨h2, h3⟩ := flat_rep e rx ry
    exact ⟨h2, by rw [h3]; exact k _ _ g H h1 .refl (Rep.bl_iff.mpr rfl) w⟩
  · exact w.elim
theorem ae_eq (ha : AE X Tb a aa) (hb : AE X Tb b ab) : AE X Tb (.Compare a [.Eq] [b] pos) (aOp vEqF aa ab) := ae_cmp op_eq sEqF ha hb (nomark _)
theorem ap_eq (ha : AE X Tb a aa) (hb : AE X Tb b ab) : AP X Tb (.Compare a [.Eq] [b] pos) (aTest (aOp vEqF aa ab)) := ap_cmp op_eq sEqF ha hb (nomark _)
theorem ae_ne (ha : AE X Tb a aa) (hb : AE X Tb b ab) : AE X Tb (.Compare a [.NotEq] [b] pos) (aOp vNeF aa ab) := ae_cmp op_ne sNeF ha hb (nomark _)
theorem ap_ne (ha : AE X Tb a aa) (hb : AE X Tb b ab) : AP X Tb (.Compare a [.NotEq] [b] pos) (aTest (aOp vNeF aa ab)) := ap_cmp op_ne sNeF ha hb (nomark _)
/-! data: tuples of flat things, at any depth -/
mutual
def toD : T → Option PyData
  | .non => some .none
  | .bl b => some (.bool b)
  | .int i => some (.int i)
  | .str x => some (.str x)
  | .tup ts => (toDs ts).map .tuple
  | .frz ts => (toDs ts).map .list
  | _ => none
def toDs : List T → Option (List PyData)
  | [] => some []
  | t :: ts => match toD t, toDs ts with
    | some d, some ds => some (d :: ds)
    | _, _ => none
end
mutual
theorem toD_dp {H : Hp} : ∀ (t : T) {v : V} {d : PyData}, toD t = some d → Rep K H t v → Dp K H v d
  | .non, v, d, h, r => by simp only [toD, Option.some.injEq] at h; simp only [Rep] at r; subst h r; exact .non
  | .bl b, v, d, h, r => by simp only [toD, Option.some.injEq] at h; simp only [Rep] at r; subst h r; exact .bl _
  | .int i, v, d, h, r => by simp only [toD, Option.some.injEq] at h; simp only [Rep] at r; subst h r; exact .int _
  | .str x, v, d, h, r => by simp only [toD, Option.some.injEq] at h; simp only [Rep] at r; subst h r; exact .str _
  | .ref _, v, d, h, r => by simp [toD] at h
  | .ty _, v, d, h, r => by simp [toD] at h
  | .tup ts, v, d, h, r => by
    simp only [toD, Option.map_eq_some_iff] at h
    obtain ⟨ds, e, rfl⟩ := h
    simp only [Rep] at r
    obtain ⟨a, vs, rfl, s, q⟩ := r
    exact .tup s (toDs_dp ts e q)
  | .frz ts, v, d, h, r => by
    simp only [toD, Option.map_eq_some_iff] at h
    obtain ⟨ds, e, rfl⟩ := h
    simp only [Rep] at r
    obtain ⟨a, vs, rfl, s, q⟩ := r
    exact .lst s.l (toDs_dp ts e q)
theorem toDs_dp {H : Hp} : ∀ (ts : List T) {vs : List V} {ds : List PyData}, toDs ts = some ds → Reps K H ts vs → DpAll K H vs ds
  | [], vs, ds, h, r => by simp only [toDs, Option.some.injEq] at h; simp only [Reps] at r; subst h r; exact .nil
  | t :: ts, vs, ds, h, r => by
    simp only [toDs] at h
    simp only [Reps] at r
    obtain ⟨v, w, rfl, q1, q2⟩ := r
    split at h
    · rename_i d es e1 e2
      simp only [Option.some.injEq] at h
      subst h
      exact .cons (toD_dp t e1 q1) (toDs_dp ts e2 q2)
    · cases h
end
def vEqD : A2 := fun x y g A => ∃ d e, toD x = some d ∧ toD y = some e ∧ SeqAt.shaped d = true ∧ SeqAt.shaped e = true ∧ A (.bl (PyData.eqv d e)) g
def vNeD : A2 := fun x y g A => ∃ d e, toD x = some d ∧ toD y = some e ∧ SeqAt.shaped d = true ∧ SeqAt.shaped e = true ∧ A (.bl (!PyData.eqv d e)) g
theorem sEqD : Sim2 K Tb vEqD (rEqD K) := fun x y v u g H A Q h1 rx ry ⟨d, e, e1, e2, s1, s2, w⟩ k => ⟨d, e, toD_dp x e1 rx, toD_dp y e2 ry, s1, s2, k _ _ g H h1 .refl (Rep.bl_iff.mpr rfl) w⟩
theorem sNeD : Sim2 K Tb vNeD (rNeD K) := fun x y v u g H A Q h1 rx ry ⟨d, e, e1, e2, s1, s2, w⟩ k => ⟨d, e, toD_dp x e1 rx, toD_dp y e2 ry, s1, s2, k _ _ g H h1 .refl (Rep.bl_iff.mpr rfl) w⟩
theorem ae_eqD {k : Nat} (hr : Room k X.A) (ha : AE X Tb a aa) (hb : AE X Tb b ab) : AE X Tb (.Compare a [.Eq] [b] pos) (aOp vEqD aa ab) := ae_cmp (op_eqD hr.units) sEqD ha hb (nomark _)
theorem ap_eqD {k : Nat} (hr : Room k X.A) (ha : AE X Tb a aa) (hb : AE X Tb b ab) : AP X Tb (.Compare a [.Eq] [b] pos) (aTest (aOp vEqD aa ab)) := ap_cmp (op_eqD hr.units) sEqD ha hb (nomark _)
theorem ae_neD {k : Nat} (hr : Room k X.A) (ha : AE X Tb a aa) (hb : AE X Tb b ab) : AE X Tb (.Compare a [.NotEq] [b] pos) (aOp vNeD aa ab) := ae_cmp (op_neD hr.units) sNeD ha hb (nomark _)
theorem ap_neD {k : Nat} (hr : Room k X.A) (ha : AE X Tb a aa) (hb : AE X Tb b ab) : AP X Tb (.Compare a [.NotEq] [b] pos) (aTest (aOp vNeD aa ab)) := ap_cmp (op_neD hr.units) sNeD ha hb (nomark _)

/-! ### is None, is True -/
def isNon : T → Bool
  | .non => true
  | _ => false
def vIsN : A2 := fun x y g A => match y with
  | .non => A (.bl (isNon x)) g
  | _ => False
def vNotN : A2 := fun x y g A => match y with
  | .non => A (.bl (!isNon x)) g
  | _ => False
theorem isNon_rep {x : T} {v : V} {H : Hp} (r : Rep K H x v) : decide (v = .non) = isNon x := by
  cases x <;> simp only [Rep] at r <;> first
    | (subst r; rfl)
    | (obtain ⟨a, vs, rfl, _⟩ := r; rfl)
theorem ae_isN (ha : AE X Tb a aa) (hb : AE X Tb b ab) : AE X Tb (.Compare a [.Is] [b] pos) (aOp vIsN aa ab) := ae_cmp op_isN (fun x y v u g H A Q h1 rx ry w k => by
  cases y <;> first
    | exact (show False from w).elim
    | (rw [Rep.non_iff] at ry; exact ⟨ry, by rw [isNon_rep rx]; exact k _ _ g H h1 .refl (Rep.bl_iff.mpr rfl) w⟩)) ha hb (nomark _)
theorem ap_isN (ha : AE X Tb a aa) (hb : AE X Tb b ab) : AP X Tb (.Compare a [.Is] [b] pos) (aTest (aOp vIsN aa ab)) := ap_cmp op_isN (fun x y v u g H A Q h1 rx ry w k => by
  cases y <;> first
    | exact (show False from w).elim
    | (rw [Rep.non_iff] at ry; exact ⟨ry, by rw [isNon_rep rx]; exact k _ _ g H h1 .refl (Rep.bl_iff.mpr rfl) w⟩)) ha hb (nomark _)
theorem ae_notN (ha : AE X Tb a aa) (hb : AE X Tb b ab) : AE X Tb (.Compare a [.IsNot] [b] pos) (aOp vNotN aa ab) := ae_cmp op_notN (fun x y v u g H A Q h1 rx ry w k => by
  cases y <;> first
    | exact (show False from w).elim
    | (rw [Rep.non_iff] at ry; exact ⟨ry, by rw [isNon_rep rx]; exact k _ _ g H h1 .refl (Rep.bl_iff.mpr rfl) w⟩)) ha hb (nomark _)
theorem ap_notN (ha : AE X Tb a aa) (hb : AE X Tb b ab) : AP X Tb (.Compare a [.IsNot] [b] pos) (aTest (aOp vNotN aa ab)) := ap_cmp op_notN (fun x y v u g H A Q h1 rx ry w k => by
  cases y <;> first
    | exact (show False from w).elim
    | (rw [Rep.non_iff] at ry; exact ⟨ry, by rw [isNon_rep rx]; exact k _ _ g H h1 .refl (Rep.bl_iff.mpr rfl) w⟩)) ha hb (nomark _)
def vB2 (f : Bool → Bool → Bool) : A2 := fun x y g A => match x, y with
  | .bl i, .bl j => A (.bl (f i j)) g
  | _, _ => False
theorem sB2 {f : Bool → Bool → Bool} : Sim2 K Tb (vB2 f) (fun x y H Q => ∃ a b, x = .bl a ∧ y = .bl b ∧ Q (.bl (f a b)) H) := fun x y v u g H A Q h1 rx ry w k => by
  cases x <;> cases y <;> first
    | exact (show False from w).elim
    | (rw [Rep.bl_iff] at rx ry; exact ⟨_, _, rx, ry, k _ _ g H h1 .refl (Rep.bl_iff.mpr rfl) w⟩)
theorem ap_isB (ha : AE X Tb a aa) (hb : AE X Tb b ab) : AP X Tb (.Compare a [.Is] [b] pos) (aTest (aOp (vB2 fun i j => decide (i = j)) aa ab)) := ap_cmp op_is_bl sB2 ha hb (nomark _)
theorem ap_notB (ha : AE X Tb a aa) (hb : AE X Tb b ab) : AP X Tb (.Compare a [.IsNot] [b] pos) (aTest (aOp (vB2 fun i j => !decide (i = j)) aa ab)) := ap_cmp op_isnot_bl sB2 ha hb (nomark _)
theorem ae_isB (ha : AE X Tb a aa) (hb : AE X Tb b ab) : AE X Tb (.Compare a [.Is] [b] pos) (aOp (vB2 fun i j => decide (i = j)) aa ab) := ae_cmp op_is_bl sB2 ha hb (nomark _)
theorem ae_notB (ha : AE X Tb a aa) (hb : AE X Tb b ab) : AE X Tb (.Compare a [.IsNot] [b] pos) (aOp (vB2 fun i j => !decide (i = j)) aa ab) := ae_cmp op_isnot_bl sB2 ha hb (nomark _)
end
end Lz

set_option Elab.async false
set_option linter.all false
set_option maxRecDepth 100000
set_option maxHeartbeats 4000000
/-! Subscripts, slices, membership, built-in calls over trees. -/
namespace Lz
open PySem PySem.Spec PyProof.Rows L2
section
variable {X : Cx} {K : PySem.W.Frag} {Tb : Bs} {e a b c : Expr} {es : List Expr} {aa ab ac : AT} {ar : ATA} {pos : Pos} {g : G} {H : Hp}

theorem Reps.atI {ts : List T} {vs : List V} {i : Int} {t : T} (r : Reps K H ts vs) (h : L2.atI ts i = some t) : ∃ v, L2.atI vs i = some v ∧ Rep K H t v := by
  unfold L2.atI at h ⊢
  rw [← r.length]
  cases e : ixN ts.length i with
  | none => rw [e] at h; cases h
  | some j =>
    rw [e] at h
    exact Reps.got r h
/-- x[i] -/
def vIx : A2 := fun x y g A => match x, y with
  | .tup ts, .int i => match L2.atI ts i with
    | some t => A t g
    | none => False
  | .frz ts, .int i => match L2.atI ts i with
    | some t => A t g
    | none => False
  | .ref p, .int i => match g p with
    | some (.lst ts) => match L2.atI ts i with
      | some t => A t g
      | none => False
    | none => False
  | .str z, .int i => z.length ≤ sizeLine ∧ match L2.atI z.cps.toList i with
    | some c => A (.str ⟨#[c]⟩) g
    | none => False
  | _, _ => False
theorem sIx : Sim2 K Tb vIx (rIx K) := fun x y v u g H A Q h1 rx ry w k => by
  cases x <;> cases y <;> first
    | exact (show False from w).elim
    | skip
  · rename_i z i
    rw [Rep.str_iff] at rx; rw [Rep.int_iff] at ry
    obtain ⟨hz, w⟩ := (show z.length ≤ sizeLine ∧ (match L2.atI z.cps.toList i with
      | some c => A (.str ⟨#[c]⟩) g
      | none => False) from w)
    split at w
    · rename_i c e1
      exact .inr (.inr ⟨z, i, c, rx, ry, hz, e1, k _ _ g H h1 .refl (Rep.str_iff.mpr rfl) w⟩)
    · exact w.elim
  · rename_i ts i
    rw [Rep.int_iff] at ry
    obtain ⟨p, vs, rfl, s, r⟩ := Rep.tup_iff.mp rx
    have w : (match L2.atI ts i with
      | some t => A t g
      | none => False) := w
    split at w
    · rename_i t e1
      obtain ⟨v1, e2, q⟩ := r.atI e1
      exact .inr (.inl ⟨p, vs, i, v1, rfl, ry, s, e2, k _ _ g H h1 .refl q w⟩)
    · exact w.elim
  · rename_i ts i
    rw [Rep.int_iff] at ry
    obtain ⟨p, vs, rfl, s, r⟩ := Rep.frz_iff.mp rx
    have w : (match L2.atI ts i with
      | some t => A t g
      | none => False) := w
    split at w
    · rename_i t e1
      obtain ⟨v1, e2, q⟩ := r.atI e1
      exact .inl ⟨p, vs, i, v1, rfl, ry, s.l, e2, k _ _ g H h1 .refl q w⟩
    · exact w.elim
  · rename_i p i
    rw [Rep.ref_iff] at rx; rw [Rep.int_iff] at ry
    have w : (match g p with
      | some (.lst ts) => match L2.atI ts i with
        | some t => A t g
        | none => False
      | none => False) := w
    split at w
    · rename_i ts e0
      obtain ⟨vs, f, r⟩ := h1.lst e0
      split at w
      · rename_i t e1
        obtain ⟨v1, e2, q⟩ := r.atI e1
        exact .inl ⟨p, vs, i, v1, rx, ry, SqL.of f, e2, k _ _ g H h1 .refl q w⟩
      · exact w.elim
    · exact w.elim
theorem ae_ix (ha : AE X Tb a aa) (hb : AE X Tb b ab) (hs : PlainIx b := by exact fun _ _ => rfl) : AE X Tb (.Subscript a b pos) (aOp vIx aa ab) := pimp (pe_ix ix_seq ha hb hs) (sim_op sIx)

/-! ### slices -/
abbrev AO := SS → G → (Option Int → G → Prop) → Prop
def aoNone : AO := fun _ g A => A none g
def aoSome (aa : AT) : AO := fun s g A => aa s g fun x g1 => match x with
  | .int i => A (some i) g1
  | _ => False
def concO (K : PySem.W.Frag) (Tb : Bs) (a : AO) : TO := fun σ H Q => ∃ s g A, Rel K Tb s g σ H ∧ a s g A ∧ ∀ i g' H', HRel K Tb g' H' → Mono K H H' → A i g' → Q i H'
def APart (X : Cx) (Tb : Bs) (e : Option Expr) (a : AO) : Prop := PO X e (concO X.K Tb a)
theorem poimp {e : Option Expr} {t t' : TO} (h : PO X e t) (q : ∀ σ H Q, t' σ H Q → t σ H Q) : PO X e t' := ⟨fun pins s σ H Q I w => h.run pins s σ H Q I (q σ H Q w)⟩
theorem ao_none : APart X Tb none aoNone := poimp po_none fun σ H Q ⟨s, g, A, R, w, k⟩ => k none g H R.hp .refl w
theorem ao_some (h : AE X Tb e aa) : APart X Tb (some e) (aoSome aa) := poimp (po_some h) fun σ H Q ⟨s, g, A, R, w, k⟩ => ⟨s, g, _, R, w, fun τ v g' H' h m r z => by
  cases τ with
  | int i => rw [Rep.int_iff] at r; exact ⟨i, r, k (some i) g' H' h m z⟩
  | _ => exact z.elim⟩
def cutT (xs : List T) (lo hi : Option Int) : List T := (xs.drop (HT.sIx xs.length 0 lo)).take (HT.sIx xs.length xs.length hi - HT.sIx xs.length 0 lo)
theorem Reps.cut {ts : List T} {vs : List V} {lo hi : Option Int} (r : Reps K H ts vs) : Reps K H (cutT ts lo hi) (cutV vs lo hi) := by
  unfold cutT cutV
  rw [← r.length]
  exact Reps.take _ (Reps.drop _ r)
def vSl (x : T) (lo hi : Option Int) (g : G) (A : T → G → Prop) : Prop := match x with
  | .tup ts => A (.tup (cutT ts lo hi)) g
  | .frz ts => ∀ p, g p = none → A (.ref p) (set g p (.lst (cutT ts lo hi)))
  | .ref p => match g p with
    | some (.lst ts) => ∀ p, g p = none → A (.ref p) (set g p (.lst (cutT ts lo hi)))
    | none => False
  | .str z => z.length ≤ sizeLine ∧ A (.str (cutS z lo hi)) g
  | _ => False
def aSl (aa : AT) (lo hi : AO) : AT := fun s g A => aa s g fun x g1 => lo s g1 fun l g2 => hi s g2 fun u g3 => vSl x l u g3 A
theorem ae_sl {lo hi : Option Expr} {al ah : AO} {p2 : Pos} (h : AE X Tb e aa) (hl : APart X Tb lo al) (hh : APart X Tb hi ah) : AE X Tb (.Subscript e (.Slice lo hi none p2) pos) (aSl aa al ah) := ae_of (pe_slice (sl_list.or (sl_tupA.or sl_str)) h hl hh) fun s g A σ H Q R w k => by
  refine ⟨s, g, _, R, w, fun x v g1 H1 h1 m1 rx z => ⟨s, g1, _, R.mono h1 m1, z, fun l g2 H2 h2 m2 z2 => ⟨s, g2, _, (R.mono h1 m1).mono h2 m2, z2, fun u g3 H3 h3 m3 z3 => ?_⟩⟩⟩
  have rx3 := (rx.mono m2 _).mono m3 _
  have mm := m1.trans (m2.trans m3)
  cases x with
  | tup ts =>
    obtain ⟨p, vs, rfl, sq, r⟩ := Rep.tup_iff.mp rx3
    refine .inr (.inl ⟨p, vs, rfl, sq, fun hw => ?_, fun _ q hq => ?_⟩)
    · have e1 : cutT ts l u = ts := by
        unfold cutT
        rw [r.length, hw.1, hw.2, List.drop_zero, Nat.sub_zero, ← r.length, List.take_length]
      have z3' : A (.tup (cutT ts l u)) g3 := z3
      rw [e1] at z3'
      exact k _ _ g3 H3 h3 mm (Rep.tup sq r) z3'
    · exact k _ _ g3 _ (h3.newTup hq) (mm.trans (.new hq)) (Rep.tup (SqT.of upd_same) (Reps.mono (.new hq) _ r.cut)) z3
  | frz ts =>
    obtain ⟨p, vs, rfl, sq, r⟩ := Rep.frz_iff.mp rx3
    refine .inl ⟨p, vs, rfl, sq.l, fun q hq => ?_⟩
    obtain ⟨h4, m4⟩ := h3.put (.inl hq) (r.cut (lo := l) (hi := u))
    exact k _ _ _ _ h4 (mm.trans m4) (Rep.ref_iff.mpr rfl) ((show ∀ p, g3 p = none → A (.ref p) (set g3 p (.lst (cutT ts l u))) from z3) q (h3.free hq))
  | ref p =>
    rw [Rep.ref_iff] at rx3
    have z3' : (match g3 p with
      | some (.lst ts) => ∀ p, g3 p = none → A (.ref p) (set g3 p (.lst (cutT ts l u)))
      | none => False) := z3
    split at z3'
    · rename_i ts e0
      obtain ⟨vs, f, r⟩ := h3.lst e0
      refine .inl ⟨p, vs, rx3, SqL.of f, fun q hq => ?_⟩
      obtain ⟨h4, m4⟩ := h3.put (.inl hq) (r.cut (lo := l) (hi := u))
      exact k _ _ _ _ h4 (mm.trans m4) (Rep.ref_iff.mpr rfl) (z3' q (h3.free hq))
    · exact z3'.elim
  | str zz =>
    rw [Rep.str_iff] at rx3
    obtain ⟨a1, a2⟩ := (show zz.length ≤ sizeLine ∧ A (.str (cutS zz l u)) g3 from z3)
    exact .inr (.inr ⟨zz, rx3, a1, k _ _ g3 H3 h3 mm (Rep.str_iff.mpr rfl) a2⟩)
  | _ => exact (show False from z3).elim

/-! ### in a tuple or a list of flat things -/
def flatT : T → Bool
  | .non => true
  | .bl _ => true
  | .int _ => true
  | .str _ => true
  | _ => false
def eqT : T → T → Bool
  | .non, .non => true
  | .bl a, .bl b => a == b
  | .bl a, .int b => (if a then 1 else 0) == b
  | .int a, .bl b => a == (if b then 1 else 0)
  | .int a, .int b => a == b
  | .str a, .str b => a == b
  | _, _ => false
theorem flatT_rep {t : T} {v : V} (h : flatT t = true) (r : Rep K H t v) : v = toV t ∧ flatV v = true := by
  cases t <;> first
    | (simp only [Rep] at r; subst r; exact ⟨rfl, rfl⟩)
    | (exfalso; simp [flatT] at h; done)
theorem eqT_V (x y : T) (hx : flatT x = true) (hy : flatT y = true) : eqV (toV x) (toV y) = eqT x y := by
  cases x <;> cases y <;> first
    | rfl
    | (exfalso; simp [flatT] at hx hy; done)
theorem flats : ∀ {ts : List T} {vs : List V}, ts.all flatT = true → Reps K H ts vs → vs = ts.map toV ∧ vs.all flatV = true
  | [], vs, _, r => by rw [Reps.nil_iff] at r; subst r; exact ⟨rfl, rfl⟩
  | t :: ts, vs, h, r => by
    obtain ⟨v, w, rfl, r1, r2⟩ := Reps.cons_iff.mp r
    rw [List.all_cons, Bool.and_eq_true] at h
    obtain ⟨e1, e2⟩ := flatT_rep h.1 r1
    obtain ⟨e3, e4⟩ := flats h.2 r2
    exact ⟨by rw [e1, e3]; rfl, by rw [List.all_cons, e2, e4]; rfl⟩
theorem inV_T {x : T} {ts : List T} (hx : flatT x = true) (h : ts.all flatT = true) : inV (toV x) (ts.map toV) = ts.any fun y => eqT y x := by
  unfold inV
  induction ts with
  | nil => rfl
  | cons t ts ih =>
    rw [List.all_cons, Bool.and_eq_true] at h
    rw [List.map_cons, List.any_cons, List.any_cons, ih h.2, eqT_V t x h.1 hx]
def vIn (n : Bool) : A2 := fun x y g A => match y with
  | .tup ts => flatT x = true ∧ ts.all flatT = true ∧ A (.bl (n ^^ (ts.any fun y => eqT y x))) g
  | .frz ts => flatT x = true ∧ ts.all flatT = true ∧ A (.bl (n ^^ (ts.any fun y => eqT y x))) g
  | .ref p => match g p with
    | some (.lst ts) => flatT x = true ∧ ts.all flatT = true ∧ A (.bl (n ^^ (ts.any fun y => eqT y x))) g
    | none => False
  | _ => False
theorem sIn {n : Bool} : Sim2 K Tb (vIn n) (rIn K n) := fun x y v u g H A Q h1 rx ry w k => by
  have fin : ∀ (ts : List T) (p : Addr) (vs : List V), (SqL K H p vs ∨ SqT K H p vs) → Reps K H ts vs → u = .ref p → (flatT x = true ∧ ts.all flatT = true ∧ A (.bl (n ^^ (ts.any fun y => eqT y x))) g) → rIn K n v u H Q := fun ts p vs sq r eu ⟨w1, w2, w3⟩ => by
    obtain ⟨e1, e2⟩ := flatT_rep w1 rx
    obtain ⟨e3, e4⟩ := flats w2 r
    refine ⟨p, vs, eu, sq, e2, e4, ?_⟩
    rw [e1, e3, inV_T w1 w2]
    have q := k _ _ g H h1 .refl (Rep.bl_iff.mpr rfl) w3
    cases n <;> simpa using q
  cases y with
  | tup ts => obtain ⟨p, vs, rfl, sq, r⟩ := Rep.tup_iff.mp ry; exact fin ts p vs (.inr sq) r rfl w
  | frz ts => obtain ⟨p, vs, rfl, sq, r⟩ := Rep.frz_iff.mp ry; exact fin ts p vs (.inl sq.l) r rfl w
  | ref p =>
    rw [Rep.ref_iff] at ry
    have w : (match g p with
      | some (.lst ts) => flatT x = true ∧ ts.all flatT = true ∧ A (.bl (n ^^ (ts.any fun y => eqT y x))) g
      | none => False) := w
    split at w
    · rename_i ts e0
      obtain ⟨vs, f, r⟩ := h1.lst e0
      exact fin ts p vs (.inl (SqL.of f)) r ry w
    · exact w.elim
  | _ => exact (show False from w).elim
theorem ae_in (ha : AE X Tb a aa) (hb : AE X Tb b ab) (hm : behindInMarks .In b = false := by rfl) : AE X Tb (.Compare a [.In] [b] pos) (aOp (vIn false) aa ab) := ae_cmp op_in_seq sIn ha hb hm
theorem ap_in (ha : AE X Tb a aa) (hb : AE X Tb b ab) (hm : behindInMarks .In b = false := by rfl) : AP X Tb (.Compare a [.In] [b] pos) (aTest (aOp (vIn false) aa ab)) := ap_cmp op_in_seq sIn ha hb hm
theorem ae_notin (ha : AE X Tb a aa) (hb : AE X Tb b ab) (hm : behindInMarks .NotIn b = false := by rfl) : AE X Tb (.Compare a [.NotIn] [b] pos) (aOp (vIn true) aa ab) := ae_cmp op_notIn_seq sIn ha hb hm
theorem ap_notin (ha : AE X Tb a aa) (hb : AE X Tb b ab) (hm : behindInMarks .NotIn b = false := by rfl) : AP X Tb (.Compare a [.NotIn] [b] pos) (aTest (aOp (vIn true) aa ab)) := ap_cmp op_notIn_seq sIn ha hb hm

/-! ### built-in calls -/
/-- the items of a tuple or a list -/
def items (g : G) : T → Option (List T)
  | .tup ts => some ts
  | .frz ts => some ts
  | .ref p => match g p with
    | some (.lst ts) => some ts
    | none => none
  | _ => none
theorem items_rep {x : T} {v : V} {ts : List T} (h : items g x = some ts) (h1 : HRel K Tb g H) (rx : Rep K H x v) : ∃ p vs, v = .ref p ∧ (SqL K H p vs ∨ SqT K H p vs) ∧ Reps K H ts vs := by
  cases x with
  | tup us => simp only [items, Option.some.injEq] at h; subst h; obtain ⟨p, vs, rfl, sq, r⟩ := Rep.tup_iff.mp rx; exact ⟨p, vs, rfl, .inr sq, r⟩
  | frz us => simp only [items, Option.some.injEq] at h; subst h; obtain ⟨p, vs, rfl, sq, r⟩ := Rep.frz_iff.mp rx; exact ⟨p, vs, rfl, .inl sq.l, r⟩
  | ref p =>
    rw [Rep.ref_iff] at rx
    simp only [items] at h
    split at h
    · rename_i us e0
      simp only [Option.some.injEq] at h
      subst h
      obtain ⟨vs, f, r⟩ := h1.lst e0
      exact ⟨p, vs, rx, .inl (SqL.of f), r⟩
    · cases h
  | _ => simp [items] at h
def nLen : AN := fun xs g A => match xs with
  | [.str z] => z.length ≤ sizeLine ∧ A (.int z.length) g
  | [x] => match items g x with
    | some ts => A (.int ts.length) g
    | none => False
  | _ => False
theorem Reps.one {x : T} {vs : List V} (r : Reps K H [x] vs) : ∃ v, vs = [v] ∧ Rep K H x v := by
  obtain ⟨v, w, rfl, r1, r2⟩ := Reps.cons_iff.mp r
  rw [Reps.nil_iff] at r2
  subst r2
  exact ⟨v, rfl, r1⟩
theorem Reps.two {x y : T} {vs : List V} (r : Reps K H [x, y] vs) : ∃ v u, vs = [v, u] ∧ Rep K H x v ∧ Rep K H y u := by
  obtain ⟨v, w, rfl, r1, r2⟩ := Reps.cons_iff.mp r
  obtain ⟨u, rfl, r3⟩ := r2.one
  exact ⟨v, u, rfl, r1, r3⟩
theorem ae_len {p : Pos} (hg : Gl X "len" := by rfl) (hm : X.mg "len" = none) (ha : AA X Tb (e :: es) ar) (he : starEach (e :: es) X.env = (false, eval e X.env) :: starEach es X.env := by rfl) (hpl : (backTo pos (starEach es X.env)).any (·.1) = false := by rfl) :
    AE X Tb (.Call (.Name "len" p) (e :: es) [] pos) (aN nLen ar) := ae_b (fun xs vs g H A Q h1 rs w k => by
  unfold nLen at w
  split at w
  · rename_i z
    obtain ⟨v, rfl, rv⟩ := rs.one
    rw [Rep.str_iff] at rv
    exact ⟨_, z.length, rfl, by rw [rv]; exact ⟨w.1, rfl⟩, k _ _ g H h1 .refl (Rep.int_iff.mpr rfl) w.2⟩
  · rename_i x hx
    obtain ⟨v, rfl, rv⟩ := rs.one
    split at w
    · rename_i ts e0
      obtain ⟨q, ws, rfl, sq, r⟩ := items_rep e0 h1 rv
      refine ⟨_, ts.length, rfl, ?_, k _ _ g H h1 .refl (Rep.int_iff.mpr rfl) w⟩
      rcases sq with sq | sq
      · exact .inl ⟨ws, sq, r.length⟩
      · exact .inr ⟨ws, sq, r.length⟩
    · exact w.elim
  · exact w.elim) call_len hg hm PySem.boot_len ha (by decide) (by decide) he hpl
end
end Lz

set_option Elab.async false
set_option linter.all false
set_option maxRecDepth 100000
set_option maxHeartbeats 4000000
/-! More built-in calls over trees. -/
namespace Lz
open PySem PySem.Spec PyProof.Rows L2
section
variable {X : Cx} {K : PySem.W.Frag} {Tb : Bs} {e a b c : Expr} {es : List Expr} {aa ab ac : AT} {ar : ATA} {pos p : Pos} {g : G} {H : Hp}

/-! ### abs, max, min, int -/
def nAbs : AN := fun xs g A => match xs with
  | [.int i] => A (.int (if i < 0 then -i else i)) g
  | _ => False
def nMax2 : AN := fun xs g A => match xs with
  | [.int i, .int j] => A (.int (if j > i then j else i)) g
  | _ => False
def nMin2 : AN := fun xs g A => match xs with
  | [.int i, .int j] => A (.int (if j < i then j else i)) g
  | _ => False
def nInt : AN := fun xs g A => match xs with
  | [.int i] => A (.int i) g
  | [.bl k] => A (.int (if k then 1 else 0)) g
  | _ => False
theorem ae_abs (hg : Gl X "abs" := by rfl) (hm : X.mg "abs" = none) (ha : AA X Tb (e :: es) ar) (he : starEach (e :: es) X.env = (false, eval e X.env) :: starEach es X.env := by rfl) (hpl : (backTo pos (starEach es X.env)).any (·.1) = false := by rfl) :
    AE X Tb (.Call (.Name "abs" p) (e :: es) [] pos) (aN nAbs ar) := ae_b (fun xs vs g H A Q h1 rs w k => by
  unfold nAbs at w
  split at w
  · obtain ⟨v, rfl, rv⟩ := rs.one
    rw [Rep.int_iff] at rv
    exact ⟨_, by rw [rv], k _ _ g H h1 .refl (Rep.int_iff.mpr rfl) w⟩
  · exact w.elim) call_abs hg hm boot_abs ha (by decide) (by decide) he hpl
theorem ae_max2 (hg : Gl X "max" := by rfl) (hm : X.mg "max" = none) (ha : AA X Tb (e :: es) ar) (hc : X.calm = true := by rfl) (he : starEach (e :: es) X.env = (false, eval e X.env) :: starEach es X.env := by rfl) (hpl : (backTo pos (starEach es X.env)).any (·.1) = false := by rfl) :
    AE X Tb (.Call (.Name "max" p) (e :: es) [] pos) (aN nMax2 ar) := ae_b (fun xs vs g H A Q h1 rs w k => by
  unfold nMax2 at w
  split at w
  · obtain ⟨v, u, rfl, rv, ru⟩ := rs.two
    rw [Rep.int_iff] at rv ru
    exact ⟨_, _, by rw [rv, ru], k _ _ g H h1 .refl (Rep.int_iff.mpr rfl) w⟩
  · exact w.elim) (call_max2 hc) hg hm boot_max ha (by decide) (by decide) he hpl
theorem ae_min2 (hg : Gl X "min" := by rfl) (hm : X.mg "min" = none) (ha : AA X Tb (e :: es) ar) (hc : X.calm = true := by rfl) (he : starEach (e :: es) X.env = (false, eval e X.env) :: starEach es X.env := by rfl) (hpl : (backTo pos (starEach es X.env)).any (·.1) = false := by rfl) :
    AE X Tb (.Call (.Name "min" p) (e :: es) [] pos) (aN nMin2 ar) := ae_b (fun xs vs g H A Q h1 rs w k => by
  unfold nMin2 at w
  split at w
  · obtain ⟨v, u, rfl, rv, ru⟩ := rs.two
    rw [Rep.int_iff] at rv ru
    exact ⟨_, _, by rw [rv, ru], k _ _ g H h1 .refl (Rep.int_iff.mpr rfl) w⟩
  · exact w.elim) (call_min2 hc) hg hm boot_min ha (by decide) (by decide) he hpl
theorem ae_int1 (hg : Gl X "int" := by rfl) (hm : X.mg "int" = none) (ha : AA X Tb (e :: es) ar) (he : starEach (e :: es) X.env = (false, eval e X.env) :: starEach es X.env := by rfl) (hpl : (backTo pos (starEach es X.env)).any (·.1) = false := by rfl) :
    AE X Tb (.Call (.Name "int" p) (e :: es) [] pos) (aN nInt ar) := ae_ty (fun xs vs g H A Q h1 rs w k => by
  unfold nInt at w
  split at w
  · obtain ⟨v, rfl, rv⟩ := rs.one
    rw [Rep.int_iff] at rv
    exact .inl ⟨_, by rw [rv], k _ _ g H h1 .refl (Rep.int_iff.mpr rfl) w⟩
  · obtain ⟨v, rfl, rv⟩ := rs.one
    rw [Rep.bl_iff] at rv
    exact .inr ⟨_, by rw [rv], k _ _ g H h1 .refl (Rep.int_iff.mpr rfl) w⟩
  · exact w.elim) call_int1 hg hm boot_int ha (by decide) (by decide) he hpl

/-! ### tuple(..), list(..) -/
def nTup : AN := fun xs g A => match xs with
  | [x] => match items g x with
    | some ts => A (.tup ts) g
    | none => False
  | _ => False
def nLst : AN := fun xs g A => match xs with
  | [x] => match items g x with
    | some ts => ∀ p, g p = none → A (.ref p) (set g p (.lst ts))
    | none => False
  | _ => False
theorem ae_tuple (hg : Gl X "tuple" := by rfl) (hm : X.mg "tuple" = none) (ha : AA X Tb (e :: es) ar) (he : starEach (e :: es) X.env = (false, eval e X.env) :: starEach es X.env := by rfl) (hpl : (backTo pos (starEach es X.env)).any (·.1) = false := by rfl) :
    AE X Tb (.Call (.Name "tuple" p) (e :: es) [] pos) (aN nTup ar) := ae_ty (fun xs vs g H A Q h1 rs w k => by
  unfold nTup at w
  split at w
  · obtain ⟨v, rfl, rv⟩ := rs.one
    split at w
    · rename_i ts e0
      obtain ⟨q, ws, rfl, sq, r⟩ := items_rep e0 h1 rv
      refine ⟨q, ws, rfl, ?_⟩
      rcases sq with sq | sq
      · exact .inl ⟨sq, fun z hz => k _ _ g _ (h1.newTup hz) (.new hz) (Rep.tup (SqT.of upd_same) (Reps.mono (.new hz) _ r)) w⟩
      · exact .inr ⟨sq, k _ _ g H h1 .refl (Rep.tup sq r) w⟩
    · exact w.elim
  · exact w.elim) call_tuple_of hg hm boot_tuple ha (by decide) (by decide) he hpl
theorem ae_list (hg : Gl X "list" := by rfl) (hm : X.mg "list" = none) (ha : AA X Tb (e :: es) ar) (he : starEach (e :: es) X.env = (false, eval e X.env) :: starEach es X.env := by rfl) (hpl : (backTo pos (starEach es X.env)).any (·.1) = false := by rfl) :
    AE X Tb (.Call (.Name "list" p) (e :: es) [] pos) (aN nLst ar) := ae_ty (fun xs vs g H A Q h1 rs w k => by
  unfold nLst at w
  split at w
  · obtain ⟨v, rfl, rv⟩ := rs.one
    split at w
    · rename_i ts e0
      obtain ⟨q, ws, rfl, sq, r⟩ := items_rep e0 h1 rv
      refine ⟨q, ws, rfl, sq, fun z hz => ?_⟩
      obtain ⟨h2, m2⟩ := h1.put (.inl hz) r
      exact k _ _ _ _ h2 m2 (Rep.ref_iff.mpr rfl) (w z (h1.free hz))
    · exact w.elim
  · exact w.elim) call_list_of hg hm boot_list ha (by decide) (by decide) he hpl
/-- tuple(reversed(xs)), xs a list -/
def aTupRev (aa : AT) : AT := fun s g A => aa s g fun x g1 => match x with
  | .ref p => match g1 p with
    | some (.lst ts) => A (.tup ts.reverse) g1
    | none => False
  | .frz ts => A (.tup ts.reverse) g1
  | _ => False
theorem ae_tupRev {p2 pos2 : Pos} (hc : X.calm = true := by rfl) (hg : Gl X "tuple" := by rfl) (hm : X.mg "tuple" = none) (hg2 : Gl X "reversed" := by rfl) (hm2 : X.mg "reversed" = none) (ha : AE X Tb e aa)
    (hs : starEach [e] X.env = (false, eval e X.env) :: starEach [] X.env := by rfl)
    (hs2 : starEach [.Call (.Name "reversed" p2) [e] [] pos2] X.env = (false, eval (.Call (.Name "reversed" p2) [e] [] pos2) X.env) :: starEach [] X.env := by rfl) :
    AE X Tb (.Call (.Name "tuple" p) [.Call (.Name "reversed" p2) [e] [] pos2] [] pos) (aTupRev aa) := ae_of (RT.pe_tupRev hc hg hm hg2 hm2 ha hs hs2) fun s g A σ H Q R w k =>
  ⟨s, g, _, R, w, fun x v g1 H1 h1 m1 rx z => by
    have fin : ∀ (q : Addr) (ts : List T) (vs : List V), v = .ref q → SqL X.K H1 q vs → Reps X.K H1 ts vs → A (.tup ts.reverse) g1 → ∃ a xs, v = V.ref a ∧ SqL X.K H1 a xs ∧ ∀ q, H1 q = none → Q (.ref q) (upd H1 q (.tup xs.reverse)) := fun q ts vs ev sq r z =>
      ⟨q, vs, ev, sq, fun y hy => k _ _ g1 _ (h1.newTup hy) (m1.trans (.new hy)) (Rep.tup (SqT.of upd_same) (Reps.mono (.new hy) _ r.reverse)) z⟩
    cases x with
    | frz ts => obtain ⟨q, vs, ev, sq, r⟩ := Rep.frz_iff.mp rx; exact fin q ts vs ev sq.l r z
    | ref q =>
      rw [Rep.ref_iff] at rx
      have z : (match g1 q with
        | some (.lst ts) => A (.tup ts.reverse) g1
        | none => False) := z
      split at z
      · rename_i ts e0
        obtain ⟨vs, f, r⟩ := h1.lst e0
        exact fin q ts vs rx (SqL.of f) r z
      · exact z.elim
    | _ => exact (show False from z).elim⟩

/-! ### sum, max, min of whole numbers -/
def intsOf : List T → Option (List Int)
  | [] => some []
  | .int i :: ts => (intsOf ts).map (i :: ·)
  | _ => none
theorem intsOf_eq : ∀ {ts : List T} {ns : List Int}, intsOf ts = some ns → ts = ns.map T.int
  | [], ns, h => by simp only [intsOf, Option.some.injEq] at h; subst h; rfl
  | t :: ts, ns, h => by
    cases t with
    | int i =>
      simp only [intsOf, Option.map_eq_some_iff] at h
      obtain ⟨ms, e, rfl⟩ := h
      rw [List.map_cons, ← intsOf_eq e]
    | _ => simp [intsOf] at h
theorem intsOf_map (ns : List Int) : intsOf (ns.map T.int) = some ns := by
  induction ns with
  | nil => rfl
  | cons n ns ih => rw [List.map_cons, intsOf, ih]; rfl
theorem sum_tupR {its : List Value} {ns : List Int} {t : Addr} {prog : Program} {w : World} {A : Around} {E : Value → Shared → Prop} {s : Shared} {Q : Value → Shared → Prop} (hh : A.handled = none) (ht : s.heap.IsTuple t its.toArray) (hi : IntsAre its ns)
    (h : ∀ h' tk t', (∀ b o, s.heap.get? b = some o → h'.get? b = some o) → Q (.int ns.sum t') { s with heap := h', toks := tk }) : wpAny (model prog w) A (call (.builtin "sum") [.ref t]) Q E s := by
  obtain ⟨xs, e⟩ := hi.allInts.items
  have hn : numsOf (intItems xs).toList = ns := by rw [← e]; exact hi.numsOf
  rw [nums_intItems] at hn
  rw [e] at ht
  refine PySem.W.ktm_sumG hh ht fun h' tk t' hk => ?_
  have := h h' tk t' hk
  rw [preSum_eq, List.take_of_length_le (by simp), hn]
  exact this
theorem cr_sumA (hc : X.calm = true) : CallR X (.builtin "sum") (fun vs H Q => ∃ (a : Addr) (ns : List Int), vs = [V.ref a] ∧ (SqL X.K H a (ns.map V.int) ∨ SqT X.K H a (ns.map V.int)) ∧ Q (.int ns.sum) H) := by
  intro pins s σ H vs us Q I r h
  obtain ⟨a, ns, rfl, hs, q⟩ := h
  rw [Vals.ref1 r]
  rcases hs with hs | hs
  · obtain ⟨its, rv, hl, _⟩ := I.list hs
    exact sum_raw (I.ok.hd hc) hl.isList rv.ints fun h' tk t' hk => ⟨.int _, H, I.kept hk, ⟨_, rfl⟩, q⟩
  · obtain ⟨its, rv, hl, _⟩ := I.tuple hs
    exact sum_tupR (I.ok.hd hc) hl rv.ints fun h' tk t' hk => ⟨.int _, H, I.kept hk, ⟨_, rfl⟩, q⟩
def nSum : AN := fun xs g A => match xs with
  | [x] => match items g x with
    | some ts => match intsOf ts with
      | some ns => A (.int ns.sum) g
      | none => False
    | none => False
  | _ => False
theorem ae_sum (hc : X.calm = true := by rfl) (hg : Gl X "sum" := by rfl) (hm : X.mg "sum" = none) (ha : AA X Tb (e :: es) ar) (he : starEach (e :: es) X.env = (false, eval e X.env) :: starEach es X.env := by rfl) (hpl : (backTo pos (starEach es X.env)).any (·.1) = false := by rfl) :
    AE X Tb (.Call (.Name "sum" p) (e :: es) [] pos) (aN nSum ar) := ae_b (fun xs vs g H A Q h1 rs w k => by
  unfold nSum at w
  split at w
  · obtain ⟨v, rfl, rv⟩ := rs.one
    split at w
    · rename_i ts e0
      split at w
      · rename_i ns e1
        obtain ⟨q, ws, rfl, sq, r⟩ := items_rep e0 h1 rv
        rw [intsOf_eq e1] at r
        rw [r.ints] at sq
        exact ⟨q, ns, rfl, sq, k _ _ g H h1 .refl (Rep.int_iff.mpr rfl) w⟩
      · exact w.elim
    · exact w.elim
  · exact w.elim) (cr_sumA hc) hg hm boot_sum ha (by decide) (by decide) he hpl

theorem tup_max {it : Bool} {its : List Value} {ns : List Int} {t : Addr} {prog : Program} {w : World} {A : Around} {E : Value → Shared → Prop} {s : Shared} {Q : Value → Shared → Prop} (hh : A.handled = none) (ht : s.heap.IsTuple t its.toArray) (hi : IntsAre its ns) (hne : 0 < ns.length)
    (h : ∀ h' tk M t', (∀ b o, s.heap.get? b = some o → h'.get? b = some o) → M ∈ ns → (∀ a, a ∈ ns → if it then a ≤ M else M ≤ a) → Q (.int M t') { s with heap := h', toks := tk }) : wpAny (model prog w) A (call (.builtin (if it then "max" else "min")) [.ref t]) Q E s := by
  obtain ⟨xs, e⟩ := hi.allInts.items
  have hn : numsOf (intItems xs).toList = ns := by rw [← e]; exact hi.numsOf
  rw [nums_intItems] at hn
  subst hn
  rw [e] at ht
  have hsz : 0 < xs.size := by simpa using hne
  obtain ⟨o, ho, hc, n, hd⟩ := id ht
  have hne2 : t ≠ s.heap.objs.size := Nat.ne_of_lt (Heap.lt_size ho)
  have W := Walks.tuple (prog := prog) (w := w) (A := A.in1) hh s.heap.objs.size t hne2 (intItems xs)
  have st : (s.heap.push { cls := .type "tuple_iterator", data := .fields #[.ref t, rawInt 0] }).IsTupleIter s.heap.objs.size t 0 := ⟨_, Heap.get?_push_size _ rfl, rfl, rfl⟩
  have hk0 : ∀ b o, s.heap.get? b = some o → (s.heap.push { cls := .type "tuple_iterator", data := .fields #[.ref t, rawInt 0] }).get? b = some o := fun b o e => Heap.get?_push_of_some _ e
  have hfp : ∀ b ∈ [s.heap.objs.size, t], b < (s.heap.push { cls := .type "tuple_iterator", data := .fields #[.ref t, rawInt 0] }).objs.size := fun b hb => by
    rcases List.mem_cons.mp hb with rfl | hb
    · exact Heap.lt_size (Heap.get?_push_size _ rfl)
    · obtain rfl := List.mem_singleton.mp hb
      exact Heap.lt_size (hk0 _ _ ho)
  have old : ∀ h' : Heap, (∀ b o, b ∉ [s.heap.objs.size] → (s.heap.push { cls := .type "tuple_iterator", data := .fields #[.ref t, rawInt 0] }).get? b = some o → h'.get? b = some o) → ∀ b o, s.heap.get? b = some o → h'.get? b = some o := fun h' hk b o e =>
    hk b o (fun hb => absurd (Heap.lt_size e) ((List.mem_singleton.mp hb) ▸ Nat.lt_irrefl _)) (hk0 b o e)
  cases it with
  | true =>
    refine call_max_walk (wpAny_pyIter_tuple ht ?_)
    refine ⟨_, _, _, _, _, _, _, rfl, W, ⟨st, ht.at fun o e => hk0 _ o e⟩, hfp, by simpa [intItems] using hsz, CmpOf.ints_gt (numAt xs) (fun _ _ => intItems_at), fun v h' tk hv hk => ?_⟩
    obtain ⟨t', rfl⟩ := intItems_at hv
    rw [show (intItems xs).size = xs.size from by simp [intItems]]
    obtain ⟨h1, h2⟩ := argBest_gt (numAt xs) (xs.size - 1)
    refine h h' tk _ t' (old h' hk) ?_ fun a ha => ?_
    · rw [numAt_eq]; exact PySem.getD_mem (by rw [List.length_map, Array.length_toList]; omega)
    · obtain ⟨j, hj, rfl⟩ := mem_getD ha
      rw [List.length_map, Array.length_toList] at hj
      rw [← numAt_eq]
      exact h2 j (by omega)
  | false =>
    refine call_min_walk (wpAny_pyIter_tuple ht ?_)
    refine ⟨_, _, _, _, _, _, _, rfl, W, ⟨st, ht.at fun o e => hk0 _ o e⟩, hfp, by simpa [intItems] using hsz, CmpOf.ints_lt (numAt xs) (fun _ _ => intItems_at), fun v h' tk hv hk => ?_⟩
    obtain ⟨t', rfl⟩ := intItems_at hv
    rw [show (intItems xs).size = xs.size from by simp [intItems]]
    obtain ⟨h1, h2⟩ := argBest_lt (numAt xs) (xs.size - 1)
    refine h h' tk _ t' (old h' hk) ?_ fun a ha => ?_
    · rw [numAt_eq]; exact PySem.getD_mem (by rw [List.length_map, Array.length_toList]; omega)
    · obtain ⟨j, hj, rfl⟩ := mem_getD ha
      rw [List.length_map, Array.length_toList] at hj
      rw [← numAt_eq]
      exact h2 j (by omega)
theorem cr_best {it : Bool} (hc : X.calm = true) : CallR X (.builtin (if it then "max" else "min")) (fun vs H Q => ∃ (a : Addr) (ns : List Int), vs = [V.ref a] ∧ (SqL X.K H a (ns.map V.int) ∨ SqT X.K H a (ns.map V.int)) ∧ 0 < ns.length ∧
    ∀ m, m ∈ ns → (∀ y, y ∈ ns → if it then y ≤ m else m ≤ y) → Q (.int m) H) := by
  intro pins s σ H vs us Q I r h
  obtain ⟨a, ns, rfl, hs, hne, q⟩ := h
  rw [Vals.ref1 r]
  rcases hs with hs | hs
  · obtain ⟨its, rv, hl, _⟩ := I.list hs
    cases it with
    | true => exact max_raw (I.ok.hd hc) hl.isList rv.ints hne fun h' tk m t' hk h1 h2 => ⟨.int _, H, I.kept hk, ⟨_, rfl⟩, q m h1 h2⟩
    | false => exact min_raw (I.ok.hd hc) hl.isList rv.ints hne fun h' tk m t' hk h1 h2 => ⟨.int _, H, I.kept hk, ⟨_, rfl⟩, q m h1 h2⟩
  · obtain ⟨its, rv, hl, _⟩ := I.tuple hs
    exact tup_max (I.ok.hd hc) hl rv.ints hne fun h' tk m t' hk h1 h2 => ⟨.int _, H, I.kept hk, ⟨_, rfl⟩, q m h1 h2⟩
/-- max(xs), min(xs): one of them, none beyond -/
def nBest (it : Bool) : AN := fun xs g A => match xs with
  | [x] => match items g x with
    | some ts => match intsOf ts with
      | some ns => 0 < ns.length ∧ ∀ m, m ∈ ns → (∀ y, y ∈ ns → if it then y ≤ m else m ≤ y) → A (.int m) g
      | none => False
    | none => False
  | _ => False
theorem sBest {it : Bool} : SimN K Tb (nBest it) (fun vs H Q => ∃ (a : Addr) (ns : List Int), vs = [V.ref a] ∧ (SqL K H a (ns.map V.int) ∨ SqT K H a (ns.map V.int)) ∧ 0 < ns.length ∧ ∀ m, m ∈ ns → (∀ y, y ∈ ns → if it then y ≤ m else m ≤ y) → Q (.int m) H) := fun xs vs g H A Q h1 rs w k => by
  unfold nBest at w
  split at w
  · obtain ⟨v, rfl, rv⟩ := rs.one
    split at w
    · rename_i ts e0
      split at w
      · rename_i ns e1
        obtain ⟨q, ws, rfl, sq, r⟩ := items_rep e0 h1 rv
        rw [intsOf_eq e1] at r
        rw [r.ints] at sq
        exact ⟨q, ns, rfl, sq, w.1, fun m h2 h3 => k _ _ g H h1 .refl (Rep.int_iff.mpr rfl) (w.2 m h2 h3)⟩
      · exact w.elim
    · exact w.elim
  · exact w.elim
theorem ae_max1 (hc : X.calm = true := by rfl) (hg : Gl X "max" := by rfl) (hm : X.mg "max" = none) (ha : AA X Tb (e :: es) ar) (he : starEach (e :: es) X.env = (false, eval e X.env) :: starEach es X.env := by rfl) (hpl : (backTo pos (starEach es X.env)).any (·.1) = false := by rfl) :
    AE X Tb (.Call (.Name "max" p) (e :: es) [] pos) (aN (nBest true) ar) := ae_b sBest (cr_best (it := true) hc) hg hm boot_max ha (by decide) (by decide) he hpl
theorem ae_min1 (hc : X.calm = true := by rfl) (hg : Gl X "min" := by rfl) (hm : X.mg "min" = none) (ha : AA X Tb (e :: es) ar) (he : starEach (e :: es) X.env = (false, eval e X.env) :: starEach es X.env := by rfl) (hpl : (backTo pos (starEach es X.env)).any (·.1) = false := by rfl) :
    AE X Tb (.Call (.Name "min" p) (e :: es) [] pos) (aN (nBest false) ar) := ae_b sBest (cr_best (it := false) hc) hg hm boot_min ha (by decide) (by decide) he hpl

/-! ### all, any of a list of True and False -/
def blsOf : List T → Option (List Bool)
  | [] => some []
  | .bl i :: ts => (blsOf ts).map (i :: ·)
  | _ => none
theorem blsOf_eq : ∀ {ts : List T} {ns : List Bool}, blsOf ts = some ns → ts = ns.map T.bl
  | [], ns, h => by simp only [blsOf, Option.some.injEq] at h; subst h; rfl
  | t :: ts, ns, h => by
    cases t with
    | bl i =>
      simp only [blsOf, Option.map_eq_some_iff] at h
      obtain ⟨ms, e, rfl⟩ := h
      rw [List.map_cons, ← blsOf_eq e]
    | _ => simp [blsOf] at h
theorem blsOf_map (ns : List Bool) : blsOf (ns.map T.bl) = some ns := by
  induction ns with
  | nil => rfl
  | cons n ns ih => rw [List.map_cons, blsOf, ih]; rfl
def nAll : AN := fun xs g A => match xs with
  | [.ref p] => match g p with
    | some (.lst ts) => match blsOf ts with
      | some ns => A (.bl (ns.all id)) g
      | none => False
    | none => False
  | _ => False
theorem ae_allL (hc : X.calm = true := by rfl) (hg : Gl X "all" := by rfl) (hm : X.mg "all" = none) (ha : AA X Tb (e :: es) ar) (he : starEach (e :: es) X.env = (false, eval e X.env) :: starEach es X.env := by rfl) (hpl : (backTo pos (starEach es X.env)).any (·.1) = false := by rfl) :
    AE X Tb (.Call (.Name "all" p) (e :: es) [] pos) (aN nAll ar) := ae_b (fun xs vs g H A Q h1 rs w k => by
  unfold nAll at w
  split at w
  · obtain ⟨v, rfl, rv⟩ := rs.one
    rw [Rep.ref_iff] at rv
    split at w
    · rename_i ts e0
      split at w
      · rename_i ns e1
        obtain ⟨ws, f, r⟩ := h1.lst e0
        rw [blsOf_eq e1] at r
        rw [r.bls] at f
        exact ⟨_, ns, by rw [rv], SqL.of f, k _ _ g H h1 .refl (Rep.bl_iff.mpr rfl) w⟩
      · exact w.elim
    · exact w.elim
  · exact w.elim) (cr_all hc) hg hm boot_all ha (by decide) (by decide) he hpl

/-! ### isinstance -/
def tyName (g : G) : T → Option String
  | .non => some "NoneType"
  | .bl _ => some "bool"
  | .int _ => some "int"
  | .str _ => some "str"
  | .tup _ => some "tuple"
  | .frz _ => some "list"
  | .ref p => match g p with
    | some (.lst _) => some "list"
    | none => none
  | .ty _ => none
theorem tyName_rep {x : T} {v : V} {n : String} (h : tyName g x = some n) (h1 : HRel K Tb g H) (rx : Rep K H x v) : TyX K H v (.type n) := by
  cases x with
  | non => simp only [tyName, Option.some.injEq] at h; simp only [Rep] at rx; subst h rx; exact .base .non
  | bl b => simp only [tyName, Option.some.injEq] at h; simp only [Rep] at rx; subst h rx; exact .base (.bl _)
  | int b => simp only [tyName, Option.some.injEq] at h; simp only [Rep] at rx; subst h rx; exact .base (.int _)
  | str b => simp only [tyName, Option.some.injEq] at h; simp only [Rep] at rx; subst h rx; exact .base (.str _)
  | tup ts =>
    simp only [tyName, Option.some.injEq] at h
    subst h
    obtain ⟨p, vs, rfl, sq, _⟩ := Rep.tup_iff.mp rx
    rcases sq with (sq | ⟨o, sq⟩) | ⟨o, its, n, sq, hc, _⟩
    · exact .base (.tup sq)
    · exact .fTuple sq
    · exact .kTuple sq hc
  | frz ts =>
    simp only [tyName, Option.some.injEq] at h
    subst h
    obtain ⟨p, vs, rfl, sq, _⟩ := Rep.frz_iff.mp rx
    rcases sq with ⟨o, sq⟩ | ⟨o, its, n, sq, hc, _⟩
    · exact .base (.frz sq)
    · exact .kList sq hc
  | ref p =>
    simp only [tyName] at h
    rw [Rep.ref_iff] at rx
    subst rx
    split at h
    · rename_i ts e0
      simp only [Option.some.injEq] at h
      subst h
      obtain ⟨vs, f, _⟩ := h1.lst e0
      exact .base (.lst f)
    · cases h
  | ty _ => simp [tyName] at h
def isTab (t c : String) : Option Bool := match t, c with
  | "bool", "int" => some true
  | "NoneType", "int" => some false | "NoneType", "bool" => some false | "NoneType", "str" => some false | "NoneType", "tuple" => some false | "NoneType", "list" => some false
  | "bool", "bool" => some true | "bool", "str" => some false | "bool", "tuple" => some false | "bool", "list" => some false
  | "int", "int" => some true | "int", "bool" => some false | "int", "str" => some false | "int", "tuple" => some false | "int", "list" => some false
  | "str", "int" => some false | "str", "bool" => some false | "str", "str" => some true | "str", "tuple" => some false | "str", "list" => some false
  | "tuple", "int" => some false | "tuple", "bool" => some false | "tuple", "str" => some false | "tuple", "tuple" => some true | "tuple", "list" => some false
  | "list", "int" => some false | "list", "bool" => some false | "list", "str" => some false | "list", "tuple" => some false | "list", "list" => some true
  | _, _ => none
theorem isTab_ok {t c : String} {b : Bool} (h : isTab t c = some b) : kitB t c = some b := by
  unfold isTab at h
  split at h <;> first
    | (cases h; decide +kernel)
    | cases h
def nIsi : AN := fun xs g A => match xs with
  | [x, .ty c] => match tyName g x with
    | some t => match isTab t c with
      | some b => A (.bl b) g
      | none => False
    | none => False
  | _ => False
theorem ae_blt {x : Str} {n : String} {p : Pos} (hg : Gl X x) (hm : X.mg x = none) (hv : bootBuiltins x = some (.type n)) (hn : x ≠ "__name__" := by decide) (hd : (x == ("__debug__" : Str)) = false := by decide) : AE X Tb (.Name x p) (aC (.ty n)) := ae_c (pe_bltn hg hm hv (v := .ty n) rfl hn hd) fun _ => Rep.ty_iff.mpr rfl
theorem ae_isi (hg : Gl X "isinstance" := by rfl) (hm : X.mg "isinstance" = none) (ha : AA X Tb (e :: es) ar) (he : starEach (e :: es) X.env = (false, eval e X.env) :: starEach es X.env := by rfl) (hpl : (backTo pos (starEach es X.env)).any (·.1) = false := by rfl) :
    AE X Tb (.Call (.Name "isinstance" p) (e :: es) [] pos) (aN nIsi ar) := ae_b (fun xs vs g H A Q h1 rs w k => by
  unfold nIsi at w
  split at w
  · rename_i x c
    obtain ⟨v, u, rfl, rv, ru⟩ := rs.two
    rw [Rep.ty_iff] at ru
    split at w
    · rename_i t e0
      split at w
      · rename_i b e1
        exact ⟨v, u, .type t, .type c, b, rfl, by rw [ru]; exact .ty c, tyName_rep e0 h1 rv, kit_ty (isTab_ok e1), k _ _ g H h1 .refl (Rep.bl_iff.mpr rfl) w⟩
      · exact w.elim
    · exact w.elim
  · exact w.elim) call_isi hg hm PyProof.Rows.boot_isinstance ha (by decide) (by decide) he hpl

/-! ### xs.append(e) -/
def aApp (ao ae : AT) : AT := fun s g A => ao s g fun x g1 => match x with
  | .ref p => match g1 p with
    | some (.lst _) => ae s g1 fun y g2 => match g2 p with
      | some (.lst ts) => ts.length < sizeLine ∧ A .non (set g2 p (.lst (ts ++ [y])))
      | none => False
    | none => False
  | _ => False
theorem ae_app {o : Expr} {ao : AT} {apos cpos : Pos} (ho : AE X Tb o ao) (ha : AE X Tb e aa)
    (hbase : attributeBase o "append" X.env (eval o X.env) = eval o X.env := by rfl)
    (hfew : ((backTo cpos (starEach (e :: []) X.env)).all (fun x => !x.1) && (backToKw cpos (keywordEach [] X.env)).all (fun x => x.1.isSome)
      && decide ((e :: ([] : List Expr)).length + ([] : List Keyword).length + (if ([] : List Keyword).isEmpty then 0 else 1) < 30)) = true := by rfl)
    (hline : (apos.endLine == cpos.line) = true := by rfl) (hs : starEach (e :: []) X.env = (false, eval e X.env) :: starEach [] X.env := by rfl) : AE X Tb (.Call (.Attribute o "append" apos) [e] [] cpos) (aApp ao aa) :=
  ae_of (pe_bm PySem.F.plainAttrs_list PySem.F.slot_list_append PySem.F.type_list_append mt_append ho (aa_cons ha aa_nil hs) hbase hfew hline hs (by rfl)) fun s g A σ H Q R w k => by
  refine ⟨s, g, _, R, w, fun x v g1 H1 h1 m1 rx z => ?_⟩
  cases x with
  | ref q =>
    rw [Rep.ref_iff] at rx
    subst rx
    have z : (match g1 q with
      | some (.lst _) => aa s g1 fun y g2 => match g2 q with
        | some (.lst ts) => ts.length < sizeLine ∧ A .non (set g2 q (.lst (ts ++ [y])))
        | none => False
      | none => False) := z
    split at z
    · rename_i us e0
      obtain ⟨ws, f, r⟩ := h1.lst e0
      refine ⟨.inl ⟨rfl, ws, SqL.of f⟩, s, g1, fun ys g2 => match ys with
        | [y] => (match g2 q with
          | some (.lst ts) => ts.length < sizeLine ∧ A .non (set g2 q (.lst (ts ++ [y])))
          | none => False)
        | _ => False, R.mono h1 m1, z, fun ys vs g2 H2 h2 m2 rs z2 => ?_⟩
      dsimp only at z2
      split at z2
      · rename_i y
        obtain ⟨v, rfl, rv⟩ := rs.one
        split at z2
        · rename_i ts e2
          obtain ⟨xs, f2, r2⟩ := h2.lst e2
          obtain ⟨h3, m3⟩ := h2.put (.inr ⟨xs, f2⟩) (r2.append (Reps.cons rv Reps.nil))
          exact ⟨q, xs, v, rfl, rfl, f2, by rw [← r2.length]; exact z2.1, k _ _ _ _ h3 (m1.trans (m2.trans m3)) (Rep.non_iff.mpr rfl) z2.2⟩
        · exact z2.elim
      · exact z2.elim
    · exact z.elim
  | _ => exact (show False from z).elim
end
end Lz

set_option Elab.async false
set_option linter.all false
set_option maxRecDepth 100000
set_option maxHeartbeats 4000000
/-! Statements, loops, comprehensions, defs over trees. -/
namespace Lz
open PySem PySem.Spec PyProof.Rows L2

structure AEnds where
  nx : SS → G → Prop
  rt : T → G → Prop
  bk : SS → G → Prop := fun _ _ => False
  ct : SS → G → Prop := fun _ _ => False
abbrev AS := AEnds → SS → G → Prop
structure DRel (K : PySem.W.Frag) (Tb : Bs) (H : Hp) (B : AEnds) (D : Ends) : Prop where
  nx : ∀ s' g' σ' H', Rel K Tb s' g' σ' H' → Mono K H H' → B.nx s' g' → D.nx σ' H'
  rt : ∀ τ v g' H', HRel K Tb g' H' → Mono K H H' → Rep K H' τ v → B.rt τ g' → D.rt v H'
  bk : ∀ s' g' σ' H', Rel K Tb s' g' σ' H' → Mono K H H' → B.bk s' g' → D.bk σ' H'
  ct : ∀ s' g' σ' H', Rel K Tb s' g' σ' H' → Mono K H H' → B.ct s' g' → D.ct σ' H'
theorem DRel.mono {K : PySem.W.Frag} {Tb : Bs} {H H1 : Hp} {B : AEnds} {D : Ends} (d : DRel K Tb H B D) (m : Mono K H H1) : DRel K Tb H1 B D :=
  ⟨fun s' g' σ' H' r m' h => d.nx s' g' σ' H' r (m.trans m') h, fun τ v g' H' r m' q h => d.rt τ v g' H' r (m.trans m') q h, fun s' g' σ' H' r m' h => d.bk s' g' σ' H' r (m.trans m') h, fun s' g' σ' H' r m' h => d.ct s' g' σ' H' r (m.trans m') h⟩
def concS (K : PySem.W.Frag) (Tb : Bs) (a : AS) : TS := fun D σ H => ∃ s g B, Rel K Tb s g σ H ∧ a B s g ∧ DRel K Tb H B D
def ASt (X : Cx) (Tb : Bs) (st : Stmt) (a : AS) : Prop := PS X st (concS X.K Tb a)
def ABl (X : Cx) (Tb : Bs) (st : List Stmt) (a : AS) : Prop := PSs X st (concS X.K Tb a)
theorem psimp {X : Cx} {e : Stmt} {t t' : TS} (h : PS X e t) (q : ∀ D σ H, t' D σ H → t D σ H) : PS X e t' := ⟨fun pins s σ H D I w => h.run pins s σ H D I (q D σ H w)⟩
theorem pssimp {X : Cx} {e : List Stmt} {t t' : TS} (h : PSs X e t) (q : ∀ D σ H, t' D σ H → t D σ H) : PSs X e t' := ⟨fun pins s σ H D I w => h.run pins s σ H D I (q D σ H w)⟩

section
variable {X : Cx} {Tb : Bs} {st : Stmt} {rest : List Stmt} {e : Expr} {aa : AT} {a b : AS} {pos : Pos}
def aNext : AS := fun D s g => D.nx s g
def aSeq (a b : AS) : AS := fun D s g => a { D with nx := b D } s g
theorem ab_nil : ABl X Tb [] aNext := pssimp pss_nil fun D σ H ⟨s, g, B, R, w, d⟩ => d.nx _ _ _ _ R .refl w
theorem ab_cons (h1 : ASt X Tb st a) (h2 : ABl X Tb rest b) : ABl X Tb (st :: rest) (aSeq a b) := pssimp (pss_cons h1 h2) fun D σ H ⟨s, g, B, R, w, d⟩ =>
  ⟨s, g, { B with nx := b B }, R, w, ⟨fun s' g' σ' H' r m h => ⟨s', g', B, r, h, d.mono m⟩, d.rt, d.bk, d.ct⟩⟩
theorem ab_one (h : ASt X Tb st a) : ABl X Tb [st] a := pssimp (pss_one h) fun D σ H w => w
def aBrk : AS := fun D s g => D.bk s g
def aCnt : AS := fun D s g => D.ct s g
theorem as_pass : ASt X Tb (.Pass pos) aNext := psimp ps_pass fun D σ H ⟨s, g, B, R, w, d⟩ => d.nx _ _ _ _ R .refl w
theorem as_brk : ASt X Tb (.Break pos) aBrk := psimp ps_break fun D σ H ⟨s, g, B, R, w, d⟩ => d.bk _ _ _ _ R .refl w
theorem as_cnt : ASt X Tb (.Continue pos) aCnt := psimp ps_continue fun D σ H ⟨s, g, B, R, w, d⟩ => d.ct _ _ _ _ R .refl w
def aDrop (aa : AT) : AS := fun D s g => aa s g fun _ g1 => D.nx s g1
theorem as_expr (h : AE X Tb e aa) (hs : swapsWith e none pos.line X.env = pure false := by rfl) : ASt X Tb (.Expr e pos) (aDrop aa) := psimp (ps_expr h hs) fun D σ H ⟨s, g, B, R, w, d⟩ =>
  ⟨s, g, _, R, w, fun τ v g' H' h m r z => d.nx _ _ _ _ (R.mono h m) m z⟩
def aRet (aa : AT) : AS := fun D s g => aa s g D.rt
theorem as_ret (h : AE X Tb e aa) : ASt X Tb (.Return (some e) pos) (aRet aa) := psimp (ps_ret h) fun D σ H ⟨s, g, B, R, w, d⟩ => ⟨s, g, _, R, w, fun τ v g' H' h m r z => d.rt _ _ _ _ h m r z⟩
def aRetN : AS := fun D _ g => D.rt .non g
theorem as_retN : ASt X Tb (.Return none pos) aRetN := psimp ps_retN fun D σ H ⟨s, g, B, R, w, d⟩ => d.rt .non .non g H R.hp .refl (Rep.non_iff.mpr rfl) w
def aIfS (c : ATT) (a b : AS) : AS := fun D s g => c s g fun k g1 => match k with
  | true => a D s g1
  | false => b D s g1
theorem as_if {c : Expr} {ac : ATT} {u v : List Stmt} (hc : AP X Tb c ac) (ha : ABl X Tb u a) (hb : ABl X Tb v b) : ASt X Tb (.If c u v pos) (aIfS ac a b) := psimp (ps_if hc ha hb) fun D σ H ⟨s, g, B, R, w, d⟩ =>
  ⟨s, g, _, R, w, fun k g1 H1 h1 m1 z => by
    cases k with
    | true => rw [if_pos rfl]; exact ⟨s, g1, B, R.mono h1 m1, z, d.mono m1⟩
    | false => rw [if_neg Bool.false_ne_true]; exact ⟨s, g1, B, R.mono h1 m1, z, d.mono m1⟩⟩
def aNever : AS := fun _ _ _ => False
theorem as_never : ASt X Tb st aNever := psimp ps_never fun D σ H ⟨s, g, B, R, w, d⟩ => w.elim
theorem ab_never {sts : List Stmt} : ABl X Tb sts aNever := pssimp pss_never fun D σ H ⟨s, g, B, R, w, d⟩ => w.elim

/-! ### targets -/
abbrev AG := T → SS → G → (SS → G → Prop) → Prop
abbrev AGs := List T → SS → G → (SS → G → Prop) → Prop
def concG (K : PySem.W.Frag) (Tb : Bs) (a : AG) : TG := fun v σ H Q => ∃ τ s g A, Rel K Tb s g σ H ∧ Rep K H τ v ∧ a τ s g A ∧ ∀ s' g' σ' H', Rel K Tb s' g' σ' H' → Mono K H H' → A s' g' → Q σ' H'
def concGs (K : PySem.W.Frag) (Tb : Bs) (a : AGs) : TGs := fun vs σ H Q => ∃ τs s g A, Rel K Tb s g σ H ∧ Reps K H τs vs ∧ a τs s g A ∧ ∀ s' g' σ' H', Rel K Tb s' g' σ' H' → Mono K H H' → A s' g' → Q σ' H'
def ATg (X : Cx) (Tb : Bs) (t : Expr) (a : AG) : Prop := PG X t (concG X.K Tb a)
def ATgs (X : Cx) (Tb : Bs) (t : List Expr) (a : AGs) : Prop := PGs X t (concGs X.K Tb a)
theorem pgimp {t : Expr} {u u' : TG} (h : PG X t u) (q : ∀ v σ H Q, u' v σ H Q → u v σ H Q) : PG X t u' := ⟨fun pins s σ H v w Q I r z => h.run pins s σ H v w Q I r (q v σ H Q z)⟩
theorem pgsimp {t : List Expr} {u u' : TGs} (h : PGs X t u) (q : ∀ v σ H Q, u' v σ H Q → u v σ H Q) : PGs X t u' := ⟨fun pins s σ H v w Q I r z => h.run pins s σ H v w Q I r (q v σ H Q z)⟩
def gNm (i : Nat) : AG := fun τ s g A => A (s.set i (some τ)) g
theorem ag_nm {t : Expr} {i : Nat} (h : PG X t (gName i)) : ATg X Tb t (gNm i) := pgimp h fun v σ H Q ⟨τ, s, g, A, R, r, w, k⟩ => k _ _ _ _ (R.put i r) .refl w
def gNl : AGs := fun τs s g A => match τs with
  | [] => A s g
  | _ => False
def gCn (u : AG) (v : AGs) : AGs := fun τs s g A => match τs with
  | τ :: r => u τ s g fun s' g' => v r s' g' A
  | [] => False
theorem ags_nil : ATgs X Tb [] gNl := pgsimp pgs_nil fun v σ H Q ⟨τs, s, g, A, R, r, w, k⟩ => by
  cases τs with
  | nil => rw [Reps.nil_iff] at r; exact ⟨r, k _ _ _ _ R .refl w⟩
  | cons t ts => exact (show False from w).elim
theorem ags_cons {t : Expr} {ts : List Expr} {u : AG} {v : AGs} (h1 : ATg X Tb t u) (h2 : ATgs X Tb ts v) (hs : (assignEach (t :: ts) X.env).map (·.2) = assign t X.env :: (assignEach ts X.env).map (·.2) := by rfl) : ATgs X Tb (t :: ts) (gCn u v) := pgsimp (pgs_cons h1 h2 hs) fun v σ H Q ⟨τs, s, g, A, R, r, w, k⟩ => by
  cases τs with
  | nil => exact (show False from w).elim
  | cons τ τr =>
    obtain ⟨x, xs, rfl, r1, r2⟩ := Reps.cons_iff.mp r
    exact ⟨x, xs, rfl, τ, s, g, _, R, r1, w, fun s' g' σ' H' R' m z => ⟨τr, s', g', A, R', Reps.mono m _ r2, z, fun s2 g2 σ2 H2 R2 m2 z2 => k _ _ _ _ R2 (m.trans m2) z2⟩⟩
def gTp (n : Nat) (v : AGs) : AG := fun τ s g A => match τ with
  | .tup ts => ts.length = n ∧ v ts s g A
  | _ => False
theorem ag_tup {ts : List Expr} {k n : Nat} {v : AGs} (hc : X.calm = true := by rfl) (h : ATgs X Tb ts v) (hn : (assignEach ts X.env).length = n := by rfl) (hst : (assignEach ts X.env).findIdx? (·.1) = none := by rfl) : ATg X Tb (.Tuple ts k pos) (gTp n v) := pgimp (pg_tup hc h hn hst) fun v σ H Q ⟨τ, s, g, A, R, r, w, k⟩ => by
  cases τ with
  | tup us =>
    obtain ⟨p, vs, rfl, sq, rs⟩ := Rep.tup_iff.mp r
    exact ⟨p, vs, rfl, sq, by rw [← rs.length]; exact w.1, us, s, g, A, R, rs, w.2, k⟩
  | _ => exact (show False from w).elim
/-- xs[i] = v -/
def gSb (ao ai : AT) : AG := fun τ s g A => ao s g fun x g1 => ai s g1 fun y g2 => match x, y with
  | .ref p, .int i => match g2 p with
    | some (.lst ts) => match ixN ts.length i with
      | some j => A s (set g2 p (.lst (ts.set j τ)))
      | none => False
    | none => False
  | _, _ => False
theorem ag_sub {o i : Expr} {ao ai : AT} (ho : AE X Tb o ao) (hi : AE X Tb i ai)
    (ha : ∀ v, assign (.Subscript o i pos) X.env v = (do
      let ov ← holding [v] (eval o X.env)
      let iv ← holding [v, ov] (eval i X.env)
      standAt pos
      holding [v, ov, iv] (setItem ov iv v)
      release [v, ov, iv] []) := by intro _; rfl) : ATg X Tb (.Subscript o i pos) (gSb ao ai) := pgimp (pg_sub ho hi set_list ha) fun v σ H Q ⟨τ, s, g, A, R, r, w, k⟩ => by
  refine ⟨s, g, _, R, w, fun x vx g1 H1 h1 m1 rx z => ⟨s, g1, _, R.mono h1 m1, z, fun y vy g2 H2 h2 m2 ry z2 => ?_⟩⟩
  cases x <;> cases y <;> first
    | exact (show False from z2).elim
    | skip
  rename_i p i
  rw [Rep.ref_iff] at rx
  rw [Rep.int_iff] at ry
  have z2 : (match g2 p with
    | some (.lst ts) => match ixN ts.length i with
      | some j => A s (set g2 p (.lst (ts.set j τ)))
      | none => False
    | none => False) := z2
  split at z2
  · rename_i ts e0
    split at z2
    · rename_i j e1
      obtain ⟨xs, f, rs⟩ := h2.lst e0
      have m := m1.trans m2
      obtain ⟨h3, m3⟩ := h2.put (.inr ⟨xs, f⟩) (rs.set j (r.mono m _))
      exact ⟨p, xs, i, j, rx, ry, f, by rw [← rs.length]; exact e1, k _ _ _ _ (R.mono h3 (m.trans m3)) (m.trans m3) z2⟩
    · exact z2.elim
  · exact z2.elim
def aAsg (aa : AT) (u : AG) : AS := fun D s g => aa s g fun τ g1 => u τ s g1 D.nx
theorem as_asg {t : Expr} {u : AG} (h : AE X Tb e aa) (hg : ATg X Tb t u) (hs : swapsWithSole [t] e pos.line X.env = pure false := by rfl) (hw : swappedStores [t] e X.env = pure none := by rfl)
    (h1 : (assignEach [t] X.env).map (·.2) = [assign t X.env] := by rfl) : ASt X Tb (.Assign [t] e pos) (aAsg aa u) := psimp (ps_asg h hg hs hw h1) fun D σ H ⟨s, g, B, R, w, d⟩ =>
  ⟨s, g, _, R, w, fun τ v g' H' h m r z => ⟨τ, s, g', _, R.mono h m, r, z, fun s2 g2 σ2 H2 R2 m2 z2 => d.nx _ _ _ _ R2 (m.trans m2) z2⟩⟩
/-- a, b = x, y with plain local names -/
def aPar (i j : Nat) (ar : ATA) : AS := fun D s g => ar s g fun ts g1 => match ts with
  | [t, u] => D.nx ((s.set i (some t)).set j (some u)) g1
  | _ => False
theorem as_par {i j : Nat} {ar : ATA} (hp : PS X st (tPar i j (concA X.K Tb ar))) : ASt X Tb st (aPar i j ar) := psimp hp fun D σ H ⟨s, g, B, R, w, d⟩ =>
  ⟨s, g, _, R, w, fun ts vs g1 H1 h1 m1 rs z => by
    split at z
    · obtain ⟨v, u, rfl, rv, ru⟩ := rs.two
      exact ⟨v, u, rfl, d.nx _ _ _ _ (((R.mono h1 m1).put i rv).put j ru) m1 z⟩
    · exact z.elim⟩
/-- x += e -/
def aAug (i : Nat) (f : A2) (aa : AT) : AS := fun D s g => match s[i]? with
  | some (some t) => aa s g fun y g1 => f t y g1 fun z g2 => D.nx (s.set i (some z)) g2
  | _ => False
theorem as_aug {i : Nat} {op : Operator} {f : A2} {ti : TIp} {x : Expr} (sm : Sim2 X.K Tb f ti) (hp : PS X (.AugAssign x op e pos) (tAug i (conc X.K Tb aa) ti)) : ASt X Tb (.AugAssign x op e pos) (aAug i f aa) := psimp hp fun D σ H ⟨s, g, B, R, w, d⟩ => by
  unfold aAug at w
  split at w
  · rename_i t e1
    obtain ⟨v, e2, r⟩ := R.sl i t e1
    refine ⟨v, e2, s, g, _, R, w, fun y u g1 H1 h1 m1 ry z => ?_⟩
    exact sm t y v u g1 H1 _ _ h1 (r.mono m1 _) ry z fun τ w' g' H' h m q z2 => d.nx _ _ _ _ ((R.mono h (m1.trans m)).put i q) (m1.trans m) z2
  · exact w.elim
end
end Lz

set_option Elab.async false
set_option linter.all false
set_option maxRecDepth 100000
set_option maxHeartbeats 4000000
/-! Loops and comprehensions over trees. -/
namespace Lz
open PySem PySem.Spec PyProof.Rows L2

structure IRel (K : PySem.W.Frag) (Tb : Bs) (J : It) (ts : List T) (C : G → Prop) (H0 : Hp) : Prop where
  go : ∀ i g H, i < ts.length → Mono K H0 H → HRel K Tb g H → C g → J.go i H
  stop : ∀ g H, Mono K H0 H → HRel K Tb g H → C g → J.stop ts.length H
  yld : ∀ i g H x H' t, ts[i]? = some t → Mono K H0 H → HRel K Tb g H → C g → J.yld i H x H' → HRel K Tb g H' ∧ Mono K H H' ∧ Rep K H' t x
abbrev AI := SS → G → (List T → (G → Prop) → G → Prop) → Prop
def concI (K : PySem.W.Frag) (Tb : Bs) (ai : AI) : TI := fun σ H R => ∃ s g A, Rel K Tb s g σ H ∧ ai s g A ∧ ∀ ts C g' H' J, HRel K Tb g' H' → Mono K H H' → IRel K Tb J ts C H' → A ts C g' → R J H'
def AIt (X : Cx) (Tb : Bs) (tg iter : Expr) (ai : AI) : Prop := PI X tg iter (concI X.K Tb ai)
theorem piimp {X : Cx} {tg iter : Expr} {t t' : TI} (h : PI X tg iter t) (q : ∀ σ H R, t' σ H R → t σ H R) : PI X tg iter t' := ⟨fun pins s σ H R I w => h.run pins s σ H R I (q σ H R w)⟩

section
variable {X : Cx} {K : PySem.W.Frag} {Tb : Bs} {tg iter e : Expr} {body : List Stmt} {aa : AT} {ar : ATA} {ai : AI} {u : AG} {b : AS} {pos p : Pos}

/-- over a tuple, a list -/
def iSeq (aa : AT) : AI := fun s g A => aa s g fun x g1 => match x with
  | .tup ts => A ts (fun _ => True) g1
  | _ => False
def iLst (aa : AT) : AI := fun s g A => aa s g fun x g1 => match x with
  | .frz ts => A ts (fun _ => True) g1
  | .ref q => match g1 q with
    | some (.lst ts) => A ts (fun g => g q = some (.lst ts)) g1
    | none => False
  | _ => False
theorem irel_of {J : It} {n : Nat} {Gd : Hp → Prop} {xs : List V} {ts : List T} {C : G → Prop} {H0 : Hp} (W : Walk J n Gd (YAt xs)) (hn : n = ts.length) (r : Reps K H0 ts xs) (hG : ∀ g H, Mono K H0 H → HRel K Tb g H → C g → Gd H) : IRel K Tb J ts C H0 := by
  subst hn
  refine ⟨fun i g H hi m h c => W.goes i H hi (hG g H m h c), fun g H m h c => W.stops H (hG g H m h c), fun i g H x H' t e m h c y => ?_⟩
  obtain ⟨rfl, e2⟩ := W.yields i H x H' (List.getElem?_eq_some_iff.mp e).1 (hG g H m h c) y
  obtain ⟨v, e3, q⟩ := (Reps.mono m _ r).got e
  rw [e2] at e3
  cases e3
  exact ⟨h, .refl, q⟩
theorem ai_seq (h : AE X Tb iter aa) : AIt X Tb tg iter (iSeq aa) := piimp (pi_tup h) fun σ H R ⟨s, g, A, Rr, w, k⟩ =>
  ⟨s, g, _, Rr, w, fun x v g1 H1 h1 m1 rx z => by
    cases x with
    | tup ts =>
      obtain ⟨q, vs, rfl, sq, r⟩ := Rep.tup_iff.mp rx
      exact ⟨q, rfl, ⟨vs, sq⟩, k _ _ g1 H1 _ h1 m1 (irel_of walk_tup r.length.symm r fun g H m _ _ => m.t _ _ sq) z⟩
    | _ => exact (show False from z).elim⟩
theorem ai_lst (h : AE X Tb iter aa) : AIt X Tb tg iter (iLst aa) := piimp (pi_list h) fun σ H R ⟨s, g, A, Rr, w, k⟩ =>
  ⟨s, g, _, Rr, w, fun x v g1 H1 h1 m1 rx z => by
    cases x with
    | frz ts =>
      obtain ⟨q, vs, rfl, sq, r⟩ := Rep.frz_iff.mp rx
      exact ⟨q, rfl, ⟨vs, sq.l⟩, k _ _ g1 H1 _ h1 m1 (irel_of walk_list r.length.symm r fun g H m _ _ => (m.f _ _ sq).l) z⟩
    | ref q =>
      rw [Rep.ref_iff] at rx
      have z : (match g1 q with
        | some (.lst ts) => A ts (fun g => g q = some (.lst ts)) g1
        | none => False) := z
      split at z
      · rename_i ts e0
        obtain ⟨vs, f, r⟩ := h1.lst e0
        refine ⟨q, rx, ⟨vs, SqL.of f⟩, k ts _ g1 H1 _ h1 m1 ?_ z⟩
        have key : ∀ g H, Mono X.K H1 H → HRel X.K Tb g H → g q = some (.lst ts) → ∃ ws, H q = some (.lst ws) ∧ Reps X.K H ts ws := fun g H m h c => h.lst c
        refine ⟨fun i g H hi m h c => ?_, fun g H m h c => ?_, fun i g H x H' t e m h c y => ?_⟩
        · obtain ⟨ws, f2, r2⟩ := key g H m h c
          exact walk_list.goes i H (by rw [← r2.length]; exact hi) (SqL.of f2)
        · obtain ⟨ws, f2, r2⟩ := key g H m h c
          have := (walk_list (K := X.K) (a := q) (xs := ws)).stops H (SqL.of f2)
          rw [← r2.length] at this
          exact this
        · obtain ⟨ws, f2, r2⟩ := key g H m h c
          obtain ⟨rfl, e2⟩ := walk_list.yields i H x H' (by rw [← r2.length]; exact (List.getElem?_eq_some_iff.mp e).1) (SqL.of f2) y
          obtain ⟨v2, e3, q2⟩ := r2.got e
          rw [e2] at e3
          cases e3
          exact ⟨h, .refl, q2⟩
      · exact z.elim
    | _ => exact (show False from z).elim⟩
/-- range(n), range(a, b) -/
def rangeT (lo : Int) (n : Nat) : List T := (List.range n).map fun (i : Nat) => T.int (lo + (i : Int))
def small (i : Int) : Prop := -(2 ^ 62) ≤ i ∧ i < 2 ^ 62
def iRange1 (ar : ATA) : AI := fun s g A => ar s g fun xs g1 => match xs with
  | [.int j] => small j ∧ A (rangeT 0 j.toNat) (fun _ => True) g1
  | _ => False
def iRange2 (ar : ATA) : AI := fun s g A => ar s g fun xs g1 => match xs with
  | [.int i, .int j] => (small i ∧ small j) ∧ A (rangeT i (j - i).toNat) (fun _ => True) g1
  | _ => False
theorem irel_range {lo : Int} {n : Nat} {H0 : Hp} : IRel K Tb (Itr lo n) (rangeT lo n) (fun _ => True) H0 := by
  have hl : (rangeT lo n).length = n := by simp [rangeT]
  refine ⟨fun i g H hi m h c => by rw [hl] at hi; exact hi, fun g H m h c => by rw [hl]; exact Nat.le_refl _, fun i g H x H' t e m h c y => ?_⟩
  obtain ⟨rfl, rfl⟩ := y
  refine ⟨h, .refl, ?_⟩
  have hi : i < n := by rw [← hl]; exact (List.getElem?_eq_some_iff.mp e).1
  unfold rangeT at e
  rw [List.getElem?_map, List.getElem?_range hi] at e
  simp only [Option.map_some, Option.some.injEq] at e
  rw [← e]
  exact Rep.int_iff.mpr rfl
theorem ai_range1 {a : Expr} (hg : Gl X "range" := by rfl) (hm : X.mg "range" = none) (ha : AA X Tb [a] ar) (hs : starEach [a] X.env = [(false, eval a X.env)] := by rfl) : AIt X Tb tg (.Call (.Name "range" p) [a] [] pos) (iRange1 ar) := piimp (pi_range1 hg hm ha hs) fun σ H R ⟨s, g, A, Rr, w, k⟩ =>
  ⟨s, g, _, Rr, w, fun xs vs g1 H1 h1 m1 rs z => by
    split at z
    · rename_i j
      obtain ⟨v, rfl, rv⟩ := rs.one
      rw [Rep.int_iff] at rv
      exact ⟨j, by rw [rv], z.1.1, z.1.2, k _ _ g1 H1 _ h1 m1 irel_range z.2⟩
    · exact z.elim⟩
theorem ai_range2 {a c : Expr} (hg : Gl X "range" := by rfl) (hm : X.mg "range" = none) (ha : AA X Tb [a, c] ar) (hs : starEach [a, c] X.env = [(false, eval a X.env), (false, eval c X.env)] := by rfl) (hs2 : starEach [c] X.env = [(false, eval c X.env)] := by rfl) : AIt X Tb tg (.Call (.Name "range" p) [a, c] [] pos) (iRange2 ar) := piimp (pi_range2 hg hm ha hs hs2) fun σ H R ⟨s, g, A, Rr, w, k⟩ =>
  ⟨s, g, _, Rr, w, fun xs vs g1 H1 h1 m1 rs z => by
    split at z
    · rename_i i j
      obtain ⟨v, u, rfl, rv, ru⟩ := rs.two
      rw [Rep.int_iff] at rv ru
      exact ⟨i, j, by rw [rv, ru], ⟨z.1.1.1, z.1.1.2, z.1.2.1, z.1.2.2⟩, k _ _ g1 H1 _ h1 m1 irel_range z.2⟩
    · exact z.elim⟩

/-! ### for -/
def aLoop (C : G → Prop) (u : AG) (b : AS) (D : AEnds) : List T → SS → G → Prop
  | [], s, g => C g ∧ D.nx s g
  | t :: ts, s, g => C g ∧ u t s g fun s2 g2 => b { D with nx := aLoop C u b D ts, ct := aLoop C u b D ts, bk := D.nx } s2 g2
def aFor (ai : AI) (u : AG) (b : AS) : AS := fun D s g => ai s g fun ts C g1 => aLoop C u b D ts s g1
theorem as_for (hp : PassesOwn (model X.prog X.w) X.A X.env X.xe) (hi : AIt X Tb tg iter ai) (hg : ATg X Tb tg u) (hb : ABl X Tb body b) (hc : X.calm = true := by rfl)
    (hs : ∀ x, foldedSetIterable iter X.env x = pure x := by intro _; rfl) : ASt X Tb (.For tg iter body [] pos) (aFor ai u b) := psimp (ps_for hp hc hi hg hb hs) fun D σ H ⟨s, g, B, R, w, d⟩ => by
  refine ⟨s, g, _, R, w, fun ts C g1 H1 J h1 m1 ir z => ?_⟩
  refine ⟨fun i m σ H => m = ts.length - i ∧ i ≤ ts.length ∧ ∃ s g, Rel X.K Tb s g σ H ∧ Mono X.K H1 H ∧ aLoop C u b B (ts.drop i) s g, ⟨ts.length, by simp, Nat.zero_le _, s, g1, R.mono h1 m1, .refl, z⟩, ?_⟩
  rintro i m σ2 H2 ⟨rfl, hi2, s2, g2, R2, m2, z2⟩
  by_cases hlt : i < ts.length
  · rw [List.drop_eq_getElem_cons hlt] at z2
    obtain ⟨c, z2⟩ := z2
    refine .inr ⟨ir.go i g2 H2 hlt m2 R2.hp c, fun σ' H' => ∃ s g, Rel X.K Tb s g σ' H' ∧ Mono X.K H1 H' ∧ aLoop C u b B (ts.drop (i + 1)) s g, fun σ' H' ⟨s3, g3, R3, m3, z3⟩ => ⟨ts.length - (i + 1), by omega, rfl, hlt, s3, g3, R3, m3, z3⟩, fun x H' y => ?_⟩
    obtain ⟨h3, m3, rx⟩ := ir.yld i g2 H2 x H' ts[i] (by simp [hlt]) m2 R2.hp c y
    refine ⟨ts[i], s2, g2, _, R2.mono h3 m3, rx, z2, fun s4 g4 σ4 H4 R4 m4 z4 => ?_⟩
    have mm := m2.trans (m3.trans m4)
    refine ⟨s4, g4, _, R4, z4, ⟨fun s5 g5 σ5 H5 R5 m5 z5 => ⟨s5, g5, R5, mm.trans m5, z5⟩, fun τ v g5 H5 h5 m5 q z5 => d.rt _ _ _ _ h5 (m1.trans (mm.trans m5)) q z5, fun s5 g5 σ5 H5 R5 m5 z5 => d.nx _ _ _ _ R5 (m1.trans (mm.trans m5)) z5, fun s5 g5 σ5 H5 R5 m5 z5 => ⟨s5, g5, R5, mm.trans m5, z5⟩⟩⟩
  · have e : i = ts.length := by omega
    subst e
    rw [List.drop_length] at z2
    exact .inl ⟨ir.stop g2 H2 m2 R2.hp z2.1, d.nx _ _ _ _ R2 (m1.trans m2) z2.2⟩

/-! ### while -/
def aWh (c : ATT) (b : AS) (D : AEnds) : Nat → SS → G → Prop
  | 0, _, _ => False
  | n + 1, s, g => c s g fun k g1 => match k with
    | true => b { D with nx := aWh c b D n, ct := aWh c b D n, bk := D.nx } s g1
    | false => D.nx s g1
def aWhile (c : ATT) (b : AS) : AS := fun D s g => ∃ n, aWh c b D n s g
theorem as_while {c : Expr} {ac : ATT} (hp : PassesOwn (model X.prog X.w) X.A X.env X.xe) (hc : AP X Tb c ac) (hb : ABl X Tb body b) : ASt X Tb (.While c body [] pos) (aWhile ac b) := psimp (ps_while hp hc hb) fun D σ H ⟨s, g, B, R, w, d⟩ => by
  obtain ⟨n, w⟩ := w
  refine ⟨fun m σ' H' => ∃ s g, Rel X.K Tb s g σ' H' ∧ Mono X.K H H' ∧ aWh ac b B m s g, ⟨n, s, g, R, .refl, w⟩, ?_⟩
  rintro m σ2 H2 ⟨s2, g2, R2, m2, z2⟩
  cases m with
  | zero => exact z2.elim
  | succ m =>
    refine ⟨s2, g2, _, R2, z2, fun k g3 H3 h3 m3 z3 => ?_⟩
    cases k with
    | true =>
      rw [if_pos rfl]
      have mm := m2.trans m3
      refine ⟨fun σ' H' => ∃ s g, Rel X.K Tb s g σ' H' ∧ Mono X.K H H' ∧ aWh ac b B m s g, fun σ' H' q => ⟨m, Nat.lt_succ_self _, q⟩, s2, g3, _, R2.mono h3 m3, z3, ?_⟩
      exact ⟨fun s5 g5 σ5 H5 R5 m5 z5 => ⟨s5, g5, R5, mm.trans m5, z5⟩, fun τ v g5 H5 h5 m5 q z5 => d.rt _ _ _ _ h5 (mm.trans m5) q z5, fun s5 g5 σ5 H5 R5 m5 z5 => d.nx _ _ _ _ R5 (mm.trans m5) z5, fun s5 g5 σ5 H5 R5 m5 z5 => ⟨s5, g5, R5, mm.trans m5, z5⟩⟩
    | false =>
      rw [if_neg Bool.false_ne_true]
      exact d.nx _ _ _ _ (R2.mono h3 m3) (m2.trans m3) z3

/-! ### [e for x in xs if c] -/
def wipeS (s : SS) : List Nat → SS
  | [] => s
  | v :: vs => (wipeS s vs).set v none
theorem Rel.wipe {s : SS} {g : G} {σ : L2.St} {H : Hp} (r : Rel K Tb s g σ H) : ∀ vs, Rel K Tb (wipeS s vs) g (L2.wipe σ vs) H
  | [] => r
  | v :: vs => (Rel.wipe r vs).unset v _
def aTrue : ATT := fun _ g A => A true g
/-- the list at D grows -/
def aLcL (C : G → Prop) (D : Addr) (u : AG) (tt : ATT) (te : AT) (s : SS) (A : T → G → Prop) : List T → G → Prop
  | [], g => C g ∧ A (.ref D) g
  | t :: ts, g => C g ∧ u t s g fun s2 g2 => tt s2 g2 fun k g3 => match k with
    | true => te s2 g3 fun y g4 => match g4 D with
      | some (.lst acc) => acc.length < sizeLine ∧ aLcL C D u tt te s A ts (set g4 D (.lst (acc ++ [y])))
      | none => False
    | false => aLcL C D u tt te s A ts g3
def aLc (ai : AI) (u : AG) (tt : ATT) (te : AT) (own : List Nat) : AT := fun s g A => ai s g fun ts C g1 => ∀ D, g1 D = none → aLcL C D u tt te (wipeS s own) A ts (set g1 D (.lst []))
def SimG (K : PySem.W.Frag) (Tb : Bs) (own : List Nat) (u : AG) (g : TG) : Prop := ∀ τ v s g0 σ H A (Q : L2.St → Hp → Prop), Rel K Tb s g0 σ H → Rep K H τ v → u τ s g0 A →
  (∀ s' g' σ' H', Rel K Tb s' g' σ' H' → Mono K H H' → L2.wipe σ' own = L2.wipe σ own → A s' g' → Q σ' H') → g v σ H Q
theorem simG_nm {i : Nat} : SimG K Tb [i] (gNm i) (gName i) := fun τ v s g0 σ H A Q R r w k => k _ _ _ _ (R.put i r) .refl (by simp only [L2.wipe]; rw [List.set_set]) w
theorem simG_pair {i j : Nat} (hij : i ≠ j) : SimG K Tb [i, j] (gTp 2 (gCn (gNm i) (gCn (gNm j) gNl))) (gTup K 2 (gCons (gName i) (gCons (gName j) gNil))) := fun τ v s g0 σ H A Q R r w k => by
  cases τ with
  | tup ts =>
    obtain ⟨p, vs, rfl, sq, rs⟩ := Rep.tup_iff.mp r
    obtain ⟨hl, w⟩ := w
    match ts, hl with
    | [t1, t2], _ =>
      obtain ⟨v1, v2, rfl, r1, r2⟩ := rs.two
      exact ⟨p, _, rfl, sq, rfl, v1, _, rfl, v2, _, rfl, rfl, k _ _ _ _ ((R.put i r1).put j r2) .refl (by
        simp only [L2.wipe]
        rw [List.set_set, List.set_comm _ _ hij, List.set_set, List.set_comm _ _ hij.symm]) w⟩
  | _ => exact (show False from w).elim
def APs (X : Cx) (Tb : Bs) (ifs : List Expr) (a : ATT) : Prop := PTs X ifs (concT X.K Tb a)
theorem aps_nil : APs X Tb [] aTrue := ⟨fun pins s σ H Q I ⟨s1, g, A, R, w, k⟩ => pts_nil.run pins s σ H Q I (k true g H R.hp .refl w)⟩
theorem aps_one {c : Expr} {ac : ATT} (h : AP X Tb c ac) : APs X Tb [c] ac := pts_one h
theorem wipe_set (σ : L2.St) (v : Nat) : ∀ vs, L2.wipe (σ.set v none) vs = (L2.wipe σ vs).set v none
  | [] => rfl
  | w :: vs => by
    simp only [L2.wipe]
    rw [wipe_set σ v vs]
    by_cases h : v = w
    · subst h; rw [List.set_set]
    · rw [List.set_comm _ _ h]
theorem wipe_idem (σ : L2.St) : ∀ vs, L2.wipe (L2.wipe σ vs) vs = L2.wipe σ vs
  | [] => rfl
  | v :: vs => by
    simp only [L2.wipe]
    rw [wipe_set, wipe_idem σ vs, List.set_set]
theorem sim_lc {u : AG} {gt : TG} {at_ : ATT} {ae : AT} {own : List Nat} (sg : SimG K Tb own u gt) : ∀ σ H Q, conc K Tb (aLc ai u at_ ae own) σ H Q → tLc (concI K Tb ai) gt (concT K Tb at_) (conc K Tb ae) own σ H Q := by
  rintro σ H Q ⟨s, g, A, R, w, k⟩
  refine ⟨s, g, _, R, w, fun ts C g1 H1 J h1 m1 ir z => ?_⟩
  intro D hD
  have nil : Reps K H1 [] [] := Reps.nil
  obtain ⟨h2, m2⟩ := h1.put (.inl hD) nil
  refine ⟨fun i m H' => m = ts.length - i ∧ i ≤ ts.length ∧ ∃ g, HRel K Tb g H' ∧ Mono K H1 H' ∧ aLcL C D u at_ ae (wipeS s own) A (ts.drop i) g, ⟨ts.length, by simp, Nat.zero_le _, _, h2, m2, z D (h1.free hD)⟩, ?_⟩
  rintro i m H2 ⟨rfl, hi2, g2, hr2, m2, z2⟩
  have Rw : Rel K Tb (wipeS s own) g2 (L2.wipe σ own) H2 := Rel.wipe (R.mono hr2 (m1.trans m2)) own
  by_cases hlt : i < ts.length
  · rw [List.drop_eq_getElem_cons hlt] at z2
    obtain ⟨c, z2⟩ := z2
    refine .inr ⟨ir.go i g2 H2 hlt m2 hr2 c, fun H' => ∃ g, HRel K Tb g H' ∧ Mono K H1 H' ∧ aLcL C D u at_ ae (wipeS s own) A (ts.drop (i + 1)) g, fun H' q => ⟨ts.length - (i + 1), by omega, rfl, hlt, q⟩, fun x H' y => ?_⟩
    obtain ⟨h3, m3, rx⟩ := ir.yld i g2 H2 x H' ts[i] (by simp [hlt]) m2 hr2 c y
    refine sg ts[i] x _ g2 _ H' _ _ (Rw.mono h3 m3) rx z2 fun s4 g4 σ4 H4 R4 m4 hw4 z4 => ⟨?_, ?_⟩
    · rw [hw4, wipe_idem]
    refine ⟨s4, g4, _, R4, z4, fun kk g5 H5 h5 m5 z5 => ?_⟩
    have mm := m2.trans (m3.trans (m4.trans m5))
    cases kk with
    | true =>
      dsimp only
      rw [if_pos rfl]
      refine ⟨s4, g5, _, R4.mono h5 m5, z5, fun t y g6 H6 h6 m6 ry z6 => ?_⟩
      split at z6
      · rename_i acc e6
        obtain ⟨xs, f, rs⟩ := h6.lst e6
        obtain ⟨h7, m7⟩ := h6.put (.inr ⟨xs, f⟩) (rs.append (Reps.cons ry Reps.nil))
        exact ⟨xs, f, by rw [← rs.length]; exact z6.1, _, h7, mm.trans (m6.trans m7), z6.2⟩
      · exact z6.elim
    | false =>
      dsimp only
      rw [if_neg Bool.false_ne_true]
      exact ⟨g5, h5, mm, z5⟩
  · have e : i = ts.length := by omega
    subst e
    rw [List.drop_length] at z2
    exact .inl ⟨ir.stop g2 H2 m2 hr2 z2.1, k _ _ g2 H2 hr2 (m1.trans m2) (Rep.ref_iff.mpr rfl) z2.2⟩
/-- a comprehension as a value -/
theorem ae_lc {elt : Expr} {ifs : List Expr} {scope : Scope} {own : List (Str × Nat)} {u : AG} {gt : TG} {at_ : ATT} {ae : AT} (sg : SimG X.K Tb (own.map (·.2)) u gt) (hN : X.N.Nodup) (hi : AIt X Tb tg iter ai) (ok : BlkOk X.N X.env.scope scope own)
    (hg : ∀ (s : Shared) (H : Hp) (C : Addr) (cl : List (Str × Addr)) (fp : List Addr), PG (X.blk s H scope (compEnvC scope cl C X.env) fp) tg gt) (ht : ∀ (s : Shared) (H : Hp) (C : Addr) (cl : List (Str × Addr)) (fp : List Addr), APs (X.blk s H scope (compEnvC scope cl C X.env) fp) Tb ifs at_)
    (he : ∀ (s : Shared) (H : Hp) (C : Addr) (cl : List (Str × Addr)) (fp : List Addr), AE (X.blk s H scope (compEnvC scope cl C X.env) fp) Tb elt ae) (hc : X.calm = true := by rfl) (hs : ∀ x, foldedSetIterable iter X.env x = pure x := by intro _; rfl) :
    AE X Tb (.ListComp elt [⟨tg, iter, ifs, 0⟩] scope pos) (aLc ai u at_ ae (own.map (·.2))) := pimp (pe_lc (tt := concT X.K Tb at_) (te := conc X.K Tb ae) hc hN hi ok hg ht he hs) (sim_lc sg)
/-- y = [e for ..] -/
theorem as_setLc {elt : Expr} {ifs : List Expr} {scope : Scope} {own : List (Str × Nat)} {u : AG} {gt : TG} {at_ : ATT} {ae : AT} {i : Nat} {y : Str} {py spos : Pos} (sg : SimG X.K Tb (own.map (·.2)) u gt) (hN : X.N.Nodup) (hy : X.N[i]? = some y) (hyl : X.env.scope.names.lookup y = some .local)
    (hsw : swapsWith (.ListComp elt [⟨tg, iter, ifs, 0⟩] scope pos) (some (.Name y py)) spos.line X.env = pure true) (hi : AIt X Tb tg iter ai) (ok : BlkOk X.N X.env.scope scope own)
    (hg : ∀ (s : Shared) (H : Hp) (C : Addr) (cl : List (Str × Addr)) (fp : List Addr), PG (X.blk s H scope (compEnvC scope cl C X.env) fp) tg gt) (ht : ∀ (s : Shared) (H : Hp) (C : Addr) (cl : List (Str × Addr)) (fp : List Addr), APs (X.blk s H scope (compEnvC scope cl C X.env) fp) Tb ifs at_)
    (he : ∀ (s : Shared) (H : Hp) (C : Addr) (cl : List (Str × Addr)) (fp : List Addr), AE (X.blk s H scope (compEnvC scope cl C X.env) fp) Tb elt ae) (hc : X.calm = true := by rfl) (hs : ∀ x, foldedSetIterable iter X.env x = pure x := by intro _; rfl) :
    ASt X Tb (.Assign [.Name y py] (.ListComp elt [⟨tg, iter, ifs, 0⟩] scope pos) spos) (aAsg (aLc ai u at_ ae (own.map (·.2))) (gNm i)) :=
  psimp (ps_setLc (tt := concT X.K Tb at_) (te := conc X.K Tb ae) hc hN hy hyl hsw hi ok hg ht he hs) fun D σ H ⟨s, g, B, R, w, d⟩ => sim_lc sg σ H _ ⟨s, g, _, R, w, fun τ v g' H' h m r z => d.nx _ _ _ _ ((R.mono h m).put i r) m z⟩
end
end Lz

set_option Elab.async false
set_option linter.all false
set_option maxRecDepth 100000
set_option maxHeartbeats 4000000
/-! Defs over trees: promises, bodies, calls. -/
namespace Lz
open PySem PySem.Spec PyProof.Rows L2

/-- an error: its class, its fields -/
abbrev EX := Addr × List (Str × T)
abbrev ASp := List T → G → (T → G → Prop) → (EX → G → Prop) → Prop
def XRep (K : PySem.W.Frag) (H : Hp) (d : Option Addr) (fs : List (Str × T)) : Prop := ∃ da vs, d = some da ∧ H da = some (.xd vs) ∧ fs.map (·.1) = vs.map (·.1) ∧ Reps K H (fs.map (·.2)) (vs.map (·.2))
/-- the promise of a def, over addresses -/
def cSp (K : PySem.W.Frag) (tabs : List Addr) (asp : ASp) : Sp := fun vs H Q E => ∃ ts g A B, Reps K H ts vs ∧ HRel K ⟨tabs, H⟩ g H ∧ asp ts g A B ∧
  (∀ τ v g' H', HRel K ⟨tabs, H⟩ g' H' → Rep K H' τ v → A τ g' → Q v H') ∧ (∀ C fs g' d H', HRel K ⟨tabs, H⟩ g' H' → XRep K H' d fs → B (C, fs) g' → E (.ref C) d H')
structure Fn (P : Program) (w : World) (K : PySem.W.Frag) (mg : Str → Option Value) (base : Heap) (CX : CXT) (tabs : List Addr) (k : Nat) (x : Str) (asp : ASp) : Prop where
  ex : ∃ f fd ps, FnOk P w K mg base CX k f fd ps (cSp K tabs asp) ∧ mg x = some (.ref f) ∧ PySem.W.keepIn K (.ref f) = true ∧ Binds K fd ps []
theorem Fn.mono {P : Program} {w : World} {K : PySem.W.Frag} {mg : Str → Option Value} {base : Heap} {CX : CXT} {tabs : List Addr} {j k : Nat} {x : Str} {asp : ASp} (F : Fn P w K mg base CX tabs j x asp) (h : j ≤ k) : Fn P w K mg base CX tabs k x asp :=
  let ⟨f, fd, ps, a, b⟩ := F.ex
  ⟨f, fd, ps, a.mono h, b⟩
theorem HRel.enter {K : PySem.W.Frag} {Tb : Bs} {g : G} {H : Hp} (h : HRel K Tb g H) : HRel K ⟨Tb.tabs, H⟩ g H := ⟨h.ob, h.tb, .refl⟩
theorem HRel.leave {K : PySem.W.Frag} {Tb : Bs} {g g' : G} {H H' : Hp} (h : HRel K Tb g H) (h' : HRel K ⟨Tb.tabs, H⟩ g' H') : HRel K Tb g' H' := ⟨h'.ob, h'.tb, h.mo.trans h'.mo⟩

section
variable {X : Cx} {Tb : Bs} {e : Expr} {es : List Expr} {ar : ATA} {p pos : Pos}
def aCall (asp : ASp) (B : EX → G → Prop) (ar : ATA) : AT := fun s g A => ar s g fun ts g1 => asp ts g1 A B
/-- f(e, ..): no error leaves f -/
theorem ae_call {k : Nat} {x : Str} {asp : ASp} (F : Fn X.prog X.w X.K X.mg X.base CX0 Tb.tabs k x asp) (hr : Room k X.A) (ha : AA X Tb (e :: es) ar) (hg : Gl X x := by rfl) (hdb : (x == ("__debug__" : Str)) = false := by decide)
    (he : starEach (e :: es) X.env = (false, eval e X.env) :: starEach es X.env := by rfl) (hpl : (backTo pos (starEach es X.env)).any (·.1) = false := by rfl) : AE X Tb (.Call (.Name x p) (e :: es) [] pos) (aCall asp (fun _ _ => False) ar) := by
  obtain ⟨f, fd, ps, Fo, hm, hk, hb⟩ := F.ex
  refine ae_of (pe_call Fo hr hg hm hk hb (dvs := []) (E := fun _ _ _ => False) .nil pass0 ha hdb he hpl) fun s g A σ H Q R w kk => ?_
  refine ⟨s, g, _, R, w, fun ts vs g1 H1 h1 m1 rs z => ?_⟩
  dsimp only
  rw [List.append_nil]
  exact ⟨ts, g1, A, _, rs, h1.enter, z, fun τ v g' H' h r a => kk τ v g' H' (h1.leave h) (m1.trans h.mo) r a, fun C fs g' d H' _ _ z => z.elim⟩
/-- f(e, ..): an error of f's is this def's -/
theorem ae_callX {CX : CXT} {k : Nat} {x : Str} {asp : ASp} {B : EX → G → Prop} {E : XK} (F : Fn X.prog X.w X.K X.mg X.base CX Tb.tabs k x asp) (hr : Room k X.A) (hx : Passes CX X E) (hE : ∀ C fs g' d H', HRel X.K Tb g' H' → XRep X.K H' d fs → B (C, fs) g' → E (.ref C) d H')
    (ha : AA X Tb (e :: es) ar) (hg : Gl X x := by rfl) (hdb : (x == ("__debug__" : Str)) = false := by decide)
    (he : starEach (e :: es) X.env = (false, eval e X.env) :: starEach es X.env := by rfl) (hpl : (backTo pos (starEach es X.env)).any (·.1) = false := by rfl) : AE X Tb (.Call (.Name x p) (e :: es) [] pos) (aCall asp B ar) := by
  obtain ⟨f, fd, ps, Fo, hm, hk, hb⟩ := F.ex
  refine ae_of (pe_call Fo hr hg hm hk hb (dvs := []) .nil hx ha hdb he hpl) fun s g A σ H Q R w kk => ?_
  refine ⟨s, g, _, R, w, fun ts vs g1 H1 h1 m1 rs z => ?_⟩
  dsimp only
  rw [List.append_nil]
  exact ⟨ts, g1, A, B, rs, h1.enter, z, fun τ v g' H' h r a => kk τ v g' H' (h1.leave h) (m1.trans h.mo) r a, fun C fs g' d H' h r z => hE C fs g' d H' (h1.leave h) r z⟩

/-! ### a def by its body -/
def aStart (N : List Str) (ts : List T) : SS := ts.map some ++ List.replicate (N.length - ts.length) none
/-- behind a return: what was made may be let go -/
def endsOf (A : T → G → Prop) : AEnds := { nx := fun _ g => ∃ g', Sub g' g ∧ A .non g', rt := fun τ g => ∃ g', Sub g' g ∧ A τ g' }
theorem rel_start {K : PySem.W.Frag} {tabs : List Addr} {N : List Str} {ts : List T} {vs : List V} {g : G} {H : Hp} (rs : Reps K H ts vs) (h : HRel K ⟨tabs, H⟩ g H) : Rel K ⟨tabs, H⟩ (aStart N ts) g (L2.start N vs) H := by
  refine ⟨fun i t e => ?_, by unfold aStart L2.start; simp [rs.length], h⟩
  unfold aStart at e
  unfold L2.start
  by_cases hi : i < ts.length
  · rw [List.getElem?_append_left (by simpa using hi), List.getElem?_map] at e
    cases e2 : ts[i]? with
    | none => rw [e2] at e; cases e
    | some u =>
      rw [e2] at e
      cases e
      obtain ⟨v, e3, q⟩ := rs.got e2
      exact ⟨v, by rw [List.getElem?_append_left (by rw [List.length_map, ← rs.length]; exact hi), List.getElem?_map, e3]; rfl, q⟩
  · rw [List.getElem?_append_right (by simpa using hi), List.getElem?_replicate] at e
    split at e <;> cases e
theorem fn_body {P : Program} {w : World} {K : PySem.W.Frag} {mg : Str → Option Value} {base : Heap} {CX : CXT} {tabs : List Addr} {k : Nat} {x qual : Str} {params : Arguments} {body : List Stmt} {scope : Scope} {f : Addr} {fd : FuncData} {N ps : List Str} {asp : ASp}
    (F : FunD K x qual params body scope [] [] f fd) (S : FnScope N ps scope) (hm : mg x = some (.ref f)) (hb : Binds K fd ps []) (len : ∀ ts g A B, asp ts g A B → ts.length = ps.length)
    (hbody : ∀ (cdv : Value) (A : Around) (outer : List Env) (s : Shared) (H : Hp) (E : XK) (B : EX → G → Prop), Room k (A.deeper (envOfC qual scope s.heap.objs.size f cdv)) → (∀ C fs g' d H', HRel K ⟨tabs, H⟩ g' H' → XRep K H' d fs → B (C, fs) g' → E (.ref C) d H') →
      ∃ a, ABl (cxOf CX P w K mg base N qual scope f cdv A outer s H E) ⟨tabs, H⟩ body a ∧ ∀ ts g AA, asp ts g AA B → a (endsOf AA) (aStart N ts) g) : Fn P w K mg base CX tabs (k + 1) x asp := by
  refine ⟨f, fd, ps, F.ok S (fun vs H Q E h => ?_) (fun cdv A outer s H vs Q E hr h => ?_), hm, F.kp, hb⟩
  · obtain ⟨ts, g, A, B, rs, _, z, _⟩ := h
    rw [← rs.length]
    exact len _ _ _ _ z
  · obtain ⟨ts, g, AA, B, rs, h1, z, kA, kB⟩ := h
    obtain ⟨a, ha, hq⟩ := hbody cdv A outer s H E B hr kB
    refine ⟨_, ha, aStart N ts, g, endsOf AA, rel_start rs h1, hq ts g AA z, ?_⟩
    refine ⟨fun s' g' σ' H' R m ⟨g2, sb, q⟩ => kA .non .non g2 H' (R.hp.sub sb) (Rep.non_iff.mpr rfl) q, fun τ v g' H' h m r ⟨g2, sb, q⟩ => kA τ v g2 H' (h.sub sb) r q, fun _ _ _ _ _ _ z => z.elim, fun _ _ _ _ _ _ z => z.elim⟩
/-- .. that lets no error out -/
theorem fn_body0 {P : Program} {w : World} {K : PySem.W.Frag} {mg : Str → Option Value} {base : Heap} {tabs : List Addr} {k : Nat} {x qual : Str} {params : Arguments} {body : List Stmt} {scope : Scope} {f : Addr} {fd : FuncData} {N ps : List Str} {asp : ASp}
    (F : FunD K x qual params body scope [] [] f fd) (S : FnScope N ps scope) (hm : mg x = some (.ref f)) (hb : Binds K fd ps []) (len : ∀ ts g A B, asp ts g A B → ts.length = ps.length)
    (a : ∀ (cdv : Value) (A : Around) (outer : List Env) (s : Shared) (H : Hp) (E : XK), AS) (hbody : ∀ (cdv : Value) (A : Around) (outer : List Env) (s : Shared) (H : Hp) (E : XK), Room k (A.deeper (envOfC qual scope s.heap.objs.size f cdv)) →
      ABl (cxOf CX0 P w K mg base N qual scope f cdv A outer s H E).nox ⟨tabs, H⟩ body (a cdv A outer s H E)) (hq : ∀ cdv A outer s H E ts g AA B, asp ts g AA B → a cdv A outer s H E (endsOf AA) (aStart N ts) g) : Fn P w K mg base CX0 tabs (k + 1) x asp :=
  fn_body F S hm hb len fun cdv A outer s H E B hr hE => ⟨a cdv A outer s H E, PSs.nox (hbody cdv A outer s H E hr), fun ts g AA z => hq cdv A outer s H E ts g AA B z⟩
end
end Lz

set_option Elab.async false
set_option linter.all false
set_option maxRecDepth 100000
set_option maxHeartbeats 4000000
/-! The module's constants and tables; a local that holds a def; names. -/
namespace Lz
open PySem PySem.Spec PyProof.Rows L2
section
variable {X : Cx} {Tb : Bs} {e f o c : Expr} {es : List Expr} {aa ab ao : AT} {ar : ATA} {p pos apos cpos : Pos}

/-! ### the module's constants -/
theorem ae_gi {x : Str} {n : Int} (hm : ∃ t, X.mg x = some (.int n t)) (hg : Gl X x := by rfl) (hd : (x == ("__debug__" : Str)) = false := by decide) : AE X Tb (.Name x pos) (aC (.int n)) := by
  obtain ⟨t, hm⟩ := hm
  exact ae_c (pe_glob hg hm (v := .int n) ⟨t, rfl⟩ hd) fun _ => Rep.int_iff.mpr rfl
theorem ae_gs {x n : Str} (hm : ∃ t, X.mg x = some (.str n t)) (hg : Gl X x := by rfl) (hd : (x == ("__debug__" : Str)) = false := by decide) : AE X Tb (.Name x pos) (aC (.str n)) := by
  obtain ⟨t, hm⟩ := hm
  exact ae_c (pe_glob hg hm (v := .str n) ⟨t, rfl⟩ hd) fun _ => Rep.str_iff.mpr rfl
/-- a table, a def, a class: where it stands -/
theorem ae_gr {x : Str} {a : Addr} (hm : X.mg x = some (.ref a)) (hg : Gl X x := by rfl) (hd : (x == ("__debug__" : Str)) = false := by decide) : AE X Tb (.Name x pos) (aC (.ref a)) :=
  ae_c (pe_glob hg hm (v := .ref a) rfl hd) fun _ => Rep.ref_iff.mpr rfl
/-- a name = value -/
theorem as_set {i : Nat} {x : Str} {pos' : Pos} (hN : X.N.Nodup) (hi : X.N[i]? = some x) (hx : Loc X.env.scope x) (h : AE X Tb e aa) (hs : swapsWith e (some (.Name x pos')) pos.line X.env = pure false := by rfl) (hf : X.fn x = true ∨ X.env.scope.names.lookup x = some .local := by first | exact .inl rfl | exact .inr rfl | assumption) :
    ASt X Tb (.Assign [.Name x pos'] e pos) (aAsg aa (gNm i)) := psimp (ps_set hN hi hx h hs hf) fun D σ H ⟨s, g, B, R, w, d⟩ =>
  ⟨s, g, _, R, w, fun τ v g' H' h m r z => d.nx _ _ _ _ ((R.mono h m).put i r) m z⟩

/-! ### tables with text keys, written at the top -/
/-- what is known of the table at d: f z is what stands under z (some none: nothing) -/
def KTab (K : PySem.W.Frag) (w : World) (d : Addr) (f : Str → Option (Option T)) : Prop :=
  (∃ es n, KDict K w d es n) ∧ ∀ z r, f z = some r → match r with
    | none => PySem.W.nsIn K d z = some none
    | some t => ∃ u v, PySem.W.nsIn K d z = some (some u) ∧ RelV v u ∧ ∀ H, Rep K H t v
def aKIn (n : Bool) (f : Str → Option (Option T)) (aa : AT) : AT := fun s g A => aa s g fun x g1 => match x with
  | .str z => match f z with
    | some r => A (.bl (n ^^ r.isSome)) g1
    | none => False
  | _ => False
theorem kin_op {d : Addr} {ft : Str → Option (Option T)} {n : Bool} {r : R2} (hk : KTab X.K X.w d ft) (hr : ∀ z r' Q H, PySem.W.nsIn X.K d z = some r' → Q (.bl (n ^^ r'.isSome)) H → r (.str z) (.ref d) H Q) :
    ∀ σ H Q, conc X.K Tb (aKIn n ft aa) σ H Q → tOp r (conc X.K Tb aa) (conc X.K Tb (aC (.ref d))) σ H Q := by
  rintro σ H Q ⟨s, g, A, R, w, k⟩
  refine ⟨s, g, _, R, w, fun x v g1 H1 h1 m1 rx z => ⟨s, g1, fun t g2 => t = .ref d ∧ g2 = g1, R.mono h1 m1, ⟨rfl, rfl⟩, fun y u g2 H2 h2 m2 ry z2 => ?_⟩⟩
  obtain ⟨rfl, rfl⟩ := z2
  rw [Rep.ref_iff] at ry
  subst ry
  cases x with
  | str q =>
    rw [Rep.str_iff] at rx
    subst rx
    have z : (match ft q with
      | some r => A (.bl (n ^^ r.isSome)) g2
      | none => False) := z
    split at z
    · rename_i t0 e0
      have := hk.2 q t0 e0
      cases t0 with
      | none => exact hr q none _ _ this (k _ _ g2 H2 h2 (m1.trans m2) (Rep.bl_iff.mpr rfl) z)
      | some t =>
        obtain ⟨u, v, e1, _⟩ := this
        exact hr q (some u) _ _ e1 (k _ _ g2 H2 h2 (m1.trans m2) (Rep.bl_iff.mpr rfl) z)
    · exact z.elim
  | _ => exact (show False from z).elim
theorem ae_kin {d : Addr} {ft : Str → Option (Option T)} (hk : KTab X.K X.w d ft) (ha : AE X Tb e aa) (hb : AE X Tb f (aC (.ref d))) (hm : behindInMarks .In f = false := by rfl) : AE X Tb (.Compare e [.In] [f] pos) (aKIn false ft aa) := by
  obtain ⟨⟨es, n, D⟩, _⟩ := id hk
  exact pimp (pe_cmpR (op_in_kd D) ha hb hm) (kin_op hk fun z r' Q H e q => ⟨z, r', rfl, rfl, e, by simpa using q⟩)
theorem ap_kin {d : Addr} {ft : Str → Option (Option T)} (hk : KTab X.K X.w d ft) (ha : AE X Tb e aa) (hb : AE X Tb f (aC (.ref d))) (hm : behindInMarks .In f = false := by rfl) : AP X Tb (.Compare e [.In] [f] pos) (aTest (aKIn false ft aa)) := by
  obtain ⟨⟨es, n, D⟩, _⟩ := id hk
  exact ptimp (pt_cmpR (op_in_kd D) ha hb hm) (sim_test (kin_op hk fun z r' Q H e q => ⟨z, r', rfl, rfl, e, by simpa using q⟩))
/-- d[z] -/
def aKIx (f : Str → Option (Option T)) (aa : AT) : AT := fun s g A => aa s g fun x g1 => match x with
  | .str z => match f z with
    | some (some t) => A t g1
    | _ => False
  | _ => False
theorem ae_kix {d : Addr} {ft : Str → Option (Option T)} (hk : KTab X.K X.w d ft) (hb : AE X Tb f (aC (.ref d))) (ha : AE X Tb e aa) (hs : PlainIx e := by exact fun _ _ => rfl) : AE X Tb (.Subscript f e pos) (aKIx ft aa) := by
  obtain ⟨⟨es, n, D⟩, hkk⟩ := id hk
  refine ae_of (pe_ix ix_kdict hb ha hs) fun s g A σ H Q R w k => ?_
  refine ⟨s, g, fun t g2 => t = .ref d ∧ g2 = g, R, ⟨rfl, rfl⟩, fun y u g1 H1 h1 m1 ry z1 => ?_⟩
  obtain ⟨rfl, rfl⟩ := z1
  refine ⟨s, g1, _, R.mono h1 m1, w, fun x v g2 H2 h2 m2 rx z => ?_⟩
  rw [Rep.ref_iff] at ry
  subst ry
  cases x with
  | str q =>
    rw [Rep.str_iff] at rx
    subst rx
    have z : (match ft q with
      | some (some t) => A t g2
      | _ => False) := z
    split at z
    · rename_i t e0
      obtain ⟨u, v, e1, ru, rt⟩ := hkk q _ e0
      exact ⟨d, q, v, rfl, rfl, ⟨es, n, u, D.at_, D.lit, e1, ru⟩, k _ _ g2 H2 h2 (m1.trans m2) (rt _) z⟩
    · exact z.elim
  | _ => exact (show False from z).elim
/-- d.get(z), d.get(z, x) -/
theorem kd_get1 {pins : List (Addr × Obj)} {s : Shared} {σ : L2.St} {H : Hp} {d : Addr} {es0 : Array DictEntry} {n : Nat} {z : Str} {t : Tok} {A : Around} {E : Value → Shared → Prop} {Q : Value → Shared → Prop} {r : Option Value} (D : KDict X.K X.w d es0 n) (I : Inv X pins σ H s) (e : PySem.W.nsIn X.K d z = some r)
    (h : ∀ s', Inv X pins σ H s' → Q (r.getD .none) s') : wpAny (model X.prog X.w) A (call (.builtin "dict.get") [.ref d, .str z t]) Q E s := by
  have hm := PySem.W.mapOf_K (prog := X.prog) (w := X.w) I.kIn D.at_ D.lit
  refine call_meetsIn PySem.F.slot_dict_get hm.typeIs PySem.F.entry_dict_get (PySem.F.args_dict_get_2 _ _) (meets_dict_get (strKind X.prog X.w) d (strKind_is X.prog X.w z t) D.low) ⟨_, hm, ?_⟩
  rw [PySem.W.find_K D.at_ e]
  exact h _ (I.tok _)
theorem kd_get2 {pins : List (Addr × Obj)} {s : Shared} {σ : L2.St} {H : Hp} {d : Addr} {es0 : Array DictEntry} {n : Nat} {z : Str} {t : Tok} {u : Value} {A : Around} {E : Value → Shared → Prop} {Q : Value → Shared → Prop} {r : Option Value} (D : KDict X.K X.w d es0 n) (I : Inv X pins σ H s) (e : PySem.W.nsIn X.K d z = some r)
    (h : ∀ s', Inv X pins σ H s' → Q (r.getD u) s') : wpAny (model X.prog X.w) A (call (.builtin "dict.get") [.ref d, .str z t, u]) Q E s := by
  have hm := PySem.W.mapOf_K (prog := X.prog) (w := X.w) I.kIn D.at_ D.lit
  refine call_meetsIn PySem.F.slot_dict_get hm.typeIs PySem.F.entry_dict_get (PySem.F.args_dict_get_3 _ _ _) (meets_dict_get_default (strKind X.prog X.w) d (strKind_is X.prog X.w z t) D.low u) ⟨_, hm, ?_⟩
  rw [PySem.W.find_K D.at_ e]
  exact h _ (I.tok _)
def aKGet1 (f : Str → Option (Option T)) (aa : AT) : AT := fun s g A => aa s g fun x g1 => match x with
  | .str z => match f z with
    | some (some t) => A t g1
    | some none => A .non g1
    | none => False
  | _ => False
def aKGet2 (f : Str → Option (Option T)) (aa ab : AT) : AT := fun s g A => aa s g fun x g1 => ab s g1 fun y g2 => match x with
  | .str z => match f z with
    | some (some t) => A t g2
    | some none => A y g2
    | none => False
  | _ => False
def tKGet1 (K : PySem.W.Frag) (d : Addr) (td te : TE) : TE := fun σ H Q => td σ H fun x H0 => x = .ref d ∧ te σ H0 fun y H1 => ∃ (z : Str) (r : Option Value), y = .str z ∧ PySem.W.nsIn K d z = some r ∧ match r with
  | some u => ∃ v, RelV v u ∧ Q v H1
  | none => Q .non H1
def tKGet2 (K : PySem.W.Frag) (d : Addr) (td te tf : TE) : TE := fun σ H Q => td σ H fun x H0 => x = .ref d ∧ te σ H0 fun y H1 => tf σ H1 fun q H2 => ∃ (z : Str) (r : Option Value), y = .str z ∧ PySem.W.nsIn K d z = some r ∧ match r with
  | some u => ∃ v, RelV v u ∧ Q v H2
  | none => Q q H2
theorem pe_kget1 {d : Addr} {es0 : Array DictEntry} {n : Nat} {td te : TE} (D : KDict X.K X.w d es0 n) (ho : PE X o td) (he : PE X e te) (m : M1 X o "get" apos e cpos) : PE X (.Call (.Attribute o "get" apos) [e] [] cpos) (tKGet1 X.K d td te) := by
  refine ⟨fun pins s σ H Q I h => ?_⟩
  refine wpAny_Call_method m.base m.few m.line PySem.F.plainAttrs_dict PySem.F.slot_dict_get PySem.F.type_dict_get (thn (ho.run pins s σ H _ I h) fun u s1 ⟨x, H1, I1, rx, ex, q1⟩ => ?_)
  subst ex
  obtain rfl : u = Value.ref d := rx
  have hm := PySem.W.mapOf_K (prog := X.prog) (w := X.w) I1.kIn D.at_ D.lit
  refine ⟨hm.typeIs, fun b q => by cases q; exact ⟨_, I1.kIn _ _ D.at_, rfl⟩, ?_⟩
  rw [m.trees]
  refine Calls.callWith_builtin rfl (Calls.evalArgs_plain (Calls.spliced_cons (thn (he.run pins s1 σ H1 _ I1 q1) fun iv s2 ⟨y, H2, I2, ry, z, r, ey, er, q2⟩ => Calls.spliced_nil ?_)))
  subst ey
  obtain ⟨t, rfl⟩ := ry
  refine kd_get1 D I2 er fun s3 I3 => ?_
  cases r with
  | none => exact ⟨.non, H2, I3, rfl, q2⟩
  | some u => obtain ⟨v, ru, q⟩ := q2; exact ⟨v, H2, I3, ru, q⟩
theorem pe_kget2 {d : Addr} {es0 : Array DictEntry} {n : Nat} {td te tf : TE} (D : KDict X.K X.w d es0 n) (ho : PE X o td) (he : PE X e te) (hf : PE X f tf) (m : M2 X o "get" apos e f cpos) : PE X (.Call (.Attribute o "get" apos) [e, f] [] cpos) (tKGet2 X.K d td te tf) := by
  refine ⟨fun pins s σ H Q I h => ?_⟩
  refine wpAny_Call_method m.base m.few m.line PySem.F.plainAttrs_dict PySem.F.slot_dict_get PySem.F.type_dict_get (thn (ho.run pins s σ H _ I h) fun u s1 ⟨x, H1, I1, rx, ex, q1⟩ => ?_)
  subst ex
  obtain rfl : u = Value.ref d := rx
  have hm := PySem.W.mapOf_K (prog := X.prog) (w := X.w) I1.kIn D.at_ D.lit
  refine ⟨hm.typeIs, fun b q => by cases q; exact ⟨_, I1.kIn _ _ D.at_, rfl⟩, ?_⟩
  rw [m.trees]
  refine Calls.callWith_builtin rfl (Calls.evalArgs_plain (Calls.spliced_cons (thn (he.run pins s1 σ H1 _ I1 q1) fun iv s2 ⟨y, H2, I2, ry, q2⟩ =>
    Calls.spliced_cons (thn (hf.run pins s2 σ H2 _ I2 q2) fun fv s3 ⟨q0, H3, I3, rq, z, r, ey, er, q3⟩ => Calls.spliced_nil ?_))))
  subst ey
  obtain ⟨t, rfl⟩ := ry
  refine kd_get2 D I3 er fun s4 I4 => ?_
  cases r with
  | none => exact ⟨q0, H3, I4, rq, q3⟩
  | some u => obtain ⟨v, ru, q⟩ := q3; exact ⟨v, H3, I4, ru, q⟩
theorem ae_kget1 {d : Addr} {ft : Str → Option (Option T)} (hk : KTab X.K X.w d ft) (hb : AE X Tb o (aC (.ref d))) (ha : AE X Tb e aa) (m : M1 X o "get" apos e cpos := by exact ⟨rfl, rfl, rfl, rfl⟩) : AE X Tb (.Call (.Attribute o "get" apos) [e] [] cpos) (aKGet1 ft aa) := by
  obtain ⟨⟨es, n, D⟩, hkk⟩ := id hk
  refine ae_of (pe_kget1 D hb ha m) fun s g A σ H Q R w k => ?_
  refine ⟨s, g, fun t g2 => t = .ref d ∧ g2 = g, R, ⟨rfl, rfl⟩, fun y u g1 H1 h1 m1 ry z1 => ?_⟩
  obtain ⟨rfl, rfl⟩ := z1
  rw [Rep.ref_iff] at ry
  refine ⟨ry, s, g1, _, R.mono h1 m1, w, fun x v g2 H2 h2 m2 rx z => ?_⟩
  cases x with
  | str q =>
    rw [Rep.str_iff] at rx
    have z : (match ft q with
      | some (some t) => A t g2
      | some none => A .non g2
      | none => False) := z
    split at z
    · rename_i t e0
      obtain ⟨u, v, e1, ru, rt⟩ := hkk q _ e0
      exact ⟨q, some u, rx, e1, v, ru, k _ _ g2 H2 h2 (m1.trans m2) (rt _) z⟩
    · rename_i e0
      exact ⟨q, none, rx, hkk q _ e0, k _ _ g2 H2 h2 (m1.trans m2) (Rep.non_iff.mpr rfl) z⟩
    · exact z.elim
  | _ => exact (show False from z).elim
theorem ae_kget2 {d : Addr} {ft : Str → Option (Option T)} (hk : KTab X.K X.w d ft) (hb : AE X Tb o (aC (.ref d))) (ha : AE X Tb e aa) (hf : AE X Tb f ab) (m : M2 X o "get" apos e f cpos := by exact ⟨rfl, rfl, rfl, rfl⟩) : AE X Tb (.Call (.Attribute o "get" apos) [e, f] [] cpos) (aKGet2 ft aa ab) := by
  obtain ⟨⟨es, n, D⟩, hkk⟩ := id hk
  refine ae_of (pe_kget2 D hb ha hf m) fun s g A σ H Q R w k => ?_
  refine ⟨s, g, fun t g2 => t = .ref d ∧ g2 = g, R, ⟨rfl, rfl⟩, fun y u g1 H1 h1 m1 ry z1 => ?_⟩
  obtain ⟨rfl, rfl⟩ := z1
  rw [Rep.ref_iff] at ry
  refine ⟨ry, s, g1, _, R.mono h1 m1, w, fun x v g2 H2 h2 m2 rx z => ⟨s, g2, _, (R.mono h1 m1).mono h2 m2, z, fun y0 w0 g3 H3 h3 m3 ry0 z => ?_⟩⟩
  cases x with
  | str q =>
    rw [Rep.str_iff] at rx
    have z : (match ft q with
      | some (some t) => A t g3
      | some none => A y0 g3
      | none => False) := z
    have mm := m1.trans (m2.trans m3)
    split at z
    · rename_i t e0
      obtain ⟨u, v, e1, ru, rt⟩ := hkk q _ e0
      exact ⟨q, some u, rx, e1, v, ru, k _ _ g3 H3 h3 mm (rt _) z⟩
    · rename_i e0
      exact ⟨q, none, rx, hkk q _ e0, k _ _ g3 H3 h3 mm ry0 z⟩
    · exact z.elim
  | _ => exact (show False from z).elim

/-! ### a local that holds a def -/
def aCallL (i : Nat) (Hd : Addr → ASp → Prop) (ar : ATA) : AT := fun s g A => match s[i]? with
  | some (some (.ref a)) => ∃ asp, Hd a asp ∧ ar s g fun ts g1 => asp ts g1 A (fun _ _ => False)
  | _ => False
/-- the def at a keeps the promise asp -/
def FnAt (P : Program) (w : World) (K : PySem.W.Frag) (mg : Str → Option Value) (base : Heap) (tabs : List Addr) (k : Nat) (a : Addr) (asp : ASp) : Prop :=
  ∃ fd ps, FnOk P w K mg base CX0 k a fd ps (cSp K tabs asp) ∧ PySem.W.keepIn K (.ref a) = true ∧ Binds K fd ps []
theorem Fn.at {P : Program} {w : World} {K : PySem.W.Frag} {mg : Str → Option Value} {base : Heap} {tabs : List Addr} {k : Nat} {x : Str} {asp : ASp} {a : Addr} (F : Fn P w K mg base CX0 tabs k x asp) (hm : mg x = some (.ref a)) : FnAt P w K mg base tabs k a asp := by
  obtain ⟨f, fd, ps, h1, h2, h3, h4⟩ := F.ex
  rw [hm] at h2
  cases h2
  exact ⟨fd, ps, h1, h3, h4⟩
theorem ae_callL {k i : Nat} {x : Str} {Hd : Addr → ASp → Prop} (hF : ∀ a asp, Hd a asp → FnAt X.prog X.w X.K X.mg X.base Tb.tabs k a asp) (hr : Room k X.A) (hN : X.N[i]? = some x) (hv : Vis X.env.scope x) (ha : AA X Tb (e :: es) ar)
    (hdb : (x == ("__debug__" : Str)) = false := by decide) (hcd : (x == ("__classdict__" : Str)) = false := by decide)
    (he : starEach (e :: es) X.env = (false, eval e X.env) :: starEach es X.env := by rfl) (hpl : (backTo pos (starEach es X.env)).any (·.1) = false := by rfl) : AE X Tb (.Call (.Name x p) (e :: es) [] pos) (aCallL i Hd ar) := by
  refine ⟨fun pins s σ H Q I h => ?_⟩
  obtain ⟨sa, g, A, R, w, kk⟩ := h
  unfold aCallL at w
  split at w
  · rename_i a e1
    obtain ⟨asp, hh, w⟩ := w
    obtain ⟨fd, ps, Fo, hk, hb⟩ := hF a asp hh
    obtain ⟨v, e2, rv⟩ := R.sl i _ e1
    rw [Rep.ref_iff] at rv
    subst rv
    refine (pe_callL (i := i) (f := a) (dvs := []) (E := fun _ _ _ => False) Fo hr hN hv hk hb .nil pass0 ha hdb hcd he hpl).run pins s σ H Q I ⟨e2, sa, g, _, R, w, fun ts vs g1 H1 h1 m1 rs z => ?_⟩
    dsimp only
    rw [List.append_nil]
    exact ⟨ts, g1, A, _, rs, h1.enter, z, fun τ v g' H' h r a => kk τ v g' H' (h1.leave h) (m1.trans h.mo) r a, fun C fs g' d H' _ _ z => z.elim⟩
  · exact w.elim
end
end Lz

set_option Elab.async false
set_option linter.all false
set_option maxRecDepth 100000
set_option maxHeartbeats 4000000
/-! all(e for t in xs): the element may call defs. -/
namespace Lz
open PySem PySem.Spec PyProof.Rows L2 GenW

/-- the context of a generator expression's own frame, woken by all -/
abbrev gblk (X : Cx) (s : Shared) (H : Hp) (genv : Env) (fp : List Addr) (pn : List (Addr × Obj)) : Cx :=
  { X with A := X.A.in1.in1.deeper genv, s_0 := s, H_0 := H, env := genv, outer := X.stack, stack := genv :: X.stack, ex := fp, fn := fun _ => false, pn := pn, xe := fun _ _ => False }
abbrev genvOf (X : Cx) (scope : Scope) (C : Addr) (code : Value) : Env := genEnv scope (cloFrom X.env.cells scope.names []) C code builtinsNs X.env

section
variable {X : Cx} {pins : List (Addr × Obj)} {σ : L2.St} {H : Hp} {s : Shared}
theorem gen_start {scope : Scope} {own : List (Str × Nat)} {fp : List Addr} {h' : Heap} {go : Obj} {gs : GenState} {tk : Nat} {it code : Value} (I : Inv X pins σ H s) (ok : BlkOk X.N X.env.scope scope own) (hcell : ∀ y ∈ scope.names, y.2 ≠ .cell) (hN : X.N.Nodup)
    (hfp : ∀ b ∈ fp, FpOk X pins H b ∧ b < s.heap.objs.size) (hn : h'.Ns s.heap.objs.size (fun y => if y = ".0" then some it else none)) (hs : Heap.SameBut s.heap.objs.size (s.heap.push { cls := .type "frame", data := .dict #[] }) h')
    (hgo : ∀ v, go.data ≠ .cell v) (hget : (h'.push go).get? h'.objs.size = some go) (hgs : gs.bare = true) :
    Inv (gblk X s H (genvOf X scope s.heap.objs.size code) fp [(h'.objs.size, go)]) [] (L2.wipe σ (own.map (·.2))) H { s with gens := s.gens.push gs, toks := tk, heap := h'.push go } := by
  have hfree : ∀ y ∈ scope.names, y.2 = .free → ∃ c, X.env.cells.lookup y.1 = some c := fun y hy e => by
    rcases ok.free y hy e with k | k
    · exact I.ok.has _ (.inl k)
    · exact I.ok.has _ (.inr k)
  have hsz : h'.objs.size = s.heap.objs.size + 1 := by rw [hs.1, Heap.size_push]
  have kp : ∀ b o, s.heap.get? b = some o → (h'.push go).get? b = some o := fun b o e => Heap.get?_push_of_some _ (hs.extBut b o (Nat.ne_of_lt (Heap.lt_size e)) (Heap.get?_push_of_some _ e))
  have cm : ∀ {y c}, (cloFrom X.env.cells scope.names []).lookup y = some c → X.env.cells.lookup y = some c ∧ c < s.heap.objs.size := fun {y c} hm => by
    rcases cloFrom_mem (PySem.mem_of_lookup hm) with hm | ⟨h1, rfl⟩
    · cases hm
    · obtain ⟨c, hc⟩ := hfree _ h1 rfl
      rw [hc]
      obtain ⟨w, z⟩ := I.cell _ _ hc
      exact ⟨rfl, z.lt⟩
  have look : ∀ {y}, scope.names.lookup y = some .free → ∃ c, (cloFrom X.env.cells scope.names []).lookup y = some c ∧ X.env.cells.lookup y = some c := fun {y} hl => by
    obtain ⟨c', e'⟩ := mem_lookup (cloFrom_has (cells := X.env.cells) (acc := []) (PySem.mem_of_lookup hl))
    exact ⟨c', e', (cm e').1⟩
  have okB : (gblk X s H (genvOf X scope s.heap.objs.size code) fp [(h'.objs.size, go)]).Ok := by
    refine ⟨I.ok.mod, ok.kind, I.ok.glob, rfl, Nat.le_refl _, fun y z c e1 e2 => ?_, fun y hy => ?_, fun y c z => ?_, I.ok.hd, Around.frames_deeper I.ok.frames, .inr ⟨rfl, rfl⟩, fun b hb => ⟨Nat.ne_of_lt (hfp b hb).2, fun y c e z => ?_⟩, I.bs, Nat.le_trans I.ok.bsz I.sz, fun b o e hb => ?_, fun b hb z => ?_, I.stack, I.stkFree⟩
    · exact I.ok.inj y z c (cm e1).1 (cm e2).1
    · have hy : scope.names.lookup y = some .cell ∨ scope.names.lookup y = some .free := hy
      rcases hy with hy | hy
      · exact absurd rfl (hcell _ (PySem.mem_of_lookup hy))
      · obtain ⟨c, e, _⟩ := look hy
        exact ⟨c, e⟩
    · cases z
    · exact (hfp b hb).1.2.2.2.2.1 y c (cm e).1 z
    · rcases (hfp b hb).1.2.2.2.1 with z | z
      · exact I.ok.noex b o e z
      · exact absurd (Nat.lt_of_lt_of_le (Heap.lt_size e) (Nat.le_trans I.ok.bsz z)) (Nat.lt_irrefl _)
    · rcases List.mem_cons.mp (I.stkSub b z) with z | z
      · exact (hfp b hb).1.2.1 z
      · exact (hfp b hb).1.2.2.1 z
  refine ⟨okB, rfl, I.bare.push hgs, Un.kept kp, ⟨_, hn.push go, fun i y av e1 e2 e3 => ?_⟩, fun y c e => ?_, I.hok.fresh (Nat.le_refl _), fun y c e => I.freeC y c (cm e).1, fun p hp => ?_, I.hok.kept kp, by rw [wipe_length]; exact I.len⟩
  · obtain ⟨e2, hne⟩ := wipe_some e2
    have hfr : scope.names.lookup y = some .free := by
      have no : ∀ k, scope.names.lookup y = some k → k = .local ∨ k = .cell → False := fun k e hh => by
        rcases ok.own _ (PySem.mem_of_lookup e) hh with e' | e'
        · obtain ⟨p, hp, hpy⟩ := List.mem_map.mp e'
          have e3 := ok.ix p hp
          have : p.1 = y := hpy
          rw [this] at e3
          exact hne (List.mem_map.mpr ⟨p, hp, nodup_ix hN e3 e1⟩)
        · exact e' (List.mem_of_getElem? e1)
      have e3 : scope.names.lookup y = some .local ∨ scope.names.lookup y = some .cell ∨ scope.names.lookup y = some .free := e3
      rcases e3 with e3 | e3 | e3
      · exact (no _ e3 (.inl rfl)).elim
      · exact (no _ e3 (.inr rfl)).elim
      · exact e3
    obtain ⟨m, hn, hl⟩ := I.loc
    have hvis : Vis X.env.scope y := (ok.free _ (PySem.mem_of_lookup hfr) rfl).elim (fun k => .inr (.inl k)) (fun k => .inr (.inr k))
    obtain ⟨w, r, q⟩ := hl i y av e1 e2 hvis
    refine ⟨w, r, .inr ⟨.inr hfr, ?_⟩⟩
    obtain ⟨c, h1, h2⟩ := look hfr
    rcases q with ⟨k, _⟩ | ⟨_, c', e', z⟩
    · have k : X.env.scope.names.lookup y = some .local := k
      rcases ok.free _ (PySem.mem_of_lookup hfr) rfl with k' | k' <;> rw [show X.env.scope.names.lookup y = _ from k'] at k <;> cases k
    · rw [h2] at e'
      cases e'
      exact ⟨c, h1, z.keeps kp⟩
  · obtain ⟨w, z⟩ := I.cell y c (cm e).1
    exact ⟨w, z.keeps kp⟩
  · have hp : p ∈ [(h'.objs.size, go)] := by simpa using hp
    rw [List.mem_singleton.mp hp]
    refine ⟨hget, I.hok.fresh (by rw [hsz]; exact Nat.le_succ _), by show h'.objs.size ≠ s.heap.objs.size; rw [hsz]; exact Nat.succ_ne_self _, fun z => ?_, hgo⟩
    have z : h'.objs.size ∈ frs X.stack := z
    rw [hsz] at z
    rcases List.mem_cons.mp (I.stkSub _ z) with z | z
    · have q : s.heap.objs.size + 1 < s.heap.objs.size := by
        have := I.lt
        rw [← z] at this
        exact this
      exact absurd q (Nat.not_lt.mpr (Nat.le_succ _))
    · exact I.nofs (Nat.le_succ _) z

/-- the end of the walk; an item handed out -/
def RA (X : Cx) (pins : List (Addr × Obj)) (σ : L2.St) (Q : VK) : GenEnd := fun _ _ r s1 => r = .ok .next ∧ ∃ H', Inv X pins σ H' s1 ∧ Q (.bl true) H'
def YA (X : Cx) (pins : List (Addr × Obj)) (σ : L2.St) (Q : VK) (a : Addr) (g : Nat) : Protocol := fun _ _ v s1 kap => ∃ b, v = .bool b ∧ s1.heap.NoLimit ∧ s1.heap.IsGen a g ∧ AllBare s1.gens ∧
  (b = false → ∃ H', Inv X pins σ H' s1 ∧ Q (.bl false) H') ∧ (b = true → ∀ s', s'.heap = s1.heap → s'.os = s1.os → AllBare s'.gens → kap (.send .none) s')
theorem over_gen {A : Around} {elt tg iter : Expr} {scope : Scope} {pos : Pos} {it : Value} {env : Env} : A.over (.compLoop (.GeneratorExp elt [⟨tg, iter, [], 0⟩] scope pos) 0 it .none env) [] = A.deeper env := by
  rfl
theorem over_genS {A : Around} {elt tg iter : Expr} {scope : Scope} {pos : Pos} {it : Value} {env : Env} : A.over (.compStart (.GeneratorExp elt [⟨tg, iter, [], 0⟩] scope pos) 0 it .none env) [] = A.deeper env := by
  rfl
theorem inv_bk {s3 s' : Shared} {H3 H' : Hp} {genv : Env} {fp : List Addr} {pn pl : List (Addr × Obj)} {σ' : L2.St} (I3 : Inv X pins σ H3 s3) (f3 : ∀ b ∈ fp, FpOk X pins H3 b) (I : Inv (gblk X s3 H3 genv fp pn) pl σ' H' s') : Inv X pins σ H' s' :=
  I3.call' (ch := fp) I.os I.base I.hok I.bare fun b hb => ⟨(f3 b hb).2.2.2.1, (f3 b hb).2.1, (f3 b hb).2.2.2.2.1, (f3 b hb).2.2.2.2.2⟩
theorem inv_heap {X : Cx} {pins : List (Addr × Obj)} {σ : L2.St} {H : Hp} {s s' : Shared} (I : Inv X pins σ H s) (hh : s'.heap = s.heap) (ho : s'.os = s.os) (hb : AllBare s'.gens) : Inv X pins σ H s' :=
  I.call' (ch := []) ho (Un.kept fun b o e => by rw [hh]; exact e) (I.hok.kept fun b o e => by rw [hh]; exact e) hb fun b z => by simp at z

/-- the turns -/
def Turns (J : It) (g : TG) (te : TE) (σw : L2.St) (own : List Nat) (W : Nat → Nat → Hp → Prop) (Q : VK) : Prop := ∀ i m H, W i m H →
  (J.stop i H ∧ Q (.bl true) H) ∨ (J.go i H ∧ ∃ Nx : Hp → Prop, (∀ H', Nx H' → ∃ m', m' < m ∧ W (i + 1) m' H') ∧ ∀ x H', J.yld i H x H' → g x σw H' fun σ2 H2 => L2.wipe σ2 own = σw ∧ te σ2 H2 fun y H3 =>
    ∃ b, y = .bl b ∧ match b with
      | true => Nx H3
      | false => Q (.bl false) H3)
section
variable {elt tg iter : Expr} {scope : Scope} {pos px : Pos} {own : List Nat} {fp : List Addr} {it a : Addr} {gi : Nat} {go : Obj} {tn : Nat → Heap → Prop} {J : It} {g : TG} {te : TE} {W : Nat → Nat → Hp → Prop} {Q : VK} {s3 : Shared} {H3 : Hp} {genv : Env} {σw : L2.St}
theorem seg_all (I3 : Inv X pins σ H3 s3) (f3 : ∀ b ∈ fp, FpOk X pins H3 b) (hc : X.calm = true) (hgo : ∀ h : Heap, h.get? a = some go → h.IsGen a gi) (hco : genv.scope.isCoroutine = false)
    (T : Turn X.prog X.w X.K tg J fp it tn) (pg : PG (gblk X s3 H3 genv fp [(a, go)]) tg g) (pe : PE (gblk X s3 H3 genv fp [(a, go)]) elt te) (hw : L2.wipe σw own = σw) (hne : ∀ b ∈ fp, a ≠ b) (turn : Turns J g te σw own W Q) :
    ∀ (n i m : Nat) (s₀ s : Shared) (H : Hp), m < n → Inv (gblk X s3 H3 genv fp [(a, go)]) [] σw H s → tn i s.heap → (∀ b ∈ fp, H b = none) → W i m H →
      Seg (model X.prog X.w) X.A.in1.in1 (RA X pins σ Q) (YA X pins σ Q a gi) n s₀ (.compLoop (.GeneratorExp elt [⟨tg, iter, [], 0⟩] scope pos) 0 (.ref it) .none genv)
        ((model X.prog X.w).den (.compLoop (.GeneratorExp elt [⟨tg, iter, [], 0⟩] scope pos) 0 (.ref it) .none genv)) [] s := by
  have stat : ∀ {σ' : L2.St} {H' : Hp} {s' : Shared} {pl : List (Addr × Obj)}, Inv (gblk X s3 H3 genv fp [(a, go)]) pl σ' H' s' → pl = [] → (∀ b ∈ fp, H' b = none) → ∀ b ∈ fp, FpOk (gblk X s3 H3 genv fp [(a, go)]) [] H' b := fun {σ' H' s' pl} I' _ hn b hb =>
    ⟨hn b hb, (I'.ok.exf b hb).1, I'.ok.exfs b hb, .inl hb, fun x c e => (I'.ok.exf b hb).2 x c e, fun p hp => by
      have hp : p ∈ [(a, go)] := by simpa using hp
      rw [List.mem_singleton.mp hp]
      exact hne b hb⟩
  intro n
  induction n with
  | zero => intro i m s₀ s H hm; exact absurd hm (Nat.not_lt_zero _)
  | succ n ih =>
    intro i m s₀ s H hm I st nf w
    show Seg _ X.A.in1.in1 _ _ _ s₀ _ ((compTurn (.GeneratorExp elt [⟨tg, iter, [], 0⟩] scope pos) 0 (.ref it) .none genv).onRaise (leaving genv)) [] s
    rw [compTurn_gen, Sem.onRaise_eq_wrap]
    refine seg_bind_wrap (wpAny_standAt ?_)
    rcases turn i m H w with ⟨stop, q⟩ | ⟨goo, Nx, hNx, step⟩
    · refine seg_bind_wrap (wpAny_mono (T.done (gblk X s3 H3 genv fp [(a, go)]) rfl rfl rfl hc i [] s _ H (fun _ _ => False) I (stat I rfl nf) st stop) (fun r s6 ⟨hr, I6⟩ => ?_) fun _ _ z => z.elim)
      subst hr
      exact seg_end (.ok .next) ⟨rfl, H, inv_bk I3 f3 I6, q⟩
    · refine seg_bind_wrap (wpAny_mono (T.item (gblk X s3 H3 genv fp [(a, go)]) rfl rfl rfl hc i [] s _ H (fun _ _ => False) I (stat I rfl nf) st goo) (fun r s6 ⟨u, hr, h6⟩ => ?_) fun _ _ z => z.elim)
      subst hr
      refine seg_bind_wrap (wpAny_mono h6 (fun _ s7 ⟨x, H7, I7, r7, y7, st7, n7⟩ => ?_) fun _ _ z => z.elim)
      have I7' := I7.pinned (stat I7 rfl n7) (T.obj _ _ st7)
      refine seg_bind_wrap (wpAny_mono (pg.run _ s7 _ H7 x u _ I7' r7 (step x H7 y7)) (fun _ s8 ⟨σ8, H8, I8, hw8, q8⟩ => ?_) fun _ _ z => z.elim)
      refine seg_bind_wrap (wpAny_tests_nil ?_)
      simp only [if_true]
      have hy : ∀ v, yieldOut genv v = yieldValue v := fun v => by simp only [yieldOut, hco, Bool.false_eq_true, if_false]
      simp only [hy]
      rw [Sem.bind_eq_wrap', Sem.bind_eq_wrap', Sem.wrap_wrap, Sem.wrap_wrap]
      refine seg_wrap (wpAny_mono (pe.run _ s8 σ8 H8 _ I8 q8) (fun y s9 ⟨v, H9, I9, r9, b, eb, q9⟩ => ?_) fun _ _ z => z.elim)
      subst eb
      have ey : y = .bool b := r9
      subst ey
      have pin9 : s9.heap.get? a = some go := (I9.pin (a, go) (List.mem_append_left _ (List.mem_singleton.mpr rfl))).1
      refine seg_at (seg_yield rfl rfl rfl ⟨b, rfl, I9.nolimit, hgo _ pin9, I9.bare, fun hb => ?_, fun hb s' hh ho hbare => ?_⟩)
      · subst hb
        exact ⟨H9, inv_bk I3 f3 I9, q9⟩
      · subst hb
        obtain ⟨m', hm', w'⟩ := hNx H9 q9
        have pin' : ∀ b ∈ fp, ∀ o, s7.heap.get? b = some o → s9.heap.get? b = some o ∧ H9 b = none := fun b hb o e =>
          let z := I9.pin (b, o) (List.mem_append_right _ (List.mem_append_right _ (mem_pinsAt hb e)))
          ⟨z.1, z.2.1⟩
        have hl : σw.length = σ8.length := by rw [← hw8, wipe_length]
        have I10 : Inv (gblk X s3 H3 genv fp [(a, go)]) [] σw H9 s9 := (I9.unpinned (pins := [])).weak hl (fun j v e => by
          rw [← hw8] at e
          exact (wipe_some e).1)
        refine seg_again rfl (ih (i + 1) m' s' s' H9 (by omega) (inv_heap I10 hh ho hbare) ?_ (fun b hb => ?_) w')
        · rw [hh]
          exact T.keep _ _ _ st7 fun b hb o e => (pin' b hb o e).1
        · obtain ⟨o, e, _⟩ := T.obj _ _ st7 b hb
          exact (pin' b hb o e).2
end
end
end Lz

set_option Elab.async false
set_option linter.all false
set_option maxRecDepth 100000
set_option maxHeartbeats 4000000
/-! all(e for t in xs): the call, the reading over trees. -/
namespace Lz
open PySem PySem.Spec PyProof.Rows L2 GenW
section
variable {X : Cx} {pins : List (Addr × Obj)} {σ : L2.St} {H : Hp} {s : Shared} {Q : VK} {a : Addr} {g : Nat}
theorem all_loop (hh : X.A.handled = none) (hroom : X.A.depth < recursionLimit) : ∀ (n : Nat) (s : Shared), s.heap.NoLimit → s.heap.IsGen a g →
    (∃ gs, s.gens[g]? = some gs ∧ gs.Goes (model X.prog X.w) X.A.in1.in1 (RA X pins σ Q) (YA X pins σ Q a g) n (.send .none) (s.setGen g .running)) →
    codeAny (model X.prog X.w) X.A (.builtin "all.loop" ⟨[.ref a], []⟩) (fun r s' => ∃ b H', r = .ok (.ret (.bool b)) ∧ Inv X pins σ H' s' ∧ Q (.bl b) H') s := by
  intro n
  have goes : ∀ {gs : GenState} {n : Nat} {r : Resume} {s : Shared}, gs.Goes (model X.prog X.w) X.A.in1.in1 (RA X pins σ Q) (YA X pins σ Q a g) n r s →
      gs.Goes (model X.prog X.w) X.A.in1.in1 (fun n s₀ r s1 => r = .ok .next ∧ (∃ H', Inv X pins σ H' s1 ∧ Q (.bl true) H')) (YA X pins σ Q a g) n r s := fun h => h
  have fin : ∀ s₁, (∃ H', Inv X pins σ H' s₁ ∧ Q (.bl true) H') → ∀ h', (∀ b o, s₁.heap.get? b = some o → h'.get? b = some o) → ∃ H', Inv X pins σ H' { s₁.setGen g .finished with heap := h' } ∧ Q (.bl true) H' := fun s₁ ⟨H', I, q⟩ h' hk =>
    ⟨H', I.call' (ch := []) rfl (Un.kept hk) (I.hok.kept hk) (allBare_setGen I.bare rfl) fun b z => (by simp at z), q⟩
  have stop : ∀ s₁ (gs' : GenState), gs'.bare = true → (∃ H', Inv X pins σ H' s₁ ∧ Q (.bl false) H') → ∃ H', Inv X pins σ H' (s₁.setGen g gs') ∧ Q (.bl false) H' := fun s₁ gs' hb ⟨H', I, q⟩ =>
    ⟨H', inv_heap I rfl rfl (allBare_setGen I.bare hb), q⟩
  induction n with
  | zero =>
    intro s hl hg ⟨gs, hgs, hgo⟩
    refine codeAny_builtin F.entry_all_loop ?_
    rw [Around.under_plainId F.plain_all_loop _]
    show wpAny _ X.A.in1 (pyNext (.ref a) >>= _) _ _ s
    refine wpAny_bind (wpAny_pyNext_genexpQ (A := X.A.in1) hh hl hroom hg hgs (goes hgo) (fun v s₁ gs' hb hv => ?_) (fun s₁ hp h' hk => ?_))
    · obtain ⟨b, rfl, hl1, hg1, hb1, hF, hT⟩ := hv
      refine wpAny_bind (wpAny_holding (wpAny_truthy_bool ?_))
      refine wpAny_bind (wpAny_letGo ?_)
      cases b with
      | true => exact (hT rfl s₁ rfl rfl hb1).elim
      | false =>
        simp only [Bool.false_eq_true, if_false]
        refine wpAny_bind (wpAny_rule (wpAny_pure ?_))
        obtain ⟨H', I, q⟩ := stop s₁ gs' hb (hF rfl)
        exact ⟨false, H', rfl, I, q⟩
    · obtain ⟨H', I, q⟩ := fin s₁ hp h' hk
      exact wpAny_bind (wpAny_rule (wpAny_pure ⟨true, H', rfl, I, q⟩))
  | succ n ih =>
    intro s hl hg ⟨gs, hgs, hgo⟩
    have hgl : g < s.gens.size := (Array.getElem?_eq_some_iff.mp hgs).1
    refine codeAny_builtin F.entry_all_loop ?_
    rw [Around.under_plainId F.plain_all_loop _]
    show wpAny _ X.A.in1 (pyNext (.ref a) >>= _) _ _ s
    refine wpAny_bind (wpAny_gsz (n := g + 1) hgl (wpAny_pyNext_genexpQ (A := X.A.in1) hh hl hroom hg hgs (goes hgo) (fun v s₁ gs' hb hv => ?_) (fun s₁ hp h' hk => ?_)))
    · intro hsz
      obtain ⟨b, rfl, hl1, hg1, hb1, hF, hT⟩ := hv
      have hsz1 : g < s₁.gens.size := by
        have q : (s₁.setGen g gs').gens.size = s₁.gens.size := setGen_size _ _ _
        have hsz' : g + 1 ≤ (s₁.setGen g gs').gens.size := hsz
        omega
      refine wpAny_bind (wpAny_holding (wpAny_truthy_bool ?_))
      refine wpAny_bind (wpAny_letGo ?_)
      cases b with
      | true =>
        simp only [if_true]
        refine wpAny_pure ⟨plainId_quiet F.plain_all_loop _, ih (s₁.setGen g gs') hl1 hg1 ⟨gs', setGen_at hsz1, ?_⟩⟩
        exact hT rfl _ rfl rfl (allBare_setGen (s := s₁.setGen g gs') (allBare_setGen hb1 hb) rfl)
      | false =>
        simp only [Bool.false_eq_true, if_false]
        refine wpAny_bind (wpAny_rule (wpAny_pure ?_))
        obtain ⟨H', I, q⟩ := stop s₁ gs' hb (hF rfl)
        exact ⟨false, H', rfl, I, q⟩
    · intro hsz
      obtain ⟨H', I, q⟩ := fin s₁ hp h' hk
      exact wpAny_bind (wpAny_rule (wpAny_pure ⟨true, H', rfl, I, q⟩))

/-- all(e for t in xs) -/
def tAllG (P : Addr) (wi : TI) (gt : TG) (te : TE) (own : List Nat) : TE := fun σ H Q => wi σ H fun J H1 => TabG H1 P ∧ ∀ H2, GxR.Tabbed P H1 H2 →
  ∃ W : Nat → Nat → Hp → Prop, (∃ m, W 0 m H2) ∧ Turns J gt te (L2.wipe σ own) own W Q
theorem pe_allG {c P : Addr} {elt tg iter : Expr} {p pos gpos : Pos} {scope : Scope} {own : List (Str × Nat)} {wi : TI} {gt : TG} {te : TE}
    (hc : X.calm = true) (hN : X.N.Nodup) (hroom : X.A.handled = none ∧ X.A.depth + 1 < recursionLimit) (hg : Gl X "all") (hm : X.mg "all" = none) (hb : bootBuiltins "all" = some (.builtin "all")) (TB : GxR.TabB X.base X.mg c P) (hcode : X.env.code = .ref c)
    (hco : scope.isCoroutine = false) (h0 : scope.names.lookup (".0" : Str) = some NameKind.local) (hcell : ∀ y ∈ scope.names, y.2 ≠ .cell) (hi : PI X tg iter wi) (ok : BlkOk X.N X.env.scope scope own)
    (hg' : ∀ (s : Shared) (H : Hp) (C : Addr) (code : Value) (fp : List Addr) (pn : List (Addr × Obj)), PG (gblk X s H (genvOf X scope C code) fp pn) tg gt)
    (he' : ∀ (s : Shared) (H : Hp) (C : Addr) (code : Value) (fp : List Addr) (pn : List (Addr × Obj)), PE (gblk X s H (genvOf X scope C code) fp pn) elt te)
    (hs : ∀ v, genFold iter X.env v = pure v)
    (he : starEach [.GeneratorExp elt [⟨tg, iter, [], 0⟩] scope gpos] X.env = (false, eval (.GeneratorExp elt [⟨tg, iter, [], 0⟩] scope gpos) X.env) :: starEach [] X.env := by rfl) :
    PE X (.Call (.Name "all" p) [.GeneratorExp elt [⟨tg, iter, [], 0⟩] scope gpos] [] pos) (tAllG P wi gt te (own.map (·.2))) := by
  refine ⟨fun pins s σ H Q I h => ?_⟩
  refine wpAny_Call_Name_kw (ld_blt I hg hm hb ?_)
  refine PyProof.Rows.callWith_builtin1 ?_ he (by rfl)
  rw [he]
  show wpAny _ _ (spliced ((false, eval (.GeneratorExp elt [⟨tg, iter, [], 0⟩] scope gpos) X.env) :: backTo pos (starEach [] X.env))) _ _ s
  have hfree : ∀ y ∈ scope.names, y.2 = .free → ∃ c, X.env.cells.lookup y.1 = some c := fun y hy e => by
    rcases ok.free y hy e with k | k
    · exact I.ok.has _ (.inl k)
    · exact I.ok.has _ (.inr k)
  refine Calls.spliced_cons (wpAny_GeneratorExp_make hco (closure_ok hfree) hcell h0 ok.kind (Nat.lt_of_succ_lt hroom.2) ?_ hs)
  refine thn (hi.run pins s σ H _ I h) fun xv s1 hx => thn hx fun itv s2 h2 => ?_
  obtain ⟨it, fp, tn, J, H2, e, I2, T, st2, f2, ⟨ps, hP, ht⟩, q⟩ := h2
  subst e
  refine ⟨I2.nolimit, ?_⟩
  have hPs : s2.heap.get? P = some { cls := .none, data := .fields ps } := I2.hok P _ hP
  have cd : PySem.W.CodeHd s2.heap c P := TB.code.keeps fun b u e => I2.bk b u e
  have cont : ∀ (code : Value) (h3 : Heap) (tk : Nat) (more : Array Value), Heap.ExtBut P s2.heap h3 → s2.heap.objs.size ≤ h3.objs.size → h3.get? P = some { cls := .none, data := .fields (ps ++ more) } → TriplesOk (ps ++ more).toList →
      wpAny (model X.prog X.w) X.A (builtinsFor X.env.globals X.env.builtins) (fun bi s₄ =>
        ∀ h', h'.Ns s₄.heap.objs.size (fun y => if y = ".0" then some (.ref it) else none) → Heap.SameBut s₄.heap.objs.size (s₄.heap.push { cls := .type "frame", data := .dict #[] }) h' →
          wpAny (model X.prog X.w) X.A (spliced (backTo pos (starEach [] X.env))) (fun vs s' => wpAny (model X.prog X.w) X.A (call (.builtin "all") (Value.ref h'.objs.size :: vs)) (fun u s'' => ∃ v H', Inv X pins σ H' s'' ∧ RelV v u ∧ Q v H') X.xe s') X.xe { s₄ with
            gens := s₄.gens.push (.fresh (.compStart (.GeneratorExp elt [⟨tg, iter, [], 0⟩] scope gpos) 0 (.ref it) .none (genEnv scope (cloFrom X.env.cells scope.names []) s₄.heap.objs.size code bi X.env))),
            toks := s₄.toks + 1 + 1 + 1,
            heap := h'.push { cls := .type "generator", data := .fields #[.int s₄.gens.size 0, .str "<genexpr>" (s₄.toks + 1), .str (X.env.qual ++ "<genexpr>") (s₄.toks + 1 + 1)] } }) X.xe { s2 with heap := h3, toks := tk } := by
    intro code h3 tk more hx hsz hP3 ht3
    obtain ⟨bm, ob, e1, e2, e3, e4, e5, e6, e7, e8⟩ := TB.bm
    have keep3 : ∀ b u, b ≠ P → s2.heap.get? b = some u → h3.get? b = some u := fun b u hb e => hx b u hb e
    refine wpAny_builtinsFor (m := X.mg) (by rw [I2.ok.glob]; exact ((I2.mod.glob.keeps I2.bk)).extBut hx TB.gP) e1 e2 (keep3 _ _ e4 (I2.bk _ _ e5)) e6 e7 e8 ?_
    intro h' hn hsb
    have I3 : Inv X pins σ (upd H2 P (.tbl (ps ++ more))) { s2 with heap := h3, toks := tk } := GxR.inv_tab (more := more) (g' := s2.gens) (d' := s2.drawn) I2 hP (fun b u hb e => keep3 b u hb e) hP3 I2.bare
    generalize hH3 : upd H2 P (.tbl (ps ++ more)) = H3 at I3
    have hTab : GxR.Tabbed P H2 H3 := by
      subst hH3
      exact ⟨⟨ps ++ more, upd_same, ht3⟩, fun b hb => upd_ne hb⟩
    obtain ⟨W, ⟨m0, w0⟩, turn⟩ := q H3 hTab
    generalize hs3 : ({ s2 with heap := h3, toks := tk } : Shared) = s3 at I3 hn hsb ⊢
    have eh3 : s3.heap = h3 := by rw [← hs3]
    have nP : ∀ b ∈ fp, b ≠ P := fun b hb z => by
      have := (f2 b hb).1
      rw [z, hP] at this
      cases this
    have sz : ∀ b ∈ fp, b < s2.heap.objs.size := fun b hb => by
      obtain ⟨o, e, _⟩ := T.obj _ _ st2 b hb
      exact Heap.lt_size e
    have f3 : ∀ b ∈ fp, FpOk X pins H3 b ∧ b < s3.heap.objs.size := fun b hb => by
      refine ⟨⟨?_, (f2 b hb).2⟩, by rw [eh3]; exact Nat.lt_of_lt_of_le (sz b hb) hsz⟩
      rw [hTab.2 b (nP b hb)]
      exact (f2 b hb).1
    have st3 : tn 0 s3.heap := T.keep _ _ _ st2 fun b hb o e => by rw [eh3]; exact keep3 b o (nP b hb) e
    have hsz' : h'.objs.size = s3.heap.objs.size + 1 := by rw [hsb.1, Heap.size_push]
    have main : ∀ (go : Obj) (nm qn : Value) (tk2 : Nat), go.cls = .type "generator" → go.data = .fields #[.int s3.gens.size 0, nm, qn] → go.slots = #[] → (∀ h : Heap, (h.push go).get? h.objs.size = some go) →
        wpAny (model X.prog X.w) X.A (spliced (backTo pos (starEach [] X.env))) (fun vs s' => wpAny (model X.prog X.w) X.A (call (.builtin "all") (Value.ref h'.objs.size :: vs)) (fun u s'' => ∃ v H', Inv X pins σ H' s'' ∧ RelV v u ∧ Q v H') X.xe s') X.xe { s3 with
          gens := s3.gens.push (.fresh (.compStart (.GeneratorExp elt [⟨tg, iter, [], 0⟩] scope gpos) 0 (.ref it) .none (genvOf X scope s3.heap.objs.size code))), toks := tk2, heap := h'.push go } := by
      intro go nm qn tk2 hcls hdat hslt hpush
      have hgen : ∀ h : Heap, h.get? h'.objs.size = some go → h.IsGen h'.objs.size s3.gens.size := fun h e => ⟨go, nm, qn, e, hcls, hdat, hslt⟩
      have I5 := gen_start (gs := .fresh (.compStart (.GeneratorExp elt [⟨tg, iter, [], 0⟩] scope gpos) 0 (.ref it) .none (genvOf X scope s3.heap.objs.size code))) (tk := tk2) (go := go) (code := code) (it := .ref it) I3 ok hcell hN f3 hn hsb (fun v e => by rw [hdat] at e; cases e) (hpush h') rfl
      generalize hs5 : ({ s3 with gens := s3.gens.push (.fresh (.compStart (.GeneratorExp elt [⟨tg, iter, [], 0⟩] scope gpos) 0 (.ref it) .none (genvOf X scope s3.heap.objs.size code))), toks := tk2, heap := h'.push go } : Shared) = s5 at I5 ⊢
      have eh5 : s5.heap = h'.push go := by rw [← hs5]
      have eg5 : s5.gens = s3.gens.push (.fresh (.compStart (.GeneratorExp elt [⟨tg, iter, [], 0⟩] scope gpos) 0 (.ref it) .none (genvOf X scope s3.heap.objs.size code))) := by rw [← hs5]
      have hg5 : s5.heap.IsGen h'.objs.size s3.gens.size := hgen _ (by rw [eh5]; exact hpush h')
      have st5 : tn 0 s5.heap := T.keep _ _ _ st3 fun b hb o e => by
        rw [eh5]
        exact Heap.get?_push_of_some _ (hsb.extBut b o (Nat.ne_of_lt (Heap.lt_size e)) (Heap.get?_push_of_some _ e))
      have hne : ∀ b ∈ fp, h'.objs.size ≠ b := fun b hb z => by
        have h1 := (f3 b hb).2
        rw [← z, hsz'] at h1
        exact absurd h1 (Nat.not_lt.mpr (Nat.le_succ _))
      have sa := seg_all (X := X) (pins := pins) (σ := σ) (elt := elt) (iter := iter) (scope := scope) (pos := gpos) (own := own.map (·.2)) (Q := Q) (go := go) (gi := s3.gens.size) (a := h'.objs.size) (σw := L2.wipe σ (own.map (·.2))) I3 (fun b hb => (f3 b hb).1) hc hgen (show (genvOf X scope s3.heap.objs.size code).scope.isCoroutine = false from hco) T
        (hg' s3 H3 s3.heap.objs.size code fp _) (he' s3 H3 s3.heap.objs.size code fp _) (wipe_idem σ _) hne turn
      refine Calls.spliced_nil ?_
      refine call_function_tree F.kind_all F.plain_all F.entry_all (F.args_all1 _) ?_
      unfold Builtin.«all»
      refine wpAny_bind (m := oneArg "all" _) (wpAny_pure ?_)
      refine wpAny_bind (wpAny_pyIter_gen hg5 ?_)
      refine wpAny_pure ⟨plainId_quiet F.plain_all_loop _, ?_⟩
      refine codeAny_mono (all_loop (pins := pins) (σ := σ) (Q := Q) (a := h'.objs.size) (g := s3.gens.size) hroom.1 (Nat.lt_of_succ_lt hroom.2) (m0 + 1) s5 I5.nolimit hg5 ⟨.fresh (.compStart (.GeneratorExp elt [⟨tg, iter, [], 0⟩] scope gpos) 0 (.ref it) .none (genvOf X scope s3.heap.objs.size code)), by rw [eg5]; exact Array.getElem?_push_size .., ⟨rfl, ?_⟩⟩) fun r s' ⟨b, H', er, IJ, qq⟩ => ?_
      · -- the first waking
        have I6 : Inv (gblk X s3 H3 (genvOf X scope s3.heap.objs.size code) fp [(h'.objs.size, go)]) [] (L2.wipe σ (own.map (·.2))) H3 (s5.setGen s3.gens.size .running) := inv_heap I5 rfl rfl (allBare_setGen I5.bare rfl)
        have loop := sa (m0 + 1) 0 m0 (s5.setGen s3.gens.size .running) (s5.setGen s3.gens.size .running) H3 (Nat.lt_succ_self _) I6 st5 (fun b hb => (f3 b hb).1.1) w0
        show Seg _ X.A.in1.in1 _ _ _ _ _ ((compStart (.GeneratorExp elt [⟨tg, iter, [], 0⟩] scope gpos) 0 (.ref it) .none (genvOf X scope s3.heap.objs.size code)).onRaise (leaving (genvOf X scope s3.heap.objs.size code))) [] _
        unfold compStart
        rw [Sem.onRaise_eq_wrap]
        show Seg _ X.A.in1.in1 _ _ _ _ _ ((ask >>= _).wrap _ _ _ _) [] _
        refine seg_bind_wrap (wpAny_askSetting ?_)
        split
        · exact seg_again rfl loop
        · first
            | exact seg_bind_wrap (wpAny_rule (seg_bind_wrap (wpAny_standAt (seg_bind_wrap (T.self _ 0 _ _ _ st5 (seg_again rfl loop))))))
            | (refine seg_bind_wrap (wpAny_rule ?_); show Seg _ X.A.in1.in1 _ _ _ _ _ ((standAt iter.pos >>= _).wrap _ _ _ _) [] _; exact seg_bind_wrap (wpAny_standAt (seg_bind_wrap (T.self _ 0 _ _ _ st5 (seg_again rfl loop)))))
      · subst er
        exact ⟨.bl b, H', IJ, rfl, qq⟩
    exact main _ _ _ _ rfl rfl rfl fun h => Heap.get?_push_size _ rfl
  cases hf : codeAmong gpos ps.toList with
  | none =>
    refine wpAny_genexprCodeX hcode (cd.code hPs ht) (cd.tab hPs) hf fun c' h' tk hx hge hlt hco' _ htab' _ => ?_
    obtain ⟨o1, vs, f1, tf, fl, tg1, inF, tx, tt, op, _, _, _, _, _, _, _, _, _, htr, _⟩ := hco'
    exact cont _ h' tk _ hx (Nat.le_trans hge (Nat.le_of_lt hlt)) htab'.2 htr
  | some cv =>
    refine wpAny_genexprCode_hit hcode (cd.code hPs ht) hf ?_
    exact cont cv s2.heap s2.toks #[] (Heap.ExtBut.refl _ _) (Nat.le_refl _) (by simpa using hPs) (by simpa using ht)
end

/-! ### the reading -/
section
variable {X : Cx} {K : PySem.W.Frag} {Tb : Bs} {tg iter : Expr} {ai : AI} {u : AG} {gt : TG} {ae : AT} {own : List Nat}
def aAllL (C : G → Prop) (u : AG) (te : AT) (s : SS) (A : T → G → Prop) : List T → G → Prop
  | [], g => C g ∧ A (.bl true) g
  | t :: ts, g => C g ∧ u t s g fun s2 g2 => te s2 g2 fun y g3 => match y with
    | .bl true => aAllL C u te s A ts g3
    | .bl false => A (.bl false) g3
    | _ => False
def aAll (ai : AI) (u : AG) (te : AT) (own : List Nat) : AT := fun s g A => ai s g fun ts C g1 => aAllL C u te (wipeS s own) A ts g1
theorem HRel.tabbed {g : G} {H H' : Hp} {P : Addr} (h : HRel K Tb g H) (hP : TabG H P) (t : GxR.Tabbed P H H') : HRel K Tb g H' ∧ Mono K H H' := by
  obtain ⟨ps, e, _⟩ := hP
  have m : Mono K H H' := by
    have ne : ∀ a u, H a = some u → (∀ q, u ≠ .tbl q) → H' a = some u := fun a u e1 h1 => by
      rw [t.2 a (fun z => by rw [z, e] at e1; exact h1 _ (Option.some.inj e1).symm)]
      exact e1
    refine ⟨fun a xs q => ?_, fun a xs q => ?_⟩
    · rcases q with (q | ⟨ob, q⟩) | q
      · exact .inl (.inl (ne a _ q fun _ z => (nomatch z)))
      · exact .inl (.inr ⟨ob, ne a _ q fun _ z => (nomatch z)⟩)
      · exact .inr q
    · rcases q with ⟨ob, q⟩ | q
      · exact .inl ⟨ob, ne a _ q fun _ z => (nomatch z)⟩
      · exact .inr q
  refine ⟨⟨fun a o e1 => ?_, fun P' hP' => ?_, h.mo.trans m⟩, m⟩
  · cases o with
    | lst ts =>
      obtain ⟨vs, e2, r⟩ := h.ob a _ e1
      refine ⟨vs, ?_, Reps.mono m ts r⟩
      rw [t.2 a (fun z => by rw [z, e] at e2; cases e2)]
      exact e2
  · by_cases z : P' = P
    · subst z
      exact t.1
    · obtain ⟨ps', e2, r⟩ := h.tb P' hP'
      exact ⟨ps', by rw [t.2 _ z]; exact e2, r⟩
theorem sim_all {P : Addr} (hP : P ∈ Tb.tabs) (sg : SimG K Tb own u gt) : ∀ σ H Q, conc K Tb (aAll ai u ae own) σ H Q → tAllG P (concI K Tb ai) gt (conc K Tb ae) own σ H Q := by
  rintro σ H Q ⟨s, g, A, R, w, k⟩
  refine ⟨s, g, _, R, w, fun ts C g1 H1 J h1 m1 ir z => ⟨h1.tb P hP, fun H2 ht => ?_⟩⟩
  obtain ⟨h2, m2⟩ := h1.tabbed (h1.tb P hP) ht
  refine ⟨fun i m H' => m = ts.length - i ∧ i ≤ ts.length ∧ ∃ g, HRel K Tb g H' ∧ Mono K H1 H' ∧ aAllL C u ae (wipeS s own) A (ts.drop i) g, ⟨ts.length, by simp, Nat.zero_le _, g1, h2, m2, z⟩, ?_⟩
  rintro i m H3 ⟨rfl, hi3, g3, hr3, m3, z3⟩
  have Rw : Rel K Tb (wipeS s own) g3 (L2.wipe σ own) H3 := Rel.wipe (R.mono hr3 (m1.trans m3)) own
  by_cases hlt : i < ts.length
  · rw [List.drop_eq_getElem_cons hlt] at z3
    obtain ⟨c, z3⟩ := z3
    refine .inr ⟨ir.go i g3 H3 hlt m3 hr3 c, fun H' => ∃ g, HRel K Tb g H' ∧ Mono K H1 H' ∧ aAllL C u ae (wipeS s own) A (ts.drop (i + 1)) g, fun H' q => ⟨ts.length - (i + 1), by omega, rfl, hlt, q⟩, fun x H' y => ?_⟩
    obtain ⟨h4, m4, rx⟩ := ir.yld i g3 H3 x H' ts[i] (by simp [hlt]) m3 hr3 c y
    refine sg ts[i] x _ g3 _ H' _ _ (Rw.mono h4 m4) rx z3 fun s4 g4 σ4 H4 R4 m5 hw4 z4 => ⟨?_, ?_⟩
    · rw [hw4, wipe_idem]
    refine ⟨s4, g4, _, R4, z4, fun t v g5 H5 h5 m6 ry z5 => ?_⟩
    have mm := m3.trans (m4.trans (m5.trans m6))
    cases t with
    | bl b =>
      rw [Rep.bl_iff] at ry
      subst ry
      cases b with
      | true => exact ⟨true, rfl, g5, h5, mm, z5⟩
      | false => exact ⟨false, rfl, k _ _ g5 H5 h5 (m1.trans mm) (Rep.bl_iff.mpr rfl) z5⟩
    | _ => exact (show False from z5).elim
  · have e : i = ts.length := by omega
    subst e
    rw [List.drop_length] at z3
    exact .inl ⟨ir.stop g3 H3 m3 hr3 z3.1, k _ _ g3 H3 hr3 (m1.trans m3) (Rep.bl_iff.mpr rfl) z3.2⟩
/-- all(e for t in xs) -/
theorem ae_all {c P : Addr} {elt : Expr} {p pos gpos : Pos} {scope : Scope} {own : List (Str × Nat)} {u : AG} (hP : P ∈ Tb.tabs) (TB : GxR.TabB X.base X.mg c P) (hcode : X.env.code = .ref c) (hm : X.mg "all" = none) (hroom : X.A.handled = none ∧ X.A.depth + 1 < recursionLimit)
    (sg : SimG X.K Tb (own.map (·.2)) u gt) (hN : X.N.Nodup) (hi : AIt X Tb tg iter ai) (ok : BlkOk X.N X.env.scope scope own)
    (hg' : ∀ (s : Shared) (H : Hp) (C : Addr) (code : Value) (fp : List Addr) (pn : List (Addr × Obj)), PG (gblk X s H (genvOf X scope C code) fp pn) tg gt)
    (he' : ∀ (s : Shared) (H : Hp) (C : Addr) (code : Value) (fp : List Addr) (pn : List (Addr × Obj)), AE (gblk X s H (genvOf X scope C code) fp pn) Tb elt ae)
    (hcell : ∀ y ∈ scope.names, y.2 ≠ .cell) (hco : scope.isCoroutine = false := by rfl) (h0 : scope.names.lookup (".0" : Str) = some NameKind.local := by rfl) (hc : X.calm = true := by rfl) (hg : Gl X "all" := by rfl)
    (hs : ∀ v, genFold iter X.env v = pure v := by intro _; rfl) (hb : bootBuiltins "all" = some (.builtin "all") := by rfl)
    (he : starEach [.GeneratorExp elt [⟨tg, iter, [], 0⟩] scope gpos] X.env = (false, eval (.GeneratorExp elt [⟨tg, iter, [], 0⟩] scope gpos) X.env) :: starEach [] X.env := by rfl) :
    AE X Tb (.Call (.Name "all" p) [.GeneratorExp elt [⟨tg, iter, [], 0⟩] scope gpos] [] pos) (aAll ai u ae (own.map (·.2))) :=
  pimp (pe_allG (te := conc X.K Tb ae) hc hN hroom hg hm hb TB hcode hco h0 hcell hi ok hg' he' hs he) (sim_all hP sg)

/-- a def whose code object is known -/
theorem fn_bodyC {P : Program} {w : World} {K : PySem.W.Frag} {mg : Str → Option Value} {base : Heap} {CX : CXT} {tabs : List Addr} {k : Nat} {x qual : Str} {params : Arguments} {body : List Stmt} {scope : Scope} {f : Addr} {fd : FuncData} {N ps : List Str} {asp : ASp} {cdv : Value}
    (F : FunD K x qual params body scope [] [] f fd) (hcd : fd.code = cdv) (S : FnScope N ps scope) (hm : mg x = some (.ref f)) (hb : Binds K fd ps []) (len : ∀ ts g A B, asp ts g A B → ts.length = ps.length)
    (hbody : ∀ (A : Around) (outer : List Env) (s : Shared) (H : Hp) (E : XK) (B : EX → G → Prop), Room k (A.deeper (envOfC qual scope s.heap.objs.size f cdv)) → (∀ C fs g' d H', HRel K ⟨tabs, H⟩ g' H' → XRep K H' d fs → B (C, fs) g' → E (.ref C) d H') →
      ∃ a, ABl (cxOf CX P w K mg base N qual scope f cdv A outer s H E) ⟨tabs, H⟩ body a ∧ ∀ ts g AA, asp ts g AA B → a (endsOf AA) (aStart N ts) g) : Fn P w K mg base CX tabs (k + 1) x asp := by
  refine ⟨f, fd, ps, ?_, hm, F.kp, hb⟩
  obtain ⟨oc, od, dV, kV, doc, pm, an, cdv', ct, osl, rfl, lk, hcdk, _, _⟩ := F.ex
  have e : cdv' = cdv := hcd
  subst e
  refine fn_of lk hcdk S (fun vs H Q E h => ?_) fun A outer s H vs Q E hr h => ?_
  · obtain ⟨ts, g, A, B, rs, _, z, _⟩ := h
    rw [← rs.length]
    exact len _ _ _ _ z
  · obtain ⟨ts, g, AA, B, rs, h1, z, kA, kB⟩ := h
    obtain ⟨a, ha, hq⟩ := hbody A outer s H E B hr kB
    refine ⟨_, ha, aStart N ts, g, endsOf AA, rel_start rs h1, hq ts g AA z, ?_⟩
    refine ⟨fun s' g' σ' H' R m ⟨g2, sb, q⟩ => kA .non .non g2 H' (R.hp.sub sb) (Rep.non_iff.mpr rfl) q, fun τ v g' H' h m r ⟨g2, sb, q⟩ => kA τ v g2 H' (h.sub sb) r q, fun _ _ _ _ _ _ z => z.elim, fun _ _ _ _ _ _ z => z.elim⟩
end
end Lz

set_option Elab.async false
set_option linter.all false
set_option maxRecDepth 100000
set_option maxHeartbeats 4000000
/-! More to walk: whatever stands there; zip. x += e. -/
namespace Lz
open PySem PySem.Spec PyProof.Rows L2
section
variable {X : Cx} {K : PySem.W.Frag} {Tb : Bs} {tg iter e : Expr} {aa : AT} {ar : ATA} {pos p : Pos}

/-! ### a tuple, a list, a text -/
def iAnyC (K : PySem.W.Frag) (te : TE) : TI := fun σ H R => te σ H fun x H1 => (∃ a xs, x = .ref a ∧ SqT K H1 a xs ∧ R (Itt K a) H1) ∨ (∃ a xs, x = .ref a ∧ SqL K H1 a xs ∧ R (Itl K a) H1) ∨ (∃ z, x = .str z ∧ R (Its z) H1)
theorem pi_any {te : TE} (hl : PE X e te) : PI X tg e (iAnyC X.K te) := by
  refine ⟨fun pins s σ H R I h => ?_⟩
  refine thn (hl.run pins s σ H _ I h) fun v s1 ⟨x, H1, I1, r1, q1⟩ => ?_
  rcases q1 with ⟨a, xs, rfl, hq, q⟩ | ⟨a, xs, rfl, hq, q⟩ | ⟨z, rfl, q⟩
  · cases r1
    obtain ⟨its, rv, p, hz⟩ := I1.tuple hq
    refine wpAny_pyIter_tuple (show s1.heap.IsTuple a its.toArray from p) ?_
    refine ⟨s1.heap.objs.size, [s1.heap.objs.size], _, _, H1, rfl, I1.kept (t' := s1.toks) fun b o e => Heap.get?_push_of_some _ e, turn_tuple a _, ⟨_, Heap.get?_push_size _ rfl, rfl, rfl⟩, fun b hb => ?_, q⟩
    have e : b = s1.heap.objs.size := by simpa using hb
    subst e
    exact I1.fpOk (Nat.le_refl _) (I1.hok.fresh (Nat.le_refl _))
  · cases r1
    obtain ⟨its, rv, p, hz⟩ := I1.list hq
    refine wpAny_pyIter_list p.isList ?_
    refine ⟨s1.heap.objs.size, [s1.heap.objs.size], _, _, H1, rfl, I1.kept (t' := s1.toks) fun b o e => Heap.get?_push_of_some _ e, turn_list a _, ⟨_, Heap.get?_push_size _ rfl, rfl, rfl⟩, fun b hb => ?_, q⟩
    have e : b = s1.heap.objs.size := by simpa using hb
    subst e
    exact I1.fpOk (Nat.le_refl _) (I1.hok.fresh (Nat.le_refl _))
  · obtain ⟨t, rfl⟩ := r1
    cases ha : z.cps.all (· < 128)
    · exact wpAny_pyIter_wide ha (pi_one (tk := s1.toks) I1 _ (turn_str _ z t "str_iterator" (.inr rfl)) ⟨_, Heap.get?_push_size _ rfl, rfl, rfl⟩ q)
    · exact wpAny_pyIter_ascii ha (pi_one (tk := s1.toks) I1 _ (turn_str _ z t "str_ascii_iterator" (.inl rfl)) ⟨_, Heap.get?_push_size _ rfl, rfl, rfl⟩ q)
def signsT (z : Str) : List T := z.cps.toList.map fun c => T.str ⟨#[c]⟩
def iAny (aa : AT) : AI := fun s g A => aa s g fun x g1 => match x with
  | .tup ts => A ts (fun _ => True) g1
  | .frz ts => A ts (fun _ => True) g1
  | .str z => A (signsT z) (fun _ => True) g1
  | .ref q => match g1 q with
    | some (.lst ts) => A ts (fun g => g q = some (.lst ts)) g1
    | none => False
  | _ => False
theorem irel_lst {q : Addr} {ts : List T} {H0 : Hp} : IRel K Tb (Itl K q) ts (fun g => g q = some (.lst ts)) H0 := by
  have key : ∀ g H, HRel K Tb g H → g q = some (.lst ts) → ∃ ws, H q = some (.lst ws) ∧ Reps K H ts ws := fun g H h c => h.lst c
  refine ⟨fun i g H hi m h c => ?_, fun g H m h c => ?_, fun i g H x H' t e m h c y => ?_⟩
  · obtain ⟨ws, f2, r2⟩ := key g H h c
    exact walk_list.goes i H (by rw [← r2.length]; exact hi) (SqL.of f2)
  · obtain ⟨ws, f2, r2⟩ := key g H h c
    have := (walk_list (K := K) (a := q) (xs := ws)).stops H (SqL.of f2)
    rw [← r2.length] at this
    exact this
  · obtain ⟨ws, f2, r2⟩ := key g H h c
    obtain ⟨rfl, e2⟩ := walk_list.yields i H x H' (by rw [← r2.length]; exact (List.getElem?_eq_some_iff.mp e).1) (SqL.of f2) y
    obtain ⟨v2, e3, q2⟩ := r2.got e
    rw [e2] at e3
    cases e3
    exact ⟨h, .refl, q2⟩
theorem irel_str {z : Str} {H0 : Hp} : IRel K Tb (Its z) (signsT z) (fun _ => True) H0 := by
  have hl : (signsT z).length = z.cps.size := by simp [signsT]
  refine ⟨fun i g H hi m h c => by rw [hl] at hi; exact hi, fun g H m h c => by rw [hl]; exact Nat.le_refl _, fun i g H x H' t e m h c y => ?_⟩
  obtain ⟨rfl, cc, e1, rfl⟩ := y
  refine ⟨h, .refl, ?_⟩
  unfold signsT at e
  rw [List.getElem?_map, Array.getElem?_toList, e1] at e
  cases e
  exact Rep.str_iff.mpr rfl
theorem ai_any (h : AE X Tb iter aa) : AIt X Tb tg iter (iAny aa) := piimp (pi_any h) fun σ H R ⟨s, g, A, Rr, w, k⟩ =>
  ⟨s, g, _, Rr, w, fun x v g1 H1 h1 m1 rx z => by
    cases x with
    | tup ts =>
      obtain ⟨q, vs, rfl, sq, r⟩ := Rep.tup_iff.mp rx
      exact .inl ⟨q, vs, rfl, sq, k _ _ g1 H1 _ h1 m1 (irel_of walk_tup r.length.symm r fun g H m _ _ => m.t _ _ sq) z⟩
    | frz ts =>
      obtain ⟨q, vs, rfl, sq, r⟩ := Rep.frz_iff.mp rx
      exact .inr (.inl ⟨q, vs, rfl, sq.l, k _ _ g1 H1 _ h1 m1 (irel_of walk_list r.length.symm r fun g H m _ _ => (m.f _ _ sq).l) z⟩)
    | str q =>
      rw [Rep.str_iff] at rx
      exact .inr (.inr ⟨q, rx, k _ _ g1 H1 _ h1 m1 irel_str z⟩)
    | ref q =>
      rw [Rep.ref_iff] at rx
      have z : (match g1 q with
        | some (.lst ts) => A ts (fun g => g q = some (.lst ts)) g1
        | none => False) := z
      split at z
      · rename_i ts e0
        obtain ⟨vs, f, r⟩ := h1.lst e0
        exact .inr (.inl ⟨q, vs, rx, SqL.of f, k ts _ g1 H1 _ h1 m1 irel_lst z⟩)
      · exact z.elim
    | _ => exact (show False from z).elim⟩

/-! ### zip -/
def zipT (ts us : List T) : List T := List.zipWith (fun a b => T.tup [a, b]) ts us
def iZip (ar : ATA) : AI := fun s g A => ar s g fun xs g1 => match xs with
  | [.tup ts, .tup us] => A (zipT ts us) (fun _ => True) g1
  | [.ref p, .ref q] => match g1 p, g1 q with
    | some (.lst ts), some (.lst us) => A (zipT ts us) (fun g => g p = some (.lst ts) ∧ g q = some (.lst us)) g1
    | _, _ => False
  | _ => False
theorem zipT_get {ts us : List T} {i : Nat} {t : T} (e : (zipT ts us)[i]? = some t) : ∃ a b, t = .tup [a, b] ∧ ts[i]? = some a ∧ us[i]? = some b := by
  unfold zipT at e
  rw [List.getElem?_zipWith] at e
  cases h1 : ts[i]? with
  | none => rw [h1] at e; cases e
  | some a =>
    cases h2 : us[i]? with
    | none => rw [h1, h2] at e; cases e
    | some b => rw [h1, h2] at e; cases e; exact ⟨a, b, rfl, rfl, rfl⟩
theorem Rep.pair {H : Hp} {p : Addr} {t u : T} {v w : V} (hp : H p = none) (a : Rep K H t v) (b : Rep K H u w) : Rep K (upd H p (.tup [v, w])) (.tup [t, u]) (.ref p) := by
  have m : Mono K H (upd H p (.tup [v, w])) := Mono.new hp
  exact Rep.tup (.inl (.inl upd_same)) (Reps.cons (a.mono m _) (Reps.cons (b.mono m _) Reps.nil))
theorem irel_zipT {a b : Addr} {ts us : List T} {vs ws : List V} {H0 : Hp} (s1 : SqT K H0 a vs) (s2 : SqT K H0 b ws) (r1 : Reps K H0 ts vs) (r2 : Reps K H0 us ws) : IRel K Tb (RZ.ItzT K a b) (zipT ts us) (fun _ => True) H0 := by
  have hl : (zipT ts us).length = min ts.length us.length := by simp [zipT]
  refine ⟨fun i g H hi m h c => ?_, fun g H m h c => ?_, fun i g H x H' t e m h c y => ?_⟩
  · rw [hl, r1.length, r2.length] at hi
    exact ⟨vs, ws, vs[i]'(by omega), ws[i]'(by omega), m.t _ _ s1, m.t _ _ s2, List.getElem?_eq_getElem _, List.getElem?_eq_getElem _⟩
  · refine ⟨vs, ws, m.t _ _ s1, m.t _ _ s2, ?_⟩
    rw [hl, r1.length, r2.length]
    omega
  · obtain ⟨p, x1, y1, rfl, hp, rfl, e1, e2⟩ := y
    obtain ⟨ta, tb, rfl, ea, eb⟩ := zipT_get e
    obtain ⟨v1, f1, q1⟩ := r1.got ea
    obtain ⟨v2, f2, q2⟩ := r2.got eb
    have g1 := e1 vs (m.t _ _ s1)
    have g2 := e2 ws (m.t _ _ s2)
    rw [f1] at g1
    rw [f2] at g2
    cases g1
    cases g2
    exact ⟨h.newTup hp, Mono.new hp, Rep.pair hp (q1.mono m _) (q2.mono m _)⟩
theorem irel_zipL {a b : Addr} {ts us : List T} {H0 : Hp} : IRel K Tb (Itz K a b) (zipT ts us) (fun g => g a = some (.lst ts) ∧ g b = some (.lst us)) H0 := by
  have hl : (zipT ts us).length = min ts.length us.length := by simp [zipT]
  refine ⟨fun i g H hi m h c => ?_, fun g H m h c => ?_, fun i g H x H' t e m h c y => ?_⟩
  · obtain ⟨vs, f1, r1⟩ := h.lst c.1
    obtain ⟨ws, f2, r2⟩ := h.lst c.2
    exact (walk_zip (n := min vs.length ws.length) rfl).goes i H (by rw [← r1.length, ← r2.length, ← hl]; exact hi) ⟨SqL.of f1, SqL.of f2⟩
  · obtain ⟨vs, f1, r1⟩ := h.lst c.1
    obtain ⟨ws, f2, r2⟩ := h.lst c.2
    have := (walk_zip (K := K) (a := a) (b := b) (xs := vs) (ys := ws) (n := min vs.length ws.length) rfl).stops H ⟨SqL.of f1, SqL.of f2⟩
    rw [← r1.length, ← r2.length, ← hl] at this
    exact this
  · obtain ⟨vs, f1, r1⟩ := h.lst c.1
    obtain ⟨ws, f2, r2⟩ := h.lst c.2
    have hi : i < min vs.length ws.length := by rw [← r1.length, ← r2.length, ← hl]; exact (List.getElem?_eq_some_iff.mp e).1
    obtain ⟨p, x1, y1, rfl, hp, rfl, e1, e2⟩ := (walk_zip (K := K) (a := a) (b := b) (xs := vs) (ys := ws) rfl).yields i H x H' hi ⟨SqL.of f1, SqL.of f2⟩ y
    obtain ⟨ta, tb, rfl, ea, eb⟩ := zipT_get e
    obtain ⟨v1, g1, q1⟩ := r1.got ea
    obtain ⟨v2, g2, q2⟩ := r2.got eb
    have e1 : vs[i]? = some x1 := e1
    have e2 : ws[i]? = some y1 := e2
    rw [g1] at e1
    rw [g2] at e2
    cases e1
    cases e2
    exact ⟨h.newTup hp, Mono.new hp, Rep.pair hp q1 q2⟩
theorem ai_zip {e2 : Expr} {elts : List Expr} {kk : Nat} {tpos : Pos} (hm : X.mg "zip" = none) (ha : AA X Tb [e, e2] ar) (hg : Gl X "zip" := by rfl) (hs : starEach [e, e2] X.env = (false, eval e X.env) :: starEach [e2] X.env := by rfl) (hpl : (backTo pos (starEach [e2] X.env)).any (·.1) = false := by rfl) :
    AIt X Tb (.Tuple elts kk tpos) (.Call (.Name "zip" p) [e, e2] [] pos) (iZip ar) := piimp (RZ.pi_zipA hg hm ha hs hpl) fun σ H R ⟨s, g, A, Rr, w, k⟩ =>
  ⟨s, g, _, Rr, w, fun xs vs g1 H1 h1 m1 rs z => by
    split at z
    · rename_i ts us
      obtain ⟨v, u, rfl, rv, ru⟩ := rs.two
      obtain ⟨a, x1, rfl, sa, r1⟩ := Rep.tup_iff.mp rv
      obtain ⟨b, x2, rfl, sb, r2⟩ := Rep.tup_iff.mp ru
      exact ⟨a, b, x1, x2, rfl, .inr ⟨sa, sb, k _ _ g1 H1 _ h1 m1 (irel_zipT sa sb r1 r2) z⟩⟩
    · rename_i p q
      obtain ⟨v, u, rfl, rv, ru⟩ := rs.two
      rw [Rep.ref_iff] at rv ru
      subst rv ru
      split at z
      · rename_i ts us e1 e2
        obtain ⟨x1, f1, _⟩ := h1.lst e1
        obtain ⟨x2, f2, _⟩ := h1.lst e2
        exact ⟨p, q, x1, x2, rfl, .inl ⟨SqL.of f1, SqL.of f2, k _ _ g1 H1 _ h1 m1 irel_zipL z⟩⟩
      · exact z.elim
    · exact z.elim⟩

/-! ### x += e, x -= e of numbers -/
def vAddI : A2 := vI0 fun i j => .int (i + j)
def vSubI : A2 := vI0 fun i j => .int (i - j)
theorem as_augAdd {i : Nat} {x : Str} {pos' : Pos} (hN : X.N.Nodup) (hi : X.N[i]? = some x) (hx : Loc X.env.scope x) (h : AE X Tb e aa) (hf : X.fn x = true ∨ X.env.scope.names.lookup x = some .local := by first | exact .inl rfl | exact .inr rfl | assumption) :
    ASt X Tb (.AugAssign (.Name x pos') .Add e pos) (aAug i vAddI aa) := as_aug (sim_I0 fun _ _ _ => Rep.int_iff.mpr rfl) (ps_aug hN hi hx h ip_add hf)
theorem as_augSub {i : Nat} {x : Str} {pos' : Pos} (hN : X.N.Nodup) (hi : X.N[i]? = some x) (hx : Loc X.env.scope x) (h : AE X Tb e aa) (hf : X.fn x = true ∨ X.env.scope.names.lookup x = some .local := by first | exact .inl rfl | exact .inr rfl | assumption) :
    ASt X Tb (.AugAssign (.Name x pos') .Sub e pos) (aAug i vSubI aa) := as_aug (sim_I0 fun _ _ _ => Rep.int_iff.mpr rfl) (ps_aug hN hi hx h ip_sub hf)
end
theorem room_gen {k : Nat} {A : Around} {env : Env} (r : Room (k + 1) A) : Room k (A.in1.in1.deeper env) :=
  ⟨r.hd, by have := r.dp; show A.depth + 1 + 3 * k + 5 < _; omega, by have := r.un; show A.units + 1 + 1 + 3 + 16 * k + 200 < _; omega⟩
theorem room_dp {k : Nat} {A : Around} (r : Room k A) : A.depth + 1 < recursionLimit := by have := r.dp; omega
/-- a def that lets no error out, its code object told or not -/
theorem fn_body0C {P : Program} {w : World} {K : PySem.W.Frag} {mg : Str → Option Value} {base : Heap} {tabs : List Addr} {k : Nat} {x qual : Str} {params : Arguments} {body : List Stmt} {scope : Scope} {f : Addr} {fd : FuncData} {N ps : List Str} {asp : ASp} {cdv : Value}
    (F : FunD K x qual params body scope [] [] f fd) (hcd : fd.code = cdv) (S : FnScope N ps scope) (hm : mg x = some (.ref f)) (hb : Binds K fd ps []) (len : ∀ ts g A B, asp ts g A B → ts.length = ps.length)
    (a : AS) (hbody : ∀ (A : Around) (outer : List Env) (s : Shared) (H : Hp) (E : XK), Room k (A.deeper (envOfC qual scope s.heap.objs.size f cdv)) →
      ABl (cxOf CX0 P w K mg base N qual scope f cdv A outer s H E).nox ⟨tabs, H⟩ body a) (hq : ∀ ts g AA B, asp ts g AA B → a (endsOf AA) (aStart N ts) g) : Fn P w K mg base CX0 tabs (k + 1) x asp :=
  fn_bodyC F hcd S hm hb len fun A outer s H E B hr hE => ⟨a, PSs.nox (hbody A outer s H E hr), fun ts g AA z => hq ts g AA B z⟩
/-- nothing but the promise's inputs: for a def that is not reached -/
def spNo : ASp := fun _ _ _ _ => False
end Lz

set_option Elab.async false
set_option linter.all false
set_option maxRecDepth 100000
set_option maxHeartbeats 4000000
/-! Loops and comprehensions by what they tell. -/
namespace Lz
open PySem PySem.Spec PyProof.Rows L2
theorem sub_put {g' g : G} {p : Addr} {o : O} (h : Sub g' g) : Sub (set g' p o) (set g p o) := fun a u e => by
  by_cases ha : a = p
  · subst ha; rw [set_same] at e ⊢; exact e
  · rw [set_ne ha] at e ⊢; exact h a u e
theorem sub_none {g' g : G} {p : Addr} (h : Sub g' g) (e : g p = Option.none) : g' p = none := by
  cases q : g' p with
  | none => rfl
  | some o => rw [h p o q] at e; cases e
/-- what is new may be let go -/
theorem sub_new {g' g : G} {p : Addr} {o : O} (h : Sub g' g) (e : g p = Option.none) : Sub g' (set g p o) := h.set (sub_none h e)
theorem all_by {C : G → Prop} {u : AG} {te : AT} {s : SS} {A : T → G → Prop} {g : G} (p : T → Bool) (hC : C g) : ∀ (us : List T), (∀ t ∈ us, ∀ A', A' (.bl (p t)) g → u t s g fun s2 g2 => te s2 g2 A') → A (.bl (us.all p)) g → aAllL C u te s A us g
  | [], h, hA => ⟨hC, hA⟩
  | t :: us, h, hA => ⟨hC, h t List.mem_cons_self _ (by
      show (match T.bl (p t) with
        | .bl true => aAllL C u te s A us g
        | .bl false => A (.bl false) g
        | _ => False)
      rw [List.all_cons] at hA
      cases hp : p t with
      | true =>
        rw [hp, Bool.true_and] at hA
        exact all_by p hC us (fun t' ht => h t' (List.mem_cons_of_mem _ ht)) hA
      | false =>
        rw [hp, Bool.false_and] at hA
        exact hA)⟩
/-- a for by what stands at each turn -/
theorem loop_by {C : G → Prop} {u : AG} {b : AS} {D : AEnds} (J : List T → SS → G → Prop) (h0 : ∀ s g, J [] s g → C g ∧ D.nx s g)
    (h1 : ∀ t ts s g (R : SS → G → Prop), (∀ s g, J ts s g → R s g) → J (t :: ts) s g → C g ∧ u t s g fun s2 g2 => b { D with nx := R, ct := R, bk := D.nx } s2 g2) : ∀ ts s g, J ts s g → aLoop C u b D ts s g
  | [], s, g, h => h0 s g h
  | t :: ts, s, g, h => h1 t ts s g (aLoop C u b D ts) (fun s g h => loop_by J h0 h1 ts s g h) h
/-- [f(t) for t in ts] -/
theorem lc_map {C : G → Prop} {D : Addr} {u : AG} {te : AT} {s : SS} {A : T → G → Prop} {g0 : G} (f : T → T) (hC : ∀ acc, C (set g0 D (.lst acc))) : ∀ (ts acc : List T), acc.length + ts.length ≤ sizeLine →
    (∀ t ∈ ts, ∀ acc A', A' (f t) (set g0 D (.lst acc)) → u t s (set g0 D (.lst acc)) fun s2 g2 => te s2 g2 A') → A (.ref D) (set g0 D (.lst (acc ++ ts.map f))) → aLcL C D u aTrue te s A ts (set g0 D (.lst acc))
  | [], acc, hl, h, hA => ⟨hC acc, by rw [List.map_nil, List.append_nil] at hA; exact hA⟩
  | t :: ts, acc, hl, h, hA => by
    refine ⟨hC acc, ?_⟩
    rw [List.length_cons] at hl
    have k : (fun (y : T) (g4 : G) => match g4 D with
        | some (.lst acc) => acc.length < sizeLine ∧ aLcL C D u aTrue te s A ts (set g4 D (.lst (acc ++ [y])))
        | none => False) (f t) (set g0 D (.lst acc)) := by
      dsimp only
      rw [set_same]
      dsimp only
      refine ⟨by omega, ?_⟩
      rw [set_set]
      refine lc_map f hC ts (acc ++ [f t]) (by rw [List.length_append, List.length_singleton]; omega) (fun t' ht => h t' (List.mem_cons_of_mem _ ht)) ?_
      rw [List.append_assoc, List.singleton_append, ← List.map_cons]
      exact hA
    exact h t List.mem_cons_self acc _ k
end Lz

set_option Elab.async false
set_option linter.all false
set_option maxRecDepth 100000
set_option maxHeartbeats 4000000
/-! The end of a law: tables told by the head's walk, the law's def over trees. -/
namespace Lz
open PySem PySem.Spec PyProof.Rows L2
def chk0 : T → Value → Bool
  | .non, .none => true
  | .bl b, .bool c => decide (b = c)
  | .int i, .int j _ => decide (i = j)
  | .str x, .str y _ => decide (x = y)
  | .ref a, .ref b => decide (a = b)
  | _, _ => false
def chk0s : List T → List Value → Bool
  | [], [] => true
  | t :: ts, u :: us => chk0 t u && chk0s ts us
  | _, _ => false
def chkT (K : PySem.W.Frag) (t : T) (u : Value) : Bool := chk0 t u || match t, u with
  | .tup ts, .ref a => (match K.lookup a with
    | some ⟨.type c, _, .seq its _, _⟩ => decide (c = "tuple") && (decide (its.size ≤ 1000) && chk0s ts its.toList)
    | _ => false)
  | _, _ => false
theorem chk0_ok {K : PySem.W.Frag} {t : T} {u : Value} (h : chk0 t u = true) : ∃ v, RelV v u ∧ ∀ H, Rep K H t v := by
  cases t <;> cases u <;> first
    | exact absurd h Bool.false_ne_true
    | skip
  · exact ⟨.non, rfl, fun _ => Rep.non_iff.mpr rfl⟩
  · rename_i b c
    have e : b = c := of_decide_eq_true h
    subst e
    exact ⟨.bl b, rfl, fun _ => Rep.bl_iff.mpr rfl⟩
  · rename_i i j t
    have e : i = j := of_decide_eq_true h
    subst e
    exact ⟨.int i, ⟨t, rfl⟩, fun _ => Rep.int_iff.mpr rfl⟩
  · rename_i x y t
    have e : x = y := of_decide_eq_true h
    subst e
    exact ⟨.str x, ⟨t, rfl⟩, fun _ => Rep.str_iff.mpr rfl⟩
  · rename_i a b
    have e : a = b := of_decide_eq_true h
    subst e
    exact ⟨.ref a, rfl, fun _ => Rep.ref_iff.mpr rfl⟩
theorem chk0s_ok {K : PySem.W.Frag} : ∀ {ts : List T} {us : List Value}, chk0s ts us = true → ∃ vs, Vals vs us ∧ ∀ H, Reps K H ts vs
  | [], [], _ => ⟨[], .nil, fun _ => Reps.nil⟩
  | [], _ :: _, h => absurd h Bool.false_ne_true
  | _ :: _, [], h => absurd h Bool.false_ne_true
  | t :: ts, u :: us, h => by
    obtain ⟨h1, h2⟩ := Bool.and_eq_true_iff.mp (show (chk0 t u && chk0s ts us) = true from h)
    obtain ⟨v, r, q⟩ := chk0_ok (K := K) h1
    obtain ⟨vs, rs, qs⟩ := chk0s_ok (K := K) h2
    exact ⟨v :: vs, .cons r rs, fun H => Reps.cons (q H) (qs H)⟩
theorem chkT_ok {K : PySem.W.Frag} {t : T} {u : Value} (h : chkT K t u = true) : ∃ v, RelV v u ∧ ∀ H, Rep K H t v := by
  rcases Bool.or_eq_true_iff.mp h with h | h
  · exact chk0_ok h
  · cases t with
    | tup ts =>
      cases u with
      | ref a =>
        have h : (match K.lookup a with
          | some ⟨.type c, _, .seq its _, _⟩ => decide (c = "tuple") && (decide (its.size ≤ 1000) && chk0s ts its.toList)
          | _ => false) = true := h
        split at h
        · rename_i c od its n sl e
          obtain ⟨h1, h2⟩ := Bool.and_eq_true_iff.mp h
          obtain ⟨h3, h4⟩ := Bool.and_eq_true_iff.mp h2
          have ec : c = "tuple" := of_decide_eq_true h1
          subst ec
          obtain ⟨vs, rs, qs⟩ := chk0s_ok (K := K) h4
          refine ⟨.ref a, rfl, fun H => Rep.tup (.inr ⟨_, its, n, e, rfl, rfl, ?_, rs⟩) (qs H)⟩
          have := of_decide_eq_true h3
          rw [sizeLine_eq]
          omega
        · cases h
      | _ => cases h
    | _ => cases h
def tabOk (K : PySem.W.Frag) (d : Addr) (l : List (Str × Option T)) : Bool := l.all fun q => match PySem.W.nsIn K d q.1, q.2 with
  | some none, none => true
  | some (some u), some t => chkT K t u
  | _, _ => false
def tabF (l : List (Str × Option T)) : Str → Option (Option T) := fun z => l.lookup z
theorem ktab_of {K : PySem.W.Frag} {w : World} {d : Addr} {l : List (Str × Option T)} (h : ∃ es n, KDict K w d es n) (hb : tabOk K d l = true) : KTab K w d (tabF l) := by
  refine ⟨h, fun z r e => ?_⟩
  have hm : (z, r) ∈ l := PySem.mem_of_lookup e
  have q := List.all_eq_true.mp hb _ hm
  dsimp only at q
  split at q
  · rename_i e1 e2
    exact e2
  · rename_i _ u t e1
    obtain ⟨v, rv, rr⟩ := chkT_ok q
    exact ⟨u, v, e1, rv, rr⟩
  · cases q
/-- what the law is given: a list that nobody else knows -/
def ScrOk (g : G) (t : T) (ns : List Int) : Prop := t = .frz (ns.map T.int) ∨ ∃ q, t = .ref q ∧ g q = some (.lst (ns.map T.int))
theorem law_sp {K : PySem.W.Frag} {tabs : List Addr} {asp : ASp} {H : Hp} {a : Addr} {ns : List Int} (hT : ∀ P ∈ tabs, H P = some (.tbl #[])) (hS : SqL K H a (ns.map V.int)) (h : ∀ g t, ScrOk g t ns → asp [t] g (fun τ _ => τ = .bl true) (fun _ _ => False)) :
    cSp K tabs asp [.ref a] H (fun v _ => v = .bl true) fun _ _ _ => False := by
  have tb : ∀ P ∈ tabs, TabG H P := fun P hP => ⟨#[], hT P hP, trivial⟩
  have fin : ∀ g t, HRel K ⟨tabs, H⟩ g H → Rep K H t (.ref a) → ScrOk g t ns → cSp K tabs asp [.ref a] H (fun v _ => v = .bl true) fun _ _ _ => False := fun g t hr rt hs =>
    ⟨[t], g, _, _, Reps.cons rt Reps.nil, hr, h g t hs, fun τ v g' H' _ r e => by subst e; exact Rep.bl_iff.mp r, fun _ _ _ _ _ _ _ z => z.elim⟩
  have e0 : HRel K ⟨tabs, H⟩ (fun _ => none) H := ⟨fun b o e => (by cases e), tb, .refl⟩
  rcases hS with (hS | ⟨o, hS⟩) | hS
  · refine fin (Lz.set (fun _ => none) a (.lst (ns.map T.int))) (.ref a) ⟨fun b o e => ?_, tb, .refl⟩ (Rep.ref_iff.mpr rfl) (.inr ⟨a, rfl, set_same⟩)
    by_cases hb : b = a
    · subst hb
      rw [set_same] at e
      cases e
      exact ⟨_, hS, Reps.of_ints ns⟩
    · rw [set_ne hb] at e
      cases e
  · exact fin _ _ e0 (Rep.frz_iff.mpr ⟨a, _, rfl, .inl ⟨o, hS⟩, Reps.of_ints ns⟩) (.inl rfl)
  · exact fin _ _ e0 (Rep.frz_iff.mpr ⟨a, _, rfl, .inr hS, Reps.of_ints ns⟩) (.inl rfl)
/-- a def that lets no error out, by its body -/
theorem fnOk_body0C {P : Program} {w : World} {K : PySem.W.Frag} {mg : Str → Option Value} {base : Heap} {tabs : List Addr} {k : Nat} {x qual : Str} {params : Arguments} {body : List Stmt} {scope : Scope} {f : Addr} {fd : FuncData} {N ps : List Str} {asp : ASp} {cdv : Value}
    (F : FunD K x qual params body scope [] [] f fd) (hcd : fd.code = cdv) (S : FnScope N ps scope) (len : ∀ ts g A B, asp ts g A B → ts.length = ps.length)
    (a : AS) (hbody : ∀ (A : Around) (outer : List Env) (s : Shared) (H : Hp) (E : XK), Room k (A.deeper (envOfC qual scope s.heap.objs.size f cdv)) →
      ABl (cxOf CX0 P w K mg base N qual scope f cdv A outer s H E).nox ⟨tabs, H⟩ body a) (hq : ∀ ts g AA B, asp ts g AA B → a (endsOf AA) (aStart N ts) g) : FnOk P w K mg base CX0 (k + 1) f fd ps (cSp K tabs asp) := by
  obtain ⟨oc, od, dV, kV, doc, pm, an, cdv', ct, osl, rfl, lk, hcdk, _, _⟩ := F.ex
  have e : cdv' = cdv := hcd
  subst e
  refine fn_of lk hcdk S (fun vs H Q E h => ?_) fun A outer s H vs Q E hr h => ?_
  · obtain ⟨ts, g, A, B, rs, _, z, _⟩ := h
    rw [← rs.length]
    exact len _ _ _ _ z
  · obtain ⟨ts, g, AA, B, rs, h1, z, kA, kB⟩ := h
    refine ⟨_, PSs.nox (hbody A outer s H E hr), aStart N ts, g, endsOf AA, rel_start rs h1, hq ts g AA B z, ?_⟩
    refine ⟨fun s' g' σ' H' R m ⟨g2, sb, q⟩ => kA .non .non g2 H' (R.hp.sub sb) (Rep.non_iff.mpr rfl) q, fun τ v g' H' h m r ⟨g2, sb, q⟩ => kA τ v g2 H' (h.sub sb) r q, fun _ _ _ _ _ _ z => z.elim, fun _ _ _ _ _ _ z => z.elim⟩
/-- a def's code object: told by the head -/
theorem code_of {K : PySem.W.Frag} {x qual : Str} {params : Arguments} {body : List Stmt} {scope : Scope} {fd : FuncData} {p : He.Defn} (F : FunD K x qual params body scope [] [] (He.fAd K p) fd) : fd.code = .ref (He.cT K p).1 := by
  obtain ⟨oc, od, dV, kV, doc, pm, an, cdv, ct, osl, rfl, lk, hcdk, _, _⟩ := F.ex
  obtain ⟨c, rfl⟩ := He.codeIn_ref hcdk
  show Value.ref c = .ref (He.codeOf K p)
  rw [He.codeOf_eq lk rfl]
end Lz

set_option Elab.async false
set_option linter.all false
set_option maxRecDepth 100000
set_option maxHeartbeats 4000000
/-! More of the language over trees: divmod, sorted, pop, index. -/
namespace Lz
open PySem PySem.Spec PyProof.Rows L2
section
variable {X : Cx} {Tb : Bs} {e : Expr} {es : List Expr} {ar : ATA} {aa : AT} {p pos apos cpos : Pos}
def nDivmod : AN := fun xs g A => match xs with
  | [.int i, .int j] => (0 < j ∧ j < 1073741824) ∧ A (.tup [.int (i / j), .int (i % j)]) g
  | _ => False
theorem ae_divmod (hg : Gl X "divmod" := by rfl) (hm : X.mg "divmod" = none) (ha : AA X Tb (e :: es) ar) (he : starEach (e :: es) X.env = (false, eval e X.env) :: starEach es X.env := by rfl) (hpl : (backTo pos (starEach es X.env)).any (·.1) = false := by rfl) :
    AE X Tb (.Call (.Name "divmod" p) (e :: es) [] pos) (aN nDivmod ar) := ae_b (fun xs vs g H A Q h1 rs w k => by
  unfold nDivmod at w
  split at w
  · obtain ⟨v, u, rfl, rv, ru⟩ := rs.two
    rw [Rep.int_iff] at rv ru
    subst rv ru
    refine ⟨_, _, rfl, w.1, fun q hq => ?_⟩
    exact k _ _ g _ (h1.newTup hq) (.new hq) (Rep.tup (.inl (.inl upd_same)) (Reps.cons (Rep.int_iff.mpr rfl) (Reps.cons (Rep.int_iff.mpr rfl) Reps.nil))) w.2
  · exact w.elim) call_divmod hg hm PyProof.Rows.boot_divmod ha (by decide) (by decide) he hpl
/-- sorted of a list of numbers: a new list -/
def nSorted : AN := fun xs g A => match xs with
  | [x] => match items g x with
    | some ts => match intsOf ts with
      | some ns => (∀ a, x ≠ .tup a) ∧ ∀ (ns' : List Int) (q : Addr), ns'.Perm ns → ns'.Pairwise (· ≤ ·) → g q = none → A (.ref q) (set g q (.lst (ns'.map T.int)))
      | none => False
    | none => False
  | _ => False
theorem ae_sorted (hg : Gl X "sorted" := by rfl) (hm : X.mg "sorted" = none) (ha : AA X Tb (e :: es) ar) (he : starEach (e :: es) X.env = (false, eval e X.env) :: starEach es X.env := by rfl) (hpl : (backTo pos (starEach es X.env)).any (·.1) = false := by rfl) :
    AE X Tb (.Call (.Name "sorted" p) (e :: es) [] pos) (aN nSorted ar) := ae_b (fun xs vs g H A Q h1 rs w k => by
  unfold nSorted at w
  split at w
  · rename_i x
    obtain ⟨v, rfl, rv⟩ := rs.one
    split at w
    · rename_i ts e1
      split at w
      · rename_i ns e2
        obtain ⟨w0, w⟩ := w
        have et := intsOf_eq e2
        have fin : ∀ (a : Addr) (vs : List V), v = .ref a → SqL X.K H a vs → Reps X.K H ts vs → rSortedI X.K [v] H Q := fun a vs ev hs r => by
          subst et
          have := Reps.ints r
          subst this
          refine ⟨a, ns, by rw [ev], hs, fun ns' q hp hq hn => ?_⟩
          obtain ⟨h2, m2⟩ := h1.put (.inl hn) (Reps.of_ints ns')
          exact k _ _ _ _ h2 m2 (Rep.ref_iff.mpr rfl) (w ns' q hp hq (h1.free hn))
        cases x with
        | frz us =>
          simp only [items, Option.some.injEq] at e1
          subst e1
          obtain ⟨a, ws, rfl, sq, r⟩ := Rep.frz_iff.mp rv
          exact fin a ws rfl sq.l r
        | ref q =>
          rw [Rep.ref_iff] at rv
          simp only [items] at e1
          split at e1
          · rename_i us e3
            cases e1
            obtain ⟨ws, f, r⟩ := h1.lst e3
            exact fin q ws rv (SqL.of f) r
          · cases e1
        | tup us => exact absurd rfl (w0 us)
        | _ => cases e1
      · exact w.elim
    · exact w.elim
  · exact w.elim) cr_sortedI hg hm PyProof.Rows.boot_sorted ha (by decide) (by decide) he hpl
/-- xs.pop(i) -/
def popK (q : Addr) (A : T → G → Prop) (y : T) (g2 : G) : Prop := match y with
  | .int i => match g2 q with
    | some (.lst ts) => (-(2 ^ 63) ≤ i ∧ i < 2 ^ 63) ∧ ∃ k t, seqIndex? i ts.length = some k ∧ ts[k]? = some t ∧ A t (set g2 q (.lst (ts.eraseIdx k)))
    | none => False
  | _ => False
def aPopAt (ao ae : AT) : AT := fun s g A => ao s g fun x g1 => match x with
  | .ref q => match g1 q with
    | some (.lst _) => ae s g1 (popK q A)
    | none => False
  | _ => False
theorem Reps.erase {K : PySem.W.Frag} {H : Hp} : ∀ {ts : List T} {vs : List V} (i : Nat), Reps K H ts vs → Reps K H (ts.eraseIdx i) (vs.eraseIdx i)
  | [], vs, i, h => by rw [Reps.nil_iff] at h; subst h; simp only [List.eraseIdx_nil]; exact Reps.nil
  | t :: ts, vs, i, h => by
    obtain ⟨w, r, rfl, a, b⟩ := Reps.cons_iff.mp h
    cases i with
    | zero => simpa using b
    | succ i => simp only [List.eraseIdx_cons_succ]; exact Reps.cons a (Reps.erase i b)
theorem ae_popAt {o : Expr} {ao : AT} (ho : AE X Tb o ao) (ha : AE X Tb e aa)
    (hbase : attributeBase o "pop" X.env (eval o X.env) = eval o X.env := by rfl)
    (hfew : ((backTo cpos (starEach (e :: []) X.env)).all (fun x => !x.1) && (backToKw cpos (keywordEach [] X.env)).all (fun x => x.1.isSome)
      && decide ((e :: ([] : List Expr)).length + ([] : List Keyword).length + (if ([] : List Keyword).isEmpty then 0 else 1) < 30)) = true := by rfl)
    (hline : (apos.endLine == cpos.line) = true := by rfl) (hs : starEach (e :: []) X.env = (false, eval e X.env) :: starEach [] X.env := by rfl) : AE X Tb (.Call (.Attribute o "pop" apos) [e] [] cpos) (aPopAt ao aa) :=
  ae_of (pe_bm PySem.F.plainAttrs_list PySem.F.slot_list_pop PySem.F.type_list_pop mt_popAt ho (aa_cons ha aa_nil hs) hbase hfew hline hs (by rfl)) fun s g A σ H Q R w k => by
  refine ⟨s, g, _, R, w, fun x v g1 H1 h1 m1 rx z => ?_⟩
  cases x with
  | ref q =>
    rw [Rep.ref_iff] at rx
    subst rx
    have z : (match g1 q with
      | some (.lst _) => aa s g1 (popK q A)
      | none => False) := z
    split at z
    · rename_i us e0
      obtain ⟨ws, f, r⟩ := h1.lst e0
      refine ⟨.inl ⟨rfl, ws, SqL.of f⟩, s, g1, fun ys g2 => match ys with
        | [y] => popK q A y g2
        | _ => False, R.mono h1 m1, z, fun ys vs g2 H2 h2 m2 rs z2 => ?_⟩
      dsimp only at z2
      split at z2
      · rename_i y
        unfold popK at z2
        split at z2
        · rename_i i
          obtain ⟨v, rfl, rv⟩ := rs.one
          rw [Rep.int_iff] at rv
          subst rv
          split at z2
          · rename_i ts e2
            obtain ⟨b, j, t, hj, ht, z3⟩ := z2
            obtain ⟨xs, f2, r2⟩ := h2.lst e2
            obtain ⟨y, hy, ry⟩ := r2.got ht
            obtain ⟨h3, m3⟩ := h2.put (.inr ⟨xs, f2⟩) (r2.erase j)
            exact ⟨q, xs, i, j, y, rfl, rfl, f2, b.1, b.2, by rw [← r2.length]; exact hj, hy, k _ _ _ _ h3 (m1.trans (m2.trans m3)) (ry.mono m3 _) z3⟩
          · exact z2.elim
        · exact z2.elim
      · exact z2.elim
    · exact z.elim
  | _ => exact (show False from z).elim
end
end Lz

set_option Elab.async false
set_option linter.all false
set_option maxRecDepth 100000
set_option maxHeartbeats 4000000
/-! list(reversed(a tuple)). -/
namespace Lz
open PySem PySem.Spec PyProof.Rows L2 RT
theorem nolen_rt : typeLookup (.type "reversed") "__len__" = pure none := by rw [typeLookup_type, builtinLookup_eq_fast]; kernel_rfl
theorem slot_rt_hint : Slot "reversed" "__length_hint__" "reversed.__length_hint__" :=
  .of (owner := "reversed") (n := "__length_hint__") (by rw [typeLookup_type, builtinLookup_eq_fast]; kernel_rfl) (by decide +kernel) (by decide +kernel) (by decide +kernel)
    (by first | exact .inl (by decide +kernel) | exact .inr (by decide +kernel)) (by rw [isSubtype_type]; kernel_rfl)
theorem entry_rt_hint : entryFor table "reversed.__length_hint__" = some Builtin.«reversed.__length_hint__» := entryFor_of_tree (by kernel_rfl)
theorem args_rt_hint (a : Value) : argsOk "reversed.__length_hint__" ⟨[a], []⟩ := by
  unfold argsOk; rw [signature?_of (id := "reversed.__length_hint__") (n := ['_', '_', 't', 'n', 'i', 'h', '_', 'h', 't', 'g', 'n', 'e', 'l', '_', '_']) (o := ['d', 'e', 's', 'r', 'e', 'v', 'e', 'r']) (by kernel_rfl) owner_rt]; kernel_rfl
section
variable {prog : Program} {w : World} {A : Around} {E : Value → Shared → Prop} {s : Shared}
theorem call_rt_hint {it t : Addr} {items : Array Value} {Q : Value → Shared → Prop} (hit : IsRt s.heap it t ((items.size : Int) - 1)) (ht : IsTup s.heap t items) (hfit : (items.size : Int) < 2 ^ 63)
    (h : ∀ tk tk', Q (.int items.size tk') { s with toks := tk }) : wpAny (model prog w) A (call (.builtin "reversed.__length_hint__") [.ref it]) Q E s := by
  obtain ⟨o, ho, hc, hd⟩ := id hit
  refine wpAny_call_entry slot_rt_hint hit.typeIs entry_rt_hint ?_ (args_rt_hint _)
  unfold Builtin.«reversed.__length_hint__»
  refine wpAny_bind (wpAny_of_eq (a := Value.ref it) rfl ?_)
  try dsimp only
  refine wpAny_bind (wpAny_field ho hd (x := .ref t) rfl ?_)
  try dsimp only
  rw [if_neg (by simp)]
  try dsimp only
  refine wpAny_bind (len_tuple ht hfit ?_)
  refine wpAny_bind (wpAny_of_eq (a := some ((items.size : Nat) : Int)) rfl ?_)
  try dsimp only
  refine wpAny_bind (wpAny_field (s := { s with toks := s.toks + 1 + 1 }) ho hd (x := rawInt ((items.size : Int) - 1)) rfl ?_)
  show wpAny _ _ (if ((items.size : Nat) : Int) < ((items.size : Int) - 1) + 1 then _ else _) _ _ _
  rw [if_neg (by omega)]
  unfold retInt
  refine wpAny_bind (wpAny_mkInt ?_)
  refine wpAny_pure ⟨_, rfl, ?_⟩
  rw [show ((items.size : Int) - 1) + 1 = items.size by omega]
  exact h _ _
theorem hint_rt {it t : Addr} {items : Array Value} {Q : Bool → Shared → Prop} (hit : IsRt s.heap it t ((items.size : Int) - 1)) (ht : IsTup s.heap t items) (hn : items.size ≤ sizeLine)
    (h : ∀ tk, Q (((items.size : Nat) : Int) != 0) { s with toks := tk }) : wpAny (model prog w) A (Builtin.List.listLengthHint (.ref it)) Q E s := by
  have hl := line63
  unfold Builtin.List.listLengthHint
  refine wpAny_bind (wpAny_specialOf hit.typeIs nolen_rt ?_)
  show wpAny _ A (specialOf (Value.ref it) (Str.ofString "__length_hint__") >>= _) _ _ _
  refine wpAny_bind (wpAny_specialOf hit.typeIs slot_rt_hint.lookup ?_)
  generalize hid : ("reversed.__length_hint__" : String) = id0
  wp_delta
  rw [show splitId id0 = some ("reversed", "__length_hint__") from by subst hid; decide +kernel]
  subst hid
  refine wpAny_bind (wpAny_isInstance (b := true) hit.typeIs (by rw [isSubtype_type]; kernel_rfl) ?_)
  refine wpAny_ite_split (fun hab => absurd hab (by decide)) (fun _ => ?_)
  refine wpAny_ite_split (fun hab => absurd hab (by decide +kernel)) (fun _ => ?_)
  refine wpAny_bind (wpAny_rule ?_)
  refine wpAny_bind (wpAny_of_eq (slot_rt_hint.bind _) ?_)
  refine wpAny_bind (wpAny_attempt (call_rt_hint hit ht (by omega) fun tk tk' => ?_))
  have ea : asInt? (Value.int ((items.size : Nat) : Int) tk') = pure (some ((items.size : Nat) : Int)) := rfl
  refine wpAny_bind (m := asInt? _) ?_
  rw [ea]
  refine wpAny_pure ?_
  have htl : Builtin.List.listTooLong ((((items.size : Nat) : Int)).toNat) = false := by
    unfold Builtin.List.listTooLong
    exact decide_eq_false (by omega)
  have hfi : Builtin.List.listFitsIndex ((items.size : Nat) : Int) = true := by
    unfold Builtin.List.listFitsIndex
    rw [decide_eq_true (by omega), decide_eq_true (by omega)]
    rfl
  dsimp only
  rw [if_neg (by rw [hfi]; decide), if_neg (by omega), if_neg (by rw [htl]; decide)]
  exact wpAny_pure (h tk)

theorem walks_rt (hh : A.handled = none) (I t : Addr) (hne : t ≠ I) (items : Array Value) (hn : items.size ≤ sizeLine) :
    Walks prog w A I [I, t] [I] items.size (fun i v => items[items.size - 1 - i]? = some v) (fun i h => i ≤ items.size ∧ IsRt h I t ((items.size : Int) - 1 - (i : Int)) ∧ IsTup h t items) where
  sub := fun b hb => by simp at hb; simp [hb]
  frame := fun _ _ _ x hk => ⟨x.1, x.2.1.at fun o e => hk I (by simp) o e, let ⟨o, ho, r⟩ := x.2.2; ⟨o, hk t (by simp) o ho, r⟩⟩
  item := fun i s Q E hi x hQ => by
    have e : (items.size : Int) - 1 - (i : Int) = ((items.size - 1 - i : Nat) : Int) := by omega
    have hit := x.2.1
    rw [e] at hit
    have hx : items[items.size - 1 - i]? = some (items[items.size - 1 - i]'(by omega)) := Array.getElem?_eq_getElem (by omega)
    refine next_rt_item hit x.2.2 hx hn fun h' hit' hs' => ?_
    have e2 : ((items.size - 1 - i : Nat) : Int) - 1 = (items.size : Int) - 1 - ((i + 1 : Nat) : Int) := by omega
    rw [e2] at hit'
    obtain ⟨o, ho, r⟩ := x.2.2
    exact hQ _ h' _ hx ⟨hi, hit', o, (hs'.2 t hne).trans ho, r⟩ fun b o hb eo => hs'.extBut b o (fun h => hb (by simp [h])) eo
  done := fun s Q E x hQ => by
    have e : (items.size : Int) - 1 - (items.size : Int) = -1 := by omega
    have hit := x.2.1
    rw [e] at hit
    exact next_rt_end hh hit fun h' he' => hQ h' s.toks fun b o hb eo => he' b o (fun h => hb (by simp [h])) eo
  self := fun _ _ _ _ x hQ => iter_rt x.2.1 hQ
theorem extend_rt {R : Result → Shared → Prop} {it t : Addr} {items : Array Value} (hh : A.handled = none) (hit : IsRt s.heap it t ((items.size : Int) - 1)) (ht : IsTup s.heap t items) (hne : t ≠ it) (hn : items.size ≤ sizeLine)
    (S : Addr) (res : Value) (c₀ : Nat) (hS : s.heap.get? S = some { cls := .type "list", data := .seq #[] c₀ }) (hSi : S ≠ it) (hSt : S ≠ t)
    (hR : ∀ h' tk acc' c', (∀ b o, b ≠ S → b ≠ it → s.heap.get? b = some o → h'.get? b = some o) → h'.get? S = some { cls := .type "list", dict := none, data := .seq acc' c', slots := #[] } →
      ItemsOf (fun i v => items[items.size - 1 - i]? = some v) acc' items.size → R (.ok (.ret res)) { s with heap := h', toks := tk }) :
    wpAny (model prog w) A.in1 (Builtin.List.listExtendWith (.ref S) (.ref it) res)
      (fun fin s' => match fin with | .done f => R (.ok f) s' | .again c' => c'.quiet = true ∧ codeAny (model prog w) A c' R s') (fun e s' => R (.error e) s') s := by
  have hSf : S ∉ [it, t] := by simp only [List.mem_cons, List.not_mem_nil, or_false, not_or]; exact ⟨hSi, hSt⟩
  have W := (walks_rt (prog := prog) (w := w) (A := A.in1) hh it t hne items hn).toS
  have key : ∀ (h : Heap) (c₁ tk : Nat), IsRt h it t ((items.size : Int) - 1) → IsTup h t items → (∀ b o, b ≠ S → s.heap.get? b = some o → h.get? b = some o) →
      h.get? S = some { cls := .type "list", data := .seq #[] c₁ } → codeAny (model prog w) A (.builtin "list.extend.loop" ⟨[.ref S, .ref it, res], []⟩) R { s with heap := h, toks := tk } := by
    intro h c₁ tk hit1 ht1 hk hS₁
    have e0 : ((items.size : Nat) : Int) - 1 - ((0 : Nat) : Int) = (items.size : Int) - 1 := by omega
    refine codeAny_extend_loopS W hn S hSf res items.size 0 _ #[] c₁ rfl (Nat.zero_le _) ⟨Nat.zero_le _, by rw [e0]; exact hit1, ht1⟩ hS₁ (ItemsOf.nil _) fun s' acc' c' hm hS' hacc => ?_
    rw [Moved.eq_with hm]
    refine hR s'.heap s'.toks acc' c' (fun b o hb hb2 e => hm.heap b o (fun hmem => ?_) (hk b o hb e)) hS' hacc
    rcases List.mem_cons.mp hmem with e' | hmem
    · exact hb e'
    · exact hb2 (List.mem_singleton.mp hmem)
  unfold Builtin.List.listExtendWith
  refine wpAny_bind (wpAny_typeOf (T := "reversed") hit.typeIs ?_)
  have h1 : Builtin.List.listSameRef (.ref S) (.ref it) = false := by simp [Builtin.List.listSameRef, hSi]
  have h2 : (Value.type "reversed" == Value.type "list") = false := by decide
  have h3 : (Value.type "reversed" == Value.type "tuple") = false := by decide
  simp only [h1, h2, h3, Bool.or_false, Bool.false_eq_true, if_false]
  refine wpAny_bind (iter_rt hit ?_)
  refine wpAny_bind (wpAny_holding (hint_rt hit ht hn fun tk => ?_))
  refine wpAny_ite_split (fun _ => ?_) (fun _ => wpAny_pure ⟨plainId_quiet F.plain_extend_loop _, key _ c₀ _ hit ht (fun b o _ e => e) hS⟩)
  refine wpAny_bind (wpAny_rule ?_)
  refine wpAny_bind ?_
  show wpAny _ _ (updateSeq S (·.push .none) >>= fun _ => updateSeq S (·.pop)) _ _ _
  refine wpAny_bind (wpAny_updateSeq (s := { s with toks := tk }) hS rfl ?_)
  have hS₂ := Heap.get?_update_self (Obj.mapSeq (·.push Value.none)) hS rfl
  refine wpAny_updateSeq (hz := by seq_fits) hS₂ rfl ?_
  have hS₃ := Heap.get?_update_self (Obj.mapSeq (·.pop)) hS₂ rfl
  have oth : ∀ b o, b ≠ S → s.heap.get? b = some o → ((s.heap.update S (Obj.mapSeq (·.push Value.none))).update S (Obj.mapSeq (·.pop))).get? b = some o :=
    fun b o hb e => (Heap.get?_update_other _ _ (Ne.symm hb)).trans ((Heap.get?_update_other _ _ (Ne.symm hb)).trans e)
  refine wpAny_pure ⟨plainId_quiet F.plain_extend_loop _, key _ _ _ (hit.at fun o e => oth it o (Ne.symm hSi) e) (let ⟨o, ho, r⟩ := ht; ⟨o, oth t o (Ne.symm hSt) ho, r⟩) oth hS₃⟩
theorem list_init_rt {R : Result → Shared → Prop} {it t : Addr} {items : Array Value} (hh : A.handled = none) (hit : IsRt s.heap it t ((items.size : Int) - 1)) (ht : IsTup s.heap t items) (hne : t ≠ it) (hn : items.size ≤ sizeLine)
    (S : Addr) (hS : s.heap.get? S = some { cls := .type "list", data := .seq #[] }) (hSi : S ≠ it) (hSt : S ≠ t)
    (hR : ∀ h' tk acc' c', (∀ b o, b ≠ S → b ≠ it → s.heap.get? b = some o → h'.get? b = some o) → h'.get? S = some { cls := .type "list", dict := none, data := .seq acc' c', slots := #[] } →
      ItemsOf (fun i v => items[items.size - 1 - i]? = some v) acc' items.size → R (.ok (.ret .none)) { s with heap := h', toks := tk }) :
    wpAny (model prog w) A.in1 (Builtin.«list.__init__» ⟨[.ref S, .ref it], []⟩)
      (fun fin s' => match fin with | .done f => R (.ok f) s' | .again c' => c'.quiet = true ∧ codeAny (model prog w) A c' R s') (fun e s' => R (.error e) s') s := by
  show wpAny _ _ (do let old ← Builtin.List.listItems (.ref S); Builtin.List.listUpdate (.ref S) (fun _ => #[]); letGo old.toList.reverse; Builtin.List.listExtendWith (.ref S) (.ref it) .none) _ _ s
  refine wpAny_bind ?_
  unfold Builtin.List.listItems
  refine wpAny_bind (wpAny_seqItems hS rfl (wpAny_pure ?_))
  show wpAny _ _ (updateSeq S (fun _ => #[]) >>= fun _ => letGo (#[] : Array Value).toList.reverse >>= fun _ => Builtin.List.listExtendWith (.ref S) (.ref it) .none) _ _ s
  refine wpAny_bind (wpAny_updateSeq hS rfl ?_)
  have hS₂ := Heap.get?_update_self (Obj.mapSeq (fun _ => (#[] : Array Value))) hS rfl
  have oth : ∀ b o, b ≠ S → s.heap.get? b = some o → (s.heap.update S (Obj.mapSeq (fun _ => (#[] : Array Value)))).get? b = some o :=
    fun b o hb e => (Heap.get?_update_other _ _ (Ne.symm hb)).trans e
  refine wpAny_bind (wpAny_letGo ?_)
  refine extend_rt (s := { s with heap := s.heap.update S (Obj.mapSeq (fun _ => (#[] : Array Value))) }) hh (hit.at fun o e => oth it o (Ne.symm hSi) e) (let ⟨o, ho, r⟩ := ht; ⟨o, oth t o (Ne.symm hSt) ho, r⟩) hne hn S .none _ hS₂ hSi hSt fun h' tk acc' c' hk hS' hacc => ?_
  exact hR h' tk acc' c' (fun b o hb hb2 e => hk b o hb hb2 (oth b o hb e)) hS' hacc
theorem call_list_rt {Q : Value → Shared → Prop} {it t : Addr} {items : Array Value} (hh : A.handled = none) (hit : IsRt s.heap it t ((items.size : Int) - 1)) (ht : IsTup s.heap t items) (hne : t ≠ it) (hn : items.size ≤ sizeLine)
    (hQ : ∀ h' tk acc' c', (∀ b o, b ≠ it → s.heap.get? b = some o → h'.get? b = some o) →
      h'.get? s.heap.objs.size = some { cls := .type "list", dict := none, data := .seq acc' c', slots := #[] } → ItemsOf (fun i v => items[items.size - 1 - i]? = some v) acc' items.size → Q (.ref s.heap.objs.size) { s with heap := h', toks := tk }) :
    wpAny (model prog w) A (call (.type "list") [.ref it]) Q E s := by
  obtain ⟨oi, hoi, _⟩ := id hit
  obtain ⟨ot, hot, _⟩ := id ht
  refine callType_codes (Q₁ := fun obj s₁ => obj = .ref s.heap.objs.size ∧ s₁ = { s with heap := s.heap.push { cls := .type "list", data := .seq #[] } }) F.called_list (F.typeCall_list_1 _) F.entry_list_init
    (code_list_new _ ⟨rfl, rfl⟩) fun obj s₁ h₁ => ?_
  obtain ⟨rfl, rfl⟩ := h₁
  have hS : (s.heap.push { cls := .type "list", data := .seq #[] }).get? s.heap.objs.size = some { cls := .type "list", data := .seq #[] } := Heap.get?_push_size _ rfl
  refine ⟨⟨_, hS, rfl⟩, F.args_list_init_2 _ _, list_init_rt (s := { s with heap := s.heap.push { cls := .type "list", data := .seq #[] } }) (A := A.in1) hh (hit.at fun o e => Heap.get?_push_of_some _ e) (let ⟨o, ho, r⟩ := ht; ⟨o, Heap.get?_push_of_some _ ho, r⟩) hne hn _ hS (Nat.ne_of_gt (Heap.lt_size hoi)) (Nat.ne_of_gt (Heap.lt_size hot)) fun h' tk acc' c' hk hS' hacc => ?_⟩
  exact ⟨rfl, hQ h' tk acc' c' (fun b o hb e => hk b o (Nat.ne_of_lt (Heap.lt_size e)) hb (Heap.get?_push_of_some _ e)) hS' hacc⟩
end

def tLstRev (K : PySem.W.Frag) (te : TE) : TE := fun σ H Q => te σ H fun v H1 => ∃ (a : Addr) (xs : List V), v = .ref a ∧ SqT K H1 a xs ∧ ∀ q, H1 q = none → Q (.ref q) (upd H1 q (.lst xs.reverse))
section
variable {X : Cx} {Tb : Bs}
theorem pe_lstRev {e : Expr} {te : TE} {p p2 pos pos2 : Pos} (hc : X.calm = true) (hg : Gl X "list") (hm : X.mg "list" = none) (hg2 : Gl X "reversed") (hm2 : X.mg "reversed" = none) (he : PE X e te)
    (hs : starEach [e] X.env = (false, eval e X.env) :: starEach [] X.env := by rfl)
    (hs2 : starEach [.Call (.Name "reversed" p2) [e] [] pos2] X.env = (false, eval (.Call (.Name "reversed" p2) [e] [] pos2) X.env) :: starEach [] X.env := by rfl) :
    PE X (.Call (.Name "list" p) [.Call (.Name "reversed" p2) [e] [] pos2] [] pos) (tLstRev X.K te) := by
  refine ⟨fun pins s σ H Q I h => ?_⟩
  refine Call_ (ld_blt I hg hm boot_list (PyProof.Rows.callWith_type1 (args_cons (Call_ (ld_blt I hg2 hm2 PyProof.Rows.boot_reversed (PyProof.Rows.callWith_type1 (args_cons (thn (he.run pins s σ H _ I h) fun u s1 ⟨v, H1, I1, r1, q1⟩ => args_nil ?_) hs) hs rfl))) hs2) hs2 rfl))
  obtain ⟨a, xs, ev, hq, q⟩ := q1
  subst ev
  obtain rfl : u = Value.ref a := r1
  obtain ⟨its, rv, p', hz⟩ := I1.tuple hq
  have hl := rv.length
  have hn0 := line63
  have hn : its.toArray.size ≤ sizeLine := by rw [List.size_toArray, ← rv.length]; exact hz
  refine call_reversed_tup p' (fun A E Q k => len_tuple p' (by simp only [List.size_toArray] <;> omega) k) (args_nil ?_)
  have k0 : ∀ b o, s1.heap.get? b = some o → (s1.heap.push (rtObj a ((its.toArray.size : Int) - 1))).get? b = some o := fun b o e => Heap.get?_push_of_some _ e
  have I2 : Inv X pins σ H1 { s1 with heap := s1.heap.push (rtObj a ((its.toArray.size : Int) - 1)), toks := s1.toks + 1 + 1 } := I1.kept (t' := s1.toks + 1 + 1) k0
  have fo := I1.fpOk (H' := H1) (b := s1.heap.objs.size) (Nat.le_refl _) (I1.hok.fresh (Nat.le_refl _))
  obtain ⟨ol, hol, rl⟩ := id p'
  have hne : a ≠ s1.heap.objs.size := Nat.ne_of_lt (Heap.lt_size hol)
  refine call_list_rt (s := { s1 with heap := s1.heap.push (rtObj a ((its.toArray.size : Int) - 1)), toks := s1.toks + 1 + 1 }) (I1.ok.hd hc) ⟨_, Heap.get?_push_size _ rfl, rfl, rfl⟩ ⟨ol, k0 _ _ hol, rl⟩ hne hn fun h' tk acc c' hk hS hi => ?_
  have hsz : (s1.heap.push (rtObj a ((its.toArray.size : Int) - 1))).objs.size ≤ (s1.heap.push (rtObj a ((its.toArray.size : Int) - 1))).objs.size := Nat.le_refl _
  refine ⟨.ref (s1.heap.push (rtObj a ((its.toArray.size : Int) - 1))).objs.size, upd H1 (s1.heap.push (rtObj a ((its.toArray.size : Int) - 1))).objs.size (.lst xs.reverse), I2.turnedNew (h' := h') (t' := tk) (ch := [s1.heap.objs.size]) (fun b o hb e => hk b o (fun z => hb (by simp [z])) e) (fun b hb => by
    obtain rfl := List.mem_singleton.mp hb
    exact fo) hsz ?_, rfl, q _ (I2.hok.fresh hsz)⟩
  exact ⟨by rw [List.length_reverse]; exact hz, acc.toList, c', vals_rev rv hi, by simpa using hS⟩
/-- list(reversed(xs)), xs a tuple -/
def aLstRev (aa : AT) : AT := fun s g A => aa s g fun x g1 => match x with
  | .tup ts => ∀ p, g1 p = none → A (.ref p) (set g1 p (.lst ts.reverse))
  | _ => False
theorem ae_lstRev {e : Expr} {aa : AT} {p pos p2 pos2 : Pos} (hc : X.calm = true := by rfl) (hg : Gl X "list" := by rfl) (hm : X.mg "list" = none) (hg2 : Gl X "reversed" := by rfl) (hm2 : X.mg "reversed" = none) (ha : AE X Tb e aa)
    (hs : starEach [e] X.env = (false, eval e X.env) :: starEach [] X.env := by rfl)
    (hs2 : starEach [.Call (.Name "reversed" p2) [e] [] pos2] X.env = (false, eval (.Call (.Name "reversed" p2) [e] [] pos2) X.env) :: starEach [] X.env := by rfl) :
    AE X Tb (.Call (.Name "list" p) [.Call (.Name "reversed" p2) [e] [] pos2] [] pos) (aLstRev aa) := ae_of (pe_lstRev hc hg hm hg2 hm2 ha hs hs2) fun s g A σ H Q R w k =>
  ⟨s, g, _, R, w, fun x v g1 H1 h1 m1 rx z => by
    cases x with
    | tup ts =>
      obtain ⟨a, vs, rfl, sq, r⟩ := Rep.tup_iff.mp rx
      refine ⟨a, vs, rfl, sq, fun q hq => ?_⟩
      obtain ⟨h2, m2⟩ := h1.put (.inl hq) r.reverse
      exact k _ _ _ _ h2 (m1.trans m2) (Rep.ref_iff.mpr rfl) ((show ∀ p, g1 p = none → A (.ref p) (Lz.set g1 p (.lst ts.reverse)) from z) q (h1.free hq))
    | _ => exact (show False from z).elim⟩
end
end Lz

set_option Elab.async false
set_option linter.all false
set_option maxRecDepth 100000
set_option maxHeartbeats 4000000
namespace Tx
open PySem PySem.Spec PyProof.Rows L2 Lz

def top (i : Nat) : Stmt := PySem.Challenge.pw_samesamples_k63_whole_peak_and_mean_wind.main.body.getD i (.Pass ⟨0, 0, 0, 0⟩)
def kv_FILTERS (ad : Str → Addr) : List (Str × Option T) := [("smooth", some (.ref (ad "_smooth"))), ("second", some (.ref (ad "_second"))), ("taps", some (.ref (ad "_taps"))), ("press", some (.ref (ad "_press"))), ("peak", some (.ref (ad "_peak"))), ("mean", some (.ref (ad "_mean")))]
def t_FILTERS (ad : Str → Addr) : Str → Option (Option T) := tabF (kv_FILTERS ad)
def kv_MAKERS (ad : Str → Addr) : List (Str × Option T) := [("level", some (.ref (ad "_level"))), ("feed", some (.ref (ad "_feed"))), ("clock", some (.ref (ad "_clock"))), ("noise", some (.ref (ad "_noise"))), ("wave", some (.ref (ad "_wave"))), ("roll", some (.ref (ad "_roll"))), ("reel", some (.ref (ad "_reel"))), ("taps", none), ("peak", none), ("mean", none)]
def t_MAKERS (ad : Str → Addr) : Str → Option (Option T) := tabF (kv_MAKERS ad)
def kv_SHAPERS (ad : Str → Addr) : List (Str × Option T) := [("mix", some (.ref (ad "_mix"))), ("gain", some (.ref (ad "_gain"))), ("cross", some (.ref (ad "_cross"))), ("fence", some (.ref (ad "_fence"))), ("punch", some (.ref (ad "_punch"))), ("latch", some (.ref (ad "_latch"))), ("curve", some (.ref (ad "_curve"))), ("tape", some (.ref (ad "_tape"))), ("taps", none), ("peak", none), ("mean", none)]
def t_SHAPERS (ad : Str → Addr) : Str → Option (Option T) := tabF (kv_SHAPERS ad)
def kv__INLETS (ad : Str → Addr) : List (Str × Option T) := [("wave", some (.int 1)), ("gain", some (.int 2)), ("cross", some (.int 3)), ("fence", some (.int 1)), ("punch", some (.int 3)), ("latch", some (.int 2)), ("curve", some (.int 1)), ("tape", some (.int 1)), ("smooth", some (.int 1)), ("second", some (.int 1)), ("taps", some (.int 1)), ("press", some (.int 2)), ("peak", some (.int 1)), ("mean", some (.int 1)), ("voices", some (.int 1))]
def t__INLETS (ad : Str → Addr) : Str → Option (Option T) := tabF (kv__INLETS ad)
def kv__IS_ONE (ad : Str → Addr) : List (Str × Option T) := [("worth", some (.ref (ad "_is_worth"))), ("name", some (.ref (ad "_is_name"))), ("mode", some (.ref (ad "_is_mode"))), ("points", some (.ref (ad "_is_points"))), ("notes", some (.ref (ad "_is_notes"))), ("share", some (.ref (ad "is_share"))), ("channel", some (.ref (ad "_is_channel"))), ("height", some (.ref (ad "_is_height"))), ("seed", some (.ref (ad "_is_seed"))), ("table", some (.ref (ad "_is_table"))), ("sound", some (.ref (ad "_is_sound"))), ("num", some (.ref (ad "_is_num"))), ("bent num", some (.ref (ad "_is_bent_num"))), ("den", some (.ref (ad "_is_den"))), ("weight", some (.ref (ad "_is_weight"))), ("mixed weights", some (.ref (ad "_is_mixed_weights"))), ("taps", some (.ref (ad "_is_taps"))), ("many", some (.ref (ad "_is_many"))), ("most", some (.ref (ad "_is_most"))), ("rule", some (.ref (ad "_is_rule"))), ("time", some (.ref (ad "_is_den")))]
def t__IS_ONE (ad : Str → Addr) : Str → Option (Option T) := tabF (kv__IS_ONE ad)
def kv__KNOBS (ad : Str → Addr) : List (Str × Option T) := [("level", some (.tup [.str "worth"])), ("feed", some (.tup [.str "channel"])), ("clock", some (.tup [.str "height", .str "height", .str "height"])), ("noise", some (.tup [.str "seed", .str "height"])), ("wave", some (.tup [.str "table", .str "bent num", .str "den"])), ("roll", some (.tup [.str "sound"])), ("reel", some (.tup [.str "sound", .str "num", .str "den"])), ("mix", some (.tup [.str "mixed weights", .str "worth"])), ("gain", some (.tup [.str "mode"])), ("cross", some (.tup [.str "mode"])), ("fence", some (.tup [.str "height"])), ("punch", some (.tup [.str "height", .str "height"])), ("latch", some (.tup [])), ("curve", some (.tup [.str "points"])), ("tape", some (.tup [.str "sound", .str "height"])), ("smooth", some (.tup [.str "share", .str "mode"])), ("second", some (.tup [.str "weight", .str "weight", .str "weight", .str "weight", .str "weight", .str "mode"])), ("taps", some (.tup [.str "taps"])), ("press", some (.tup [.str "height", .str "num", .str "den", .str "share", .str "share"])), ("peak", some (.tup [.str "many"])), ("mean", some (.tup [.str "many"])), ("voices", some (.tup [.str "name", .str "most", .str "rule", .str "table", .str "time", .str "time"]))]
def t__KNOBS (ad : Str → Addr) : Str → Option (Option T) := tabF (kv__KNOBS ad)
structure Md (K : PySem.W.Frag) (w : World) (mg : Str → Option Value) (ad : Str → Addr) : Prop where
  abs : mg "abs" = none
  all_ : mg "all" = none
  bool_ : mg "bool" = none
  int_ : mg "int" = none
  isinstance : mg "isinstance" = none
  len : mg "len" = none
  list_ : mg "list" = none
  max_ : mg "max" = none
  min_ : mg "min" = none
  range : mg "range" = none
  reversed : mg "reversed" = none
  str_ : mg "str" = none
  sum_ : mg "sum" = none
  tuple_ : mg "tuple" = none
  zip : mg "zip" = none
  c_ONE : ∃ t, mg "ONE" = some (.int (4096) t)
  c_TOP : ∃ t, mg "TOP" = some (.int (1048575) t)
  a_FILTERS : mg "FILTERS" = some (.ref (ad "FILTERS"))
  k_FILTERS : KTab K w (ad "FILTERS") (t_FILTERS ad)
  a_MAKERS : mg "MAKERS" = some (.ref (ad "MAKERS"))
  k_MAKERS : KTab K w (ad "MAKERS") (t_MAKERS ad)
  a_SHAPERS : mg "SHAPERS" = some (.ref (ad "SHAPERS"))
  k_SHAPERS : KTab K w (ad "SHAPERS") (t_SHAPERS ad)
  a__INLETS : mg "_INLETS" = some (.ref (ad "_INLETS"))
  k__INLETS : KTab K w (ad "_INLETS") (t__INLETS ad)
  a__IS_ONE : mg "_IS_ONE" = some (.ref (ad "_IS_ONE"))
  k__IS_ONE : KTab K w (ad "_IS_ONE") (t__IS_ONE ad)
  a__KNOBS : mg "_KNOBS" = some (.ref (ad "_KNOBS"))
  k__KNOBS : KTab K w (ad "_KNOBS") (t__KNOBS ad)
variable {P : Program} {w : World} {K : PySem.W.Frag} {mg : Str → Option Value} {base : Heap} {tabs : List Addr} {ad : Str → Addr}
abbrev s_demand : Stmt := top 5
abbrev s_is_integer : Stmt := top 11
abbrev s_is_within : Stmt := top 12
abbrev s_is_worth : Stmt := top 15
abbrev s_is_sound : Stmt := top 16
abbrev s_is_mode : Stmt := top 17
abbrev s_clip : Stmt := top 74
abbrev s_turned : Stmt := top 75
abbrev s_weighed : Stmt := top 77
abbrev s__newest_first : Stmt := top 88
abbrev s__taps : Stmt := top 91
abbrev s__peak : Stmt := top 93
abbrev s__mean : Stmt := top 94
abbrev s__is_many : Stmt := top 48
abbrev s__is_weight : Stmt := top 44
abbrev s__are_weights : Stmt := top 45
abbrev s__is_taps : Stmt := top 47
abbrev s_knob_words : Stmt := top 25
abbrev s__is_knob : Stmt := top 27
abbrev s__fits : Stmt := top 26
abbrev s_is_settled : Stmt := top 24
abbrev s_inlets_by : Stmt := top 54
abbrev s_columns_of : Stmt := top 115
abbrev s__worths_kept : Stmt := top 100
abbrev s_start_by : Stmt := top 98
abbrev s_start_of : Stmt := top 97
abbrev s_is_state : Stmt := top 99
abbrev s__are_columns : Stmt := top 116
abbrev s_step_of : Stmt := top 114
abbrev s_block_of : Stmt := top 113
abbrev s__law_take : Stmt := top 119
abbrev s__law_pot : Stmt := top 118
abbrev s__law_worth : Stmt := top 121
abbrev s__law_many : Stmt := top 122
abbrev s__law_halfup : Stmt := top 123
abbrev s__law_windows : Stmt := top 124
abbrev s__law_meter : Stmt := top 125
abbrev s__law_from_start : Stmt := top 126
abbrev s__law_peaks : Stmt := top 127
abbrev s__law_means : Stmt := top 128
abbrev s__law_constant : Stmt := top 129
abbrev s_law : Stmt := top 130
abbrev s__law_same : Stmt := top 120
/-! ### what the defs promise -/
def isIntT : T → Bool
  | .int _ => true
  | _ => false
def inR (t : T) (a b : Int) : Bool := match t with
  | .int i => decide (a ≤ i) && decide (i ≤ b)
  | _ => false
def iT (ns : List Int) : T := .tup (ns.map T.int)
def Wo (x : Int) : Prop := -1048575 ≤ x ∧ x ≤ 1048575
def halfup (n m : Int) : Int := (2 * n + m) / (2 * m)
def clipI (v : Int) : Int := max (-1048575) (min 1048575 v)
def dot (ws xs : List Int) : Int := (List.zipWith (fun a b => a * b) ws xs).sum
def maxL : List Int → Int
  | [] => 0
  | x :: xs => xs.foldl max x
def absI (x : Int) : Int := if x < 0 then -x else x
/-- the kinds that are asked -/
inductive Knd where
  | peak (m : Nat)
  | mean (m : Nat)
  | taps (ws : List Int)
def Knd.nm : Knd → Str
  | .peak _ => "peak"
  | .mean _ => "mean"
  | .taps _ => "taps"
def Knd.word : Knd → Str
  | .taps _ => "taps"
  | _ => "many"
def Knd.knob : Knd → T
  | .peak m => .int m
  | .mean m => .int m
  | .taps ws => iT ws
def Knd.wd : Knd → Nat
  | .peak m => m
  | .mean m => m
  | .taps ws => ws.length
def Knd.ok : Knd → Prop
  | .peak m => 1 ≤ m ∧ m ≤ 256
  | .mean m => 1 ≤ m ∧ m ≤ 256
  | .taps ws => (1 ≤ ws.length ∧ ws.length ≤ 16) ∧ ∀ w ∈ ws, -65536 ≤ w ∧ w ≤ 65536
def Knd.isPeak : Knd → Bool
  | .peak _ => true
  | _ => false
def Knd.st (k : Knd) (kept : List Int) : Prop := kept.length + 1 = k.wd ∧ (∀ x ∈ kept, Wo x) ∧ (k.isPeak = true → ∀ x ∈ kept, 0 ≤ x)
def Knd.tell : Knd → List Int → Int → Int
  | .peak _, kept, x => maxL (absI x :: kept)
  | .mean m, kept, x => halfup (x + kept.sum) m
  | .taps ws, kept, x => clipI (halfup (dot ws (x :: kept)) 4096)
def Knd.keep : Knd → List Int → Int → List Int
  | .peak _, kept, x => (absI x :: kept).take kept.length
  | _, kept, x => (x :: kept).take kept.length
def Knd.run (k : Knd) : List Int → List Int → List Int × List Int
  | kept, [] => (kept, [])
  | kept, x :: xs => ((k.run (k.keep kept x) xs).1, k.tell kept x :: (k.run (k.keep kept x) xs).2)

def sp_demand : ASp := fun ts g A _ => ∃ b, ts = [.bl true, b] ∧ A .non g
def sp_is_integer : ASp := fun ts g A _ => ∃ t n, ts = [t] ∧ tyName g t = some n ∧ A (.bl (isIntT t)) g
def sp_is_within : ASp := fun ts g A _ => ∃ t n a b, ts = [t, .int a, .int b] ∧ tyName g t = some n ∧ A (.bl (inR t a b)) g
def sp_is_worth : ASp := fun ts g A _ => ∃ t n, ts = [t] ∧ tyName g t = some n ∧ A (.bl (inR t (-1048575) 1048575)) g
def sp_is_sound : ASp := fun ts g A _ => ∃ us, ts = [.tup us] ∧ (∀ u ∈ us, ∃ n, tyName g u = some n) ∧ A (.bl (us.all fun u => inR u (-1048575) 1048575)) g
def sp_is_mode : ASp := fun ts g A _ => ∃ z : Str, ts = [.str z] ∧ (z = "down" ∨ z = "near" ∨ z = "zero") ∧ A (.bl true) g
def sp_clip : ASp := fun ts g A _ => ∃ v, ts = [.int v] ∧ A (.int (clipI v)) g
def sp_turned : ASp := fun ts g A _ => ∃ v m : Int, ts = [.int v, .int m, .str "near"] ∧ 1 ≤ m ∧ m < 2 ^ 62 ∧ A (.int (halfup v m)) g
def sp_weighed : ASp := fun ts g A _ => ∃ ws xs, ts = [iT ws, iT xs] ∧ (∀ x ∈ xs, Wo x) ∧ ws.length ≤ 1000 ∧ A (.int (dot ws xs)) g
def sp__newest_first : ASp := fun ts g A _ => ∃ x us, ts = [.int x, iT us] ∧ us.length ≤ 1000 ∧ A (iT ((x :: us).take us.length)) g
def sp__taps : ASp := fun ts g A _ => ∃ ws kept x, ts = [.tup [iT ws], iT kept, .tup [.int x]] ∧ (Knd.taps ws).ok ∧ (Knd.taps ws).st kept ∧ Wo x ∧ A (.tup [iT ((Knd.taps ws).keep kept x), .int ((Knd.taps ws).tell kept x)]) g
def sp__peak : ASp := fun ts g A _ => ∃ (m : Nat) (kept : List Int) (x : Int), ts = [.tup [.int m], iT kept, .tup [.int x]] ∧ (Knd.peak m).ok ∧ (Knd.peak m).st kept ∧ Wo x ∧ A (.tup [iT ((Knd.peak m).keep kept x), .int ((Knd.peak m).tell kept x)]) g
def sp__mean : ASp := fun ts g A _ => ∃ (m : Nat) (kept : List Int) (x : Int), ts = [.tup [.int m], iT kept, .tup [.int x]] ∧ (Knd.mean m).ok ∧ (Knd.mean m).st kept ∧ Wo x ∧ A (.tup [iT ((Knd.mean m).keep kept x), .int ((Knd.mean m).tell kept x)]) g
def sp__is_many : ASp := fun ts g A _ => ∃ m : Nat, ts = [.int m] ∧ 1 ≤ m ∧ m ≤ 256 ∧ A (.bl true) g
def sp__is_weight : ASp := fun ts g A _ => ∃ x : Int, ts = [.int x] ∧ -65536 ≤ x ∧ x ≤ 65536 ∧ A (.bl true) g
def sp__are_weights : ASp := fun ts g A _ => ∃ ws, ts = [iT ws] ∧ (∀ w ∈ ws, -65536 ≤ w ∧ w ≤ 65536) ∧ A (.bl true) g
def sp__is_taps : ASp := fun ts g A _ => ∃ ws, ts = [iT ws] ∧ (Knd.taps ws).ok ∧ A (.bl true) g
def sp_knob_words : ASp := fun ts g A _ => ∃ k : Knd, ts = [.str k.nm] ∧ A (.tup [.str k.word]) g
def sp__is_knob : ASp := fun ts g A _ => ∃ k : Knd, ts = [.str k.word, k.knob] ∧ k.ok ∧ A (.bl true) g
def sp__fits : ASp := fun ts g A _ => ∃ k : Knd, ts = [.tup [.str k.word], .tup [k.knob]] ∧ k.ok ∧ A (.bl true) g
def sp_is_settled : ASp := fun ts g A _ => ∃ k : Knd, ts = [.str k.nm, .tup [k.knob]] ∧ k.ok ∧ A (.bl true) g
def sp_inlets_by : ASp := fun ts g A _ => ∃ k : Knd, ts = [.str k.nm, .tup [k.knob]] ∧ A (.int 1) g
def sp_columns_of : ASp := fun ts g A _ => ∃ k : Knd, ts = [.str k.nm, .tup [k.knob]] ∧ A (.int 1) g
def sp__worths_kept : ASp := fun ts g A _ => ∃ k : Knd, ts = [.str k.nm, .tup [k.knob]] ∧ k.ok ∧ A (.int (k.wd - 1)) g
def sp_start_by : ASp := fun ts g A _ => ∃ k : Knd, ts = [.str k.nm, .tup [k.knob]] ∧ k.ok ∧ A (iT (List.replicate (k.wd - 1) 0)) g
def sp_start_of : ASp := fun ts g A _ => ∃ k : Knd, ts = [.str k.nm, .tup [k.knob]] ∧ k.ok ∧ A (iT (List.replicate (k.wd - 1) 0)) g
def sp_is_state : ASp := fun ts g A _ => ∃ (k : Knd) (kept : List Int), ts = [.str k.nm, .tup [k.knob], iT kept] ∧ k.ok ∧ k.st kept ∧ A (.bl true) g
def sp__are_columns : ASp := fun ts g A _ => ∃ xs, ts = [.tup [iT xs], .int 1] ∧ (∀ x ∈ xs, Wo x) ∧ A (.bl true) g
def sp_step_of : ASp := fun ts g A _ => ∃ (k : Knd) (kept : List Int) (x : Int), ts = [.str k.nm, .tup [k.knob], iT kept, .tup [.int x]] ∧ k.ok ∧ k.st kept ∧ Wo x ∧ A (.tup [iT (k.keep kept x), .int (k.tell kept x)]) g
def sp_block_of : ASp := fun ts g A _ => ∃ (k : Knd) (kept xs : List Int), ts = [.str k.nm, .tup [k.knob], iT kept, .tup [iT xs], .int xs.length] ∧ k.ok ∧ k.st kept ∧ (∀ x ∈ xs, Wo x) ∧ xs.length ≤ 2000 ∧ A (.tup [iT (k.run kept xs).1, iT (k.run kept xs).2]) g


abbrev N_demand : List Str := ["holds", "word"]
theorem S_demand : FnScope N_demand ["holds", "word"] (defScope s_demand) := ⟨rfl, rfl, rfl, by decide +kernel, rfl, by decide +kernel, by decide +kernel⟩
def r_demand (ad : Str → Addr) : AS := (aIfS (aNotT (aTest (aVar 0))) aNever aNext)
theorem b_demand (M : Md K w mg ad) {cdv : Value} {f : Addr} {A : Around} {outer : List Env} {s : Shared} {H : Hp} {E : XK} (hr : Room 0 (A.deeper (envOfC "demand" (defScope s_demand) s.heap.objs.size f cdv))) :
    ABl (cxOf CX0 P w K mg base N_demand "demand" (defScope s_demand) f cdv A outer s H E).nox ⟨tabs, H⟩ (defBody s_demand) (r_demand ad) := by
  have S := S_demand
  exact (ab_one (as_if (ap_not (ap_val (ae_var (pv 0)))) (ab_one as_never) ab_nil))
theorem F_demand (M : Md K w mg ad)  {f : Addr} {fd : FuncData} (D : FunD K "demand" "demand" (defArgs s_demand) (defBody s_demand) (defScope s_demand) [] [] f fd) (hm : mg "demand" = some (.ref f))
    (len : ∀ ts g A B, sp_demand ts g A B → ts.length = 2) (pf : ∀ ts g A B, sp_demand ts g A B → r_demand ad (endsOf A) (aStart N_demand ts) g) : Fn P w K mg base CX0 tabs 1 "demand" sp_demand :=
  fn_body0C D rfl S_demand hm (D.bindsN fun _ _ _ _ _ _ us hl => match us, hl with | [_, _], _ => rfl) len (r_demand ad) (fun _ _ _ _ _ hr => b_demand M hr) fun ts g A B h => pf ts g A B h
abbrev N_is_integer : List Str := ["thing"]
theorem S_is_integer : FnScope N_is_integer ["thing"] (defScope s_is_integer) := ⟨rfl, rfl, rfl, by decide +kernel, rfl, by decide +kernel, by decide +kernel⟩
def r_is_integer (ad : Str → Addr) : AS := (aRet (aAndV (aN nIsi (aCons (aVar 0) (aCons (aC (.ty "int")) aNil))) (aNotV (aN nIsi (aCons (aVar 0) (aCons (aC (.ty "bool")) aNil))))))
theorem b_is_integer (M : Md K w mg ad) {cdv : Value} {f : Addr} {A : Around} {outer : List Env} {s : Shared} {H : Hp} {E : XK} (hr : Room 0 (A.deeper (envOfC "is_integer" (defScope s_is_integer) s.heap.objs.size f cdv))) :
    ABl (cxOf CX0 P w K mg base N_is_integer "is_integer" (defScope s_is_integer) f cdv A outer s H E).nox ⟨tabs, H⟩ (defBody s_is_integer) (r_is_integer ad) := by
  have S := S_is_integer
  exact (ab_one (as_ret (ae_and (ae_isi (hm := M.isinstance) (ha := (aa_cons (ae_var (pv 0)) (aa_cons (ae_blt (n := "int") rfl M.int_ boot_int) aa_nil)))) (ae_one (ae_not (ae_isi (hm := M.isinstance) (ha := (aa_cons (ae_var (pv 0)) (aa_cons (ae_blt (n := "bool") rfl M.bool_ boot_bool) aa_nil)))))))))
theorem F_is_integer (M : Md K w mg ad)  {f : Addr} {fd : FuncData} (D : FunD K "is_integer" "is_integer" (defArgs s_is_integer) (defBody s_is_integer) (defScope s_is_integer) [] [] f fd) (hm : mg "is_integer" = some (.ref f))
    (len : ∀ ts g A B, sp_is_integer ts g A B → ts.length = 1) (pf : ∀ ts g A B, sp_is_integer ts g A B → r_is_integer ad (endsOf A) (aStart N_is_integer ts) g) : Fn P w K mg base CX0 tabs 1 "is_integer" sp_is_integer :=
  fn_body0C D rfl S_is_integer hm (D.bindsN fun _ _ _ _ _ _ us hl => match us, hl with | [_], _ => rfl) len (r_is_integer ad) (fun _ _ _ _ _ hr => b_is_integer M hr) fun ts g A B h => pf ts g A B h
abbrev N_is_within : List Str := ["thing", "low", "high"]
theorem S_is_within : FnScope N_is_within ["thing", "low", "high"] (defScope s_is_within) := ⟨rfl, rfl, rfl, by decide +kernel, rfl, by decide +kernel, by decide +kernel⟩
def r_is_within (ad : Str → Addr) : AS := (aRet (aAndV (aCall sp_is_integer (fun _ _ => False) (aCons (aVar 0) aNil)) (aChain vLe vLe (aVar 1) (aVar 0) (aVar 2))))
theorem b_is_within (M : Md K w mg ad) (F_is_integer : Fn P w K mg base CX0 tabs 1 "is_integer" sp_is_integer) {cdv : Value} {f : Addr} {A : Around} {outer : List Env} {s : Shared} {H : Hp} {E : XK} (hr : Room 1 (A.deeper (envOfC "is_within" (defScope s_is_within) s.heap.objs.size f cdv))) :
    ABl (cxOf CX0 P w K mg base N_is_within "is_within" (defScope s_is_within) f cdv A outer s H E).nox ⟨tabs, H⟩ (defBody s_is_within) (r_is_within ad) := by
  have S := S_is_within
  exact (ab_one (as_ret (ae_and (ae_call F_is_integer (Room.mono hr (by decide)) (aa_cons (ae_var (pv 0)) aa_nil)) (ae_one (ae_chain op_le sLe op_le sLe (ae_var (pv 1)) (ae_var (pv 0)) (ae_var (pv 2)))))))
theorem F_is_within (M : Md K w mg ad) (F_is_integer : Fn P w K mg base CX0 tabs 1 "is_integer" sp_is_integer)  {f : Addr} {fd : FuncData} (D : FunD K "is_within" "is_within" (defArgs s_is_within) (defBody s_is_within) (defScope s_is_within) [] [] f fd) (hm : mg "is_within" = some (.ref f))
    (len : ∀ ts g A B, sp_is_within ts g A B → ts.length = 3) (pf : ∀ ts g A B, sp_is_within ts g A B → r_is_within ad (endsOf A) (aStart N_is_within ts) g) : Fn P w K mg base CX0 tabs 2 "is_within" sp_is_within :=
  fn_body0C D rfl S_is_within hm (D.bindsN fun _ _ _ _ _ _ us hl => match us, hl with | [_, _, _], _ => rfl) len (r_is_within ad) (fun _ _ _ _ _ hr => b_is_within M F_is_integer hr) fun ts g A B h => pf ts g A B h
abbrev N_is_worth : List Str := ["thing"]
theorem S_is_worth : FnScope N_is_worth ["thing"] (defScope s_is_worth) := ⟨rfl, rfl, rfl, by decide +kernel, rfl, by decide +kernel, by decide +kernel⟩
def r_is_worth (ad : Str → Addr) : AS := (aRet (aCall sp_is_within (fun _ _ => False) (aCons (aVar 0) (aCons (aUn vNeg (aC (.int 1048575))) (aCons (aC (.int 1048575)) aNil)))))
theorem b_is_worth (M : Md K w mg ad) (F_is_within : Fn P w K mg base CX0 tabs 2 "is_within" sp_is_within) {cdv : Value} {f : Addr} {A : Around} {outer : List Env} {s : Shared} {H : Hp} {E : XK} (hr : Room 2 (A.deeper (envOfC "is_worth" (defScope s_is_worth) s.heap.objs.size f cdv))) :
    ABl (cxOf CX0 P w K mg base N_is_worth "is_worth" (defScope s_is_worth) f cdv A outer s H E).nox ⟨tabs, H⟩ (defBody s_is_worth) (r_is_worth ad) := by
  have S := S_is_worth
  exact (ab_one (as_ret (ae_call F_is_within (Room.mono hr (by decide)) (aa_cons (ae_var (pv 0)) (aa_cons (ae_neg (ae_gi M.c_TOP)) (aa_cons (ae_gi M.c_TOP) aa_nil))))))
theorem F_is_worth (M : Md K w mg ad) (F_is_within : Fn P w K mg base CX0 tabs 2 "is_within" sp_is_within)  {f : Addr} {fd : FuncData} (D : FunD K "is_worth" "is_worth" (defArgs s_is_worth) (defBody s_is_worth) (defScope s_is_worth) [] [] f fd) (hm : mg "is_worth" = some (.ref f))
    (len : ∀ ts g A B, sp_is_worth ts g A B → ts.length = 1) (pf : ∀ ts g A B, sp_is_worth ts g A B → r_is_worth ad (endsOf A) (aStart N_is_worth ts) g) : Fn P w K mg base CX0 tabs 3 "is_worth" sp_is_worth :=
  fn_body0C D rfl S_is_worth hm (D.bindsN fun _ _ _ _ _ _ us hl => match us, hl with | [_], _ => rfl) len (r_is_worth ad) (fun _ _ _ _ _ hr => b_is_worth M F_is_within hr) fun ts g A B h => pf ts g A B h
abbrev N_is_sound : List Str := ["thing", "worth"]
theorem S_is_sound : FnScope N_is_sound ["thing"] (defScope s_is_sound) := ⟨rfl, rfl, rfl, by decide +kernel, rfl, by decide +kernel, by decide +kernel⟩
def r_is_sound (ad : Str → Addr) : AS := (aRet (aAndV (aN nIsi (aCons (aVar 0) (aCons (aC (.ty "tuple")) aNil))) (aAll (iAny (aVar 0)) (gNm 1) (aCall sp_is_worth (fun _ _ => False) (aCons (aVar 1) aNil)) [1])))
theorem b_is_sound (M : Md K w mg ad) (F_is_worth : Fn P w K mg base CX0 tabs 3 "is_worth" sp_is_worth) {c tb : Addr} (hP : tb ∈ tabs) (TB : GxR.TabB base mg c tb) {f : Addr} {A : Around} {outer : List Env} {s : Shared} {H : Hp} {E : XK} (hr : Room 4 (A.deeper (envOfC "is_sound" (defScope s_is_sound) s.heap.objs.size f (.ref c)))) :
    ABl (cxOf CX0 P w K mg base N_is_sound "is_sound" (defScope s_is_sound) f (.ref c) A outer s H E).nox ⟨tabs, H⟩ (defBody s_is_sound) (r_is_sound ad) := by
  have S := S_is_sound
  exact (ab_one (as_ret (ae_and (ae_isi (hm := M.isinstance) (ha := (aa_cons (ae_var (pv 0)) (aa_cons (ae_blt (n := "tuple") rfl M.tuple_ boot_tuple) aa_nil)))) (ae_one (ae_all (own := [("worth", 1)]) hP TB rfl M.all_ ⟨hr.hd, room_dp hr⟩ simG_nm S.nd (ai_any (ae_var (pv 0))) (blkOk_by (own := [("worth", 1)]) (N := N_is_sound) (sc := defScope s_is_sound) (by decide +kernel)) (fun _ _ _ _ _ _ => (pg_name (i := 1) S.nd rfl (by first | exact Or.inl rfl | exact Or.inr rfl))) (fun _ _ _ _ _ _ => (ae_call F_is_worth (Room.mono (room_gen hr) (by decide)) (aa_cons (ae_var (pv 1)) aa_nil))) (hcell := by decide +kernel))))))
theorem F_is_sound (M : Md K w mg ad) (F_is_worth : Fn P w K mg base CX0 tabs 3 "is_worth" sp_is_worth) {c tb : Addr} (hP : tb ∈ tabs) (TB : GxR.TabB base mg c tb) {f : Addr} {fd : FuncData} (D : FunD K "is_sound" "is_sound" (defArgs s_is_sound) (defBody s_is_sound) (defScope s_is_sound) [] [] f fd) (hcd : fd.code = .ref c) (hm : mg "is_sound" = some (.ref f))
    (len : ∀ ts g A B, sp_is_sound ts g A B → ts.length = 1) (pf : ∀ ts g A B, sp_is_sound ts g A B → r_is_sound ad (endsOf A) (aStart N_is_sound ts) g) : Fn P w K mg base CX0 tabs 5 "is_sound" sp_is_sound :=
  fn_body0C D hcd S_is_sound hm (D.bindsN fun _ _ _ _ _ _ us hl => match us, hl with | [_], _ => rfl) len (r_is_sound ad) (fun _ _ _ _ _ hr => b_is_sound M F_is_worth hP TB hr) fun ts g A B h => pf ts g A B h
abbrev N_is_mode : List Str := ["thing"]
theorem S_is_mode : FnScope N_is_mode ["thing"] (defScope s_is_mode) := ⟨rfl, rfl, rfl, by decide +kernel, rfl, by decide +kernel, by decide +kernel⟩
def r_is_mode (ad : Str → Addr) : AS := (aRet (aAndV (aN nIsi (aCons (aVar 0) (aCons (aC (.ty "str")) aNil))) (aOp (vIn false) (aVar 0) (aTup (aCons (aC (.str "down")) (aCons (aC (.str "near")) (aCons (aC (.str "zero")) aNil)))))))
theorem b_is_mode (M : Md K w mg ad) {cdv : Value} {f : Addr} {A : Around} {outer : List Env} {s : Shared} {H : Hp} {E : XK} (hr : Room 0 (A.deeper (envOfC "is_mode" (defScope s_is_mode) s.heap.objs.size f cdv))) :
    ABl (cxOf CX0 P w K mg base N_is_mode "is_mode" (defScope s_is_mode) f cdv A outer s H E).nox ⟨tabs, H⟩ (defBody s_is_mode) (r_is_mode ad) := by
  have S := S_is_mode
  exact (ab_one (as_ret (ae_and (ae_isi (hm := M.isinstance) (ha := (aa_cons (ae_var (pv 0)) (aa_cons (ae_blt (n := "str") rfl M.str_ boot_str) aa_nil)))) (ae_one (ae_in (ae_var (pv 0)) (ae_tup (aa_cons ae_str (aa_cons ae_str (aa_cons ae_str aa_nil)))))))))
theorem F_is_mode (M : Md K w mg ad)  {f : Addr} {fd : FuncData} (D : FunD K "is_mode" "is_mode" (defArgs s_is_mode) (defBody s_is_mode) (defScope s_is_mode) [] [] f fd) (hm : mg "is_mode" = some (.ref f))
    (len : ∀ ts g A B, sp_is_mode ts g A B → ts.length = 1) (pf : ∀ ts g A B, sp_is_mode ts g A B → r_is_mode ad (endsOf A) (aStart N_is_mode ts) g) : Fn P w K mg base CX0 tabs 1 "is_mode" sp_is_mode :=
  fn_body0C D rfl S_is_mode hm (D.bindsN fun _ _ _ _ _ _ us hl => match us, hl with | [_], _ => rfl) len (r_is_mode ad) (fun _ _ _ _ _ hr => b_is_mode M hr) fun ts g A B h => pf ts g A B h
abbrev N_clip : List Str := ["value"]
theorem S_clip : FnScope N_clip ["value"] (defScope s_clip) := ⟨rfl, rfl, rfl, by decide +kernel, rfl, by decide +kernel, by decide +kernel⟩
def r_clip (ad : Str → Addr) : AS := (aSeq (aDrop (aCall sp_demand (fun _ _ => False) (aCons (aCall sp_is_integer (fun _ _ => False) (aCons (aVar 0) aNil)) (aCons (aC (.str "value")) aNil))))
  (aRet (aN nMax2 (aCons (aUn vNeg (aC (.int 1048575))) (aCons (aN nMin2 (aCons (aC (.int 1048575)) (aCons (aVar 0) aNil))) aNil)))))
theorem b_clip (M : Md K w mg ad) (F_is_integer : Fn P w K mg base CX0 tabs 1 "is_integer" sp_is_integer) (F_demand : Fn P w K mg base CX0 tabs 1 "demand" sp_demand) {cdv : Value} {f : Addr} {A : Around} {outer : List Env} {s : Shared} {H : Hp} {E : XK} (hr : Room 1 (A.deeper (envOfC "clip" (defScope s_clip) s.heap.objs.size f cdv))) :
    ABl (cxOf CX0 P w K mg base N_clip "clip" (defScope s_clip) f cdv A outer s H E).nox ⟨tabs, H⟩ (defBody s_clip) (r_clip ad) := by
  have S := S_clip
  exact (ab_cons (as_expr (ae_call F_demand (Room.mono hr (by decide)) (aa_cons (ae_call F_is_integer (Room.mono hr (by decide)) (aa_cons (ae_var (pv 0)) aa_nil)) (aa_cons ae_str aa_nil))))
  (ab_one (as_ret (ae_max2 (hm := M.max_) (ha := (aa_cons (ae_neg (ae_gi M.c_TOP)) (aa_cons (ae_min2 (hm := M.min_) (ha := (aa_cons (ae_gi M.c_TOP) (aa_cons (ae_var (pv 0)) aa_nil)))) aa_nil)))))))
theorem F_clip (M : Md K w mg ad) (F_is_integer : Fn P w K mg base CX0 tabs 1 "is_integer" sp_is_integer) (F_demand : Fn P w K mg base CX0 tabs 1 "demand" sp_demand)  {f : Addr} {fd : FuncData} (D : FunD K "clip" "clip" (defArgs s_clip) (defBody s_clip) (defScope s_clip) [] [] f fd) (hm : mg "clip" = some (.ref f))
    (len : ∀ ts g A B, sp_clip ts g A B → ts.length = 1) (pf : ∀ ts g A B, sp_clip ts g A B → r_clip ad (endsOf A) (aStart N_clip ts) g) : Fn P w K mg base CX0 tabs 2 "clip" sp_clip :=
  fn_body0C D rfl S_clip hm (D.bindsN fun _ _ _ _ _ _ us hl => match us, hl with | [_], _ => rfl) len (r_clip ad) (fun _ _ _ _ _ hr => b_clip M F_is_integer F_demand hr) fun ts g A B h => pf ts g A B h
abbrev N_turned : List Str := ["value", "many", "mode"]
theorem S_turned : FnScope N_turned ["value", "many", "mode"] (defScope s_turned) := ⟨rfl, rfl, rfl, by decide +kernel, rfl, by decide +kernel, by decide +kernel⟩
def r_turned (ad : Str → Addr) : AS := (aSeq (aDrop (aCall sp_demand (fun _ _ => False) (aCons (aCall sp_is_integer (fun _ _ => False) (aCons (aVar 0) aNil)) (aCons (aC (.str "value")) aNil))))
  (aSeq (aDrop (aCall sp_demand (fun _ _ => False) (aCons (aAndV (aCall sp_is_integer (fun _ _ => False) (aCons (aVar 1) aNil)) (aOp vGe (aVar 1) (aC (.int 1)))) (aCons (aC (.str "many")) aNil))))
  (aSeq (aDrop (aCall sp_demand (fun _ _ => False) (aCons (aCall sp_is_mode (fun _ _ => False) (aCons (aVar 2) aNil)) (aCons (aC (.str "mode")) aNil))))
  (aSeq (aIfS (aTest (aOp vEqF (aVar 2) (aC (.str "near")))) (aRet (aOp vDiv (aOp vAdd (aOp vMul (aC (.int 2)) (aVar 0)) (aVar 1)) (aOp vMul (aC (.int 2)) (aVar 1)))) aNext)
  (aSeq (aIfS (aAndT (aTest (aOp vEqF (aVar 2) (aC (.str "zero")))) (aTest (aOp vLt (aVar 0) (aC (.int 0))))) (aRet (aUn vNeg (aOp vDiv (aUn vNeg (aVar 0)) (aVar 1)))) aNext)
  (aRet (aOp vDiv (aVar 0) (aVar 1))))))))
theorem b_turned (M : Md K w mg ad) (F_is_integer : Fn P w K mg base CX0 tabs 1 "is_integer" sp_is_integer) (F_demand : Fn P w K mg base CX0 tabs 1 "demand" sp_demand) (F_is_mode : Fn P w K mg base CX0 tabs 1 "is_mode" sp_is_mode) {cdv : Value} {f : Addr} {A : Around} {outer : List Env} {s : Shared} {H : Hp} {E : XK} (hr : Room 1 (A.deeper (envOfC "turned" (defScope s_turned) s.heap.objs.size f cdv))) :
    ABl (cxOf CX0 P w K mg base N_turned "turned" (defScope s_turned) f cdv A outer s H E).nox ⟨tabs, H⟩ (defBody s_turned) (r_turned ad) := by
  have S := S_turned
  exact (ab_cons (as_expr (ae_call F_demand (Room.mono hr (by decide)) (aa_cons (ae_call F_is_integer (Room.mono hr (by decide)) (aa_cons (ae_var (pv 0)) aa_nil)) (aa_cons ae_str aa_nil))))
  (ab_cons (as_expr (ae_call F_demand (Room.mono hr (by decide)) (aa_cons (ae_and (ae_call F_is_integer (Room.mono hr (by decide)) (aa_cons (ae_var (pv 1)) aa_nil)) (ae_one (ae_ge (ae_var (pv 1)) ae_int))) (aa_cons ae_str aa_nil))))
  (ab_cons (as_expr (ae_call F_demand (Room.mono hr (by decide)) (aa_cons (ae_call F_is_mode (Room.mono hr (by decide)) (aa_cons (ae_var (pv 2)) aa_nil)) (aa_cons ae_str aa_nil))))
  (ab_cons (as_if (ap_eq (ae_var (pv 2)) ae_str) (ab_one (as_ret (ae_div (ae_add (ae_mul ae_int (ae_var (pv 0))) (ae_var (pv 1))) (ae_mul ae_int (ae_var (pv 1)))))) ab_nil)
  (ab_cons (as_if (ap_w (apw_and (ap_eq (ae_var (pv 2)) ae_str) (apw_and1 (ap_lt (ae_var (pv 0)) ae_int)))) (ab_one (as_ret (ae_neg (ae_div (ae_neg (ae_var (pv 0))) (ae_var (pv 1)))))) ab_nil)
  (ab_one (as_ret (ae_div (ae_var (pv 0)) (ae_var (pv 1))))))))))
theorem F_turned (M : Md K w mg ad) (F_is_integer : Fn P w K mg base CX0 tabs 1 "is_integer" sp_is_integer) (F_demand : Fn P w K mg base CX0 tabs 1 "demand" sp_demand) (F_is_mode : Fn P w K mg base CX0 tabs 1 "is_mode" sp_is_mode)  {f : Addr} {fd : FuncData} (D : FunD K "turned" "turned" (defArgs s_turned) (defBody s_turned) (defScope s_turned) [] [] f fd) (hm : mg "turned" = some (.ref f))
    (len : ∀ ts g A B, sp_turned ts g A B → ts.length = 3) (pf : ∀ ts g A B, sp_turned ts g A B → r_turned ad (endsOf A) (aStart N_turned ts) g) : Fn P w K mg base CX0 tabs 2 "turned" sp_turned :=
  fn_body0C D rfl S_turned hm (D.bindsN fun _ _ _ _ _ _ us hl => match us, hl with | [_, _, _], _ => rfl) len (r_turned ad) (fun _ _ _ _ _ hr => b_turned M F_is_integer F_demand F_is_mode hr) fun ts g A B h => pf ts g A B h
abbrev N_weighed : List Str := ["weights", "worths", "weight", "worth"]
theorem S_weighed : FnScope N_weighed ["weights", "worths"] (defScope s_weighed) := ⟨rfl, rfl, rfl, by decide +kernel, rfl, by decide +kernel, by decide +kernel⟩
def r_weighed (ad : Str → Addr) : AS := (aRet (aN nSum (aCons (aLc (iZip (aCons (aVar 0) (aCons (aVar 1) aNil))) (gTp 2 (gCn (gNm 2) (gCn (gNm 3) gNl))) aTrue (aOp vMul (aVar 2) (aVar 3)) [2, 3]) aNil)))
theorem b_weighed (M : Md K w mg ad) {cdv : Value} {f : Addr} {A : Around} {outer : List Env} {s : Shared} {H : Hp} {E : XK} (hr : Room 0 (A.deeper (envOfC "weighed" (defScope s_weighed) s.heap.objs.size f cdv))) :
    ABl (cxOf CX0 P w K mg base N_weighed "weighed" (defScope s_weighed) f cdv A outer s H E).nox ⟨tabs, H⟩ (defBody s_weighed) (r_weighed ad) := by
  have S := S_weighed
  exact (ab_one (as_ret (ae_sum (hm := M.sum_) (ha := (aa_cons (ae_lc (hN := S.nd) (own := [("weight", 2), ("worth", 3)]) (sg := (simG_pair (by decide))) (hi := (ai_zip (hm := M.zip) (ha := (aa_cons (ae_var (pv 0)) (aa_cons (ae_var (pv 1)) aa_nil))))) (ok := blkOk_by (own := [("weight", 2), ("worth", 3)]) (N := N_weighed) (sc := defScope s_weighed) (by decide +kernel)) (hg := (fun _ _ _ _ _ => (pg_tup rfl (pgs_cons (pg_name (i := 2) S.nd rfl (by first | exact Or.inl rfl | exact Or.inr rfl)) (pgs_cons (pg_name (i := 3) S.nd rfl (by first | exact Or.inl rfl | exact Or.inr rfl)) pgs_nil))))) (ht := (fun _ _ _ _ _ => aps_nil)) (he := fun _ _ _ _ _ => (ae_mul (ae_var (pv 2)) (ae_var (pv 3))))) aa_nil)))))
theorem F_weighed (M : Md K w mg ad)  {f : Addr} {fd : FuncData} (D : FunD K "weighed" "weighed" (defArgs s_weighed) (defBody s_weighed) (defScope s_weighed) [] [] f fd) (hm : mg "weighed" = some (.ref f))
    (len : ∀ ts g A B, sp_weighed ts g A B → ts.length = 2) (pf : ∀ ts g A B, sp_weighed ts g A B → r_weighed ad (endsOf A) (aStart N_weighed ts) g) : Fn P w K mg base CX0 tabs 1 "weighed" sp_weighed :=
  fn_body0C D rfl S_weighed hm (D.bindsN fun _ _ _ _ _ _ us hl => match us, hl with | [_, _], _ => rfl) len (r_weighed ad) (fun _ _ _ _ _ hr => b_weighed M hr) fun ts g A B h => pf ts g A B h
abbrev N__newest_first : List Str := ["worth", "kept"]
theorem S__newest_first : FnScope N__newest_first ["worth", "kept"] (defScope s__newest_first) := ⟨rfl, rfl, rfl, by decide +kernel, rfl, by decide +kernel, by decide +kernel⟩
def r__newest_first (ad : Str → Addr) : AS := (aRet (aSl (aOp vAdd (aTup (aCons (aVar 0) aNil)) (aVar 1)) aoNone (aoSome (aN nLen (aCons (aVar 1) aNil)))))
theorem b__newest_first (M : Md K w mg ad) {cdv : Value} {f : Addr} {A : Around} {outer : List Env} {s : Shared} {H : Hp} {E : XK} (hr : Room 0 (A.deeper (envOfC "_newest_first" (defScope s__newest_first) s.heap.objs.size f cdv))) :
    ABl (cxOf CX0 P w K mg base N__newest_first "_newest_first" (defScope s__newest_first) f cdv A outer s H E).nox ⟨tabs, H⟩ (defBody s__newest_first) (r__newest_first ad) := by
  have S := S__newest_first
  exact (ab_one (as_ret (ae_sl (ae_add (ae_tup (aa_cons (ae_var (pv 0)) aa_nil)) (ae_var (pv 1))) ao_none (ao_some (ae_len (hm := M.len) (ha := (aa_cons (ae_var (pv 1)) aa_nil)))))))
theorem F__newest_first (M : Md K w mg ad)  {f : Addr} {fd : FuncData} (D : FunD K "_newest_first" "_newest_first" (defArgs s__newest_first) (defBody s__newest_first) (defScope s__newest_first) [] [] f fd) (hm : mg "_newest_first" = some (.ref f))
    (len : ∀ ts g A B, sp__newest_first ts g A B → ts.length = 2) (pf : ∀ ts g A B, sp__newest_first ts g A B → r__newest_first ad (endsOf A) (aStart N__newest_first ts) g) : Fn P w K mg base CX0 tabs 1 "_newest_first" sp__newest_first :=
  fn_body0C D rfl S__newest_first hm (D.bindsN fun _ _ _ _ _ _ us hl => match us, hl with | [_, _], _ => rfl) len (r__newest_first ad) (fun _ _ _ _ _ hr => b__newest_first M hr) fun ts g A B h => pf ts g A B h
abbrev N__taps : List Str := ["knobs", "kept", "worths", "told"]
theorem S__taps : FnScope N__taps ["knobs", "kept", "worths"] (defScope s__taps) := ⟨rfl, rfl, rfl, by decide +kernel, rfl, by decide +kernel, by decide +kernel⟩
def r__taps (ad : Str → Addr) : AS := (aSeq (aAsg (aCall sp_clip (fun _ _ => False) (aCons (aCall sp_turned (fun _ _ => False) (aCons (aCall sp_weighed (fun _ _ => False) (aCons (aOp vIx (aVar 0) (aC (.int 0))) (aCons (aOp vAdd (aTup (aCons (aOp vIx (aVar 2) (aC (.int 0))) aNil)) (aVar 1)) aNil))) (aCons (aC (.int 4096)) (aCons (aC (.str "near")) aNil)))) aNil)) (gNm 3))
  (aRet (aTup (aCons (aCall sp__newest_first (fun _ _ => False) (aCons (aOp vIx (aVar 2) (aC (.int 0))) (aCons (aVar 1) aNil))) (aCons (aVar 3) aNil)))))
theorem b__taps (M : Md K w mg ad) (F_weighed : Fn P w K mg base CX0 tabs 1 "weighed" sp_weighed) (F_turned : Fn P w K mg base CX0 tabs 2 "turned" sp_turned) (F_clip : Fn P w K mg base CX0 tabs 2 "clip" sp_clip) (F__newest_first : Fn P w K mg base CX0 tabs 1 "_newest_first" sp__newest_first) {cdv : Value} {f : Addr} {A : Around} {outer : List Env} {s : Shared} {H : Hp} {E : XK} (hr : Room 2 (A.deeper (envOfC "_taps" (defScope s__taps) s.heap.objs.size f cdv))) :
    ABl (cxOf CX0 P w K mg base N__taps "_taps" (defScope s__taps) f cdv A outer s H E).nox ⟨tabs, H⟩ (defBody s__taps) (r__taps ad) := by
  have S := S__taps
  exact (ab_cons (as_set (i := 3) S.nd rfl (by first | exact Or.inl rfl | exact Or.inr rfl) (ae_call F_clip (Room.mono hr (by decide)) (aa_cons (ae_call F_turned (Room.mono hr (by decide)) (aa_cons (ae_call F_weighed (Room.mono hr (by decide)) (aa_cons (ae_ix (ae_var (pv 0)) ae_int) (aa_cons (ae_add (ae_tup (aa_cons (ae_ix (ae_var (pv 2)) ae_int) aa_nil)) (ae_var (pv 1))) aa_nil))) (aa_cons (ae_gi M.c_ONE) (aa_cons ae_str aa_nil)))) aa_nil)))
  (ab_one (as_ret (ae_tup (aa_cons (ae_call F__newest_first (Room.mono hr (by decide)) (aa_cons (ae_ix (ae_var (pv 2)) ae_int) (aa_cons (ae_var (pv 1)) aa_nil))) (aa_cons (ae_var (pv 3)) aa_nil))))))
theorem F__taps (M : Md K w mg ad) (F_weighed : Fn P w K mg base CX0 tabs 1 "weighed" sp_weighed) (F_turned : Fn P w K mg base CX0 tabs 2 "turned" sp_turned) (F_clip : Fn P w K mg base CX0 tabs 2 "clip" sp_clip) (F__newest_first : Fn P w K mg base CX0 tabs 1 "_newest_first" sp__newest_first)  {f : Addr} {fd : FuncData} (D : FunD K "_taps" "_taps" (defArgs s__taps) (defBody s__taps) (defScope s__taps) [] [] f fd) (hm : mg "_taps" = some (.ref f))
    (len : ∀ ts g A B, sp__taps ts g A B → ts.length = 3) (pf : ∀ ts g A B, sp__taps ts g A B → r__taps ad (endsOf A) (aStart N__taps ts) g) : Fn P w K mg base CX0 tabs 3 "_taps" sp__taps :=
  fn_body0C D rfl S__taps hm (D.bindsN fun _ _ _ _ _ _ us hl => match us, hl with | [_, _, _], _ => rfl) len (r__taps ad) (fun _ _ _ _ _ hr => b__taps M F_weighed F_turned F_clip F__newest_first hr) fun ts g A B h => pf ts g A B h
abbrev N__peak : List Str := ["knobs", "kept", "worths", "height"]
theorem S__peak : FnScope N__peak ["knobs", "kept", "worths"] (defScope s__peak) := ⟨rfl, rfl, rfl, by decide +kernel, rfl, by decide +kernel, by decide +kernel⟩
def r__peak (ad : Str → Addr) : AS := (aSeq (aAsg (aN nAbs (aCons (aOp vIx (aVar 2) (aC (.int 0))) aNil)) (gNm 3))
  (aRet (aTup (aCons (aCall sp__newest_first (fun _ _ => False) (aCons (aVar 3) (aCons (aVar 1) aNil))) (aCons (aN (nBest true) (aCons (aOp vAdd (aTup (aCons (aVar 3) aNil)) (aVar 1)) aNil)) aNil)))))
theorem b__peak (M : Md K w mg ad) (F__newest_first : Fn P w K mg base CX0 tabs 1 "_newest_first" sp__newest_first) {cdv : Value} {f : Addr} {A : Around} {outer : List Env} {s : Shared} {H : Hp} {E : XK} (hr : Room 1 (A.deeper (envOfC "_peak" (defScope s__peak) s.heap.objs.size f cdv))) :
    ABl (cxOf CX0 P w K mg base N__peak "_peak" (defScope s__peak) f cdv A outer s H E).nox ⟨tabs, H⟩ (defBody s__peak) (r__peak ad) := by
  have S := S__peak
  exact (ab_cons (as_set (i := 3) S.nd rfl (by first | exact Or.inl rfl | exact Or.inr rfl) (ae_abs (hm := M.abs) (ha := (aa_cons (ae_ix (ae_var (pv 2)) ae_int) aa_nil))))
  (ab_one (as_ret (ae_tup (aa_cons (ae_call F__newest_first (Room.mono hr (by decide)) (aa_cons (ae_var (pv 3)) (aa_cons (ae_var (pv 1)) aa_nil))) (aa_cons (ae_max1 (hm := M.max_) (ha := (aa_cons (ae_add (ae_tup (aa_cons (ae_var (pv 3)) aa_nil)) (ae_var (pv 1))) aa_nil))) aa_nil))))))
theorem F__peak (M : Md K w mg ad) (F__newest_first : Fn P w K mg base CX0 tabs 1 "_newest_first" sp__newest_first)  {f : Addr} {fd : FuncData} (D : FunD K "_peak" "_peak" (defArgs s__peak) (defBody s__peak) (defScope s__peak) [] [] f fd) (hm : mg "_peak" = some (.ref f))
    (len : ∀ ts g A B, sp__peak ts g A B → ts.length = 3) (pf : ∀ ts g A B, sp__peak ts g A B → r__peak ad (endsOf A) (aStart N__peak ts) g) : Fn P w K mg base CX0 tabs 2 "_peak" sp__peak :=
  fn_body0C D rfl S__peak hm (D.bindsN fun _ _ _ _ _ _ us hl => match us, hl with | [_, _, _], _ => rfl) len (r__peak ad) (fun _ _ _ _ _ hr => b__peak M F__newest_first hr) fun ts g A B h => pf ts g A B h
abbrev N__mean : List Str := ["knobs", "kept", "worths"]
theorem S__mean : FnScope N__mean ["knobs", "kept", "worths"] (defScope s__mean) := ⟨rfl, rfl, rfl, by decide +kernel, rfl, by decide +kernel, by decide +kernel⟩
def r__mean (ad : Str → Addr) : AS := (aRet (aTup (aCons (aCall sp__newest_first (fun _ _ => False) (aCons (aOp vIx (aVar 2) (aC (.int 0))) (aCons (aVar 1) aNil))) (aCons (aCall sp_turned (fun _ _ => False) (aCons (aOp vAdd (aOp vIx (aVar 2) (aC (.int 0))) (aN nSum (aCons (aVar 1) aNil))) (aCons (aOp vIx (aVar 0) (aC (.int 0))) (aCons (aC (.str "near")) aNil)))) aNil))))
theorem b__mean (M : Md K w mg ad) (F_turned : Fn P w K mg base CX0 tabs 2 "turned" sp_turned) (F__newest_first : Fn P w K mg base CX0 tabs 1 "_newest_first" sp__newest_first) {cdv : Value} {f : Addr} {A : Around} {outer : List Env} {s : Shared} {H : Hp} {E : XK} (hr : Room 2 (A.deeper (envOfC "_mean" (defScope s__mean) s.heap.objs.size f cdv))) :
    ABl (cxOf CX0 P w K mg base N__mean "_mean" (defScope s__mean) f cdv A outer s H E).nox ⟨tabs, H⟩ (defBody s__mean) (r__mean ad) := by
  have S := S__mean
  exact (ab_one (as_ret (ae_tup (aa_cons (ae_call F__newest_first (Room.mono hr (by decide)) (aa_cons (ae_ix (ae_var (pv 2)) ae_int) (aa_cons (ae_var (pv 1)) aa_nil))) (aa_cons (ae_call F_turned (Room.mono hr (by decide)) (aa_cons (ae_add (ae_ix (ae_var (pv 2)) ae_int) (ae_sum (hm := M.sum_) (ha := (aa_cons (ae_var (pv 1)) aa_nil)))) (aa_cons (ae_ix (ae_var (pv 0)) ae_int) (aa_cons ae_str aa_nil)))) aa_nil)))))
theorem F__mean (M : Md K w mg ad) (F_turned : Fn P w K mg base CX0 tabs 2 "turned" sp_turned) (F__newest_first : Fn P w K mg base CX0 tabs 1 "_newest_first" sp__newest_first)  {f : Addr} {fd : FuncData} (D : FunD K "_mean" "_mean" (defArgs s__mean) (defBody s__mean) (defScope s__mean) [] [] f fd) (hm : mg "_mean" = some (.ref f))
    (len : ∀ ts g A B, sp__mean ts g A B → ts.length = 3) (pf : ∀ ts g A B, sp__mean ts g A B → r__mean ad (endsOf A) (aStart N__mean ts) g) : Fn P w K mg base CX0 tabs 3 "_mean" sp__mean :=
  fn_body0C D rfl S__mean hm (D.bindsN fun _ _ _ _ _ _ us hl => match us, hl with | [_, _, _], _ => rfl) len (r__mean ad) (fun _ _ _ _ _ hr => b__mean M F_turned F__newest_first hr) fun ts g A B h => pf ts g A B h
abbrev N__is_many : List Str := ["thing"]
theorem S__is_many : FnScope N__is_many ["thing"] (defScope s__is_many) := ⟨rfl, rfl, rfl, by decide +kernel, rfl, by decide +kernel, by decide +kernel⟩
def r__is_many (ad : Str → Addr) : AS := (aRet (aCall sp_is_within (fun _ _ => False) (aCons (aVar 0) (aCons (aC (.int 1)) (aCons (aC (.int 256)) aNil)))))
theorem b__is_many (M : Md K w mg ad) (F_is_within : Fn P w K mg base CX0 tabs 2 "is_within" sp_is_within) {cdv : Value} {f : Addr} {A : Around} {outer : List Env} {s : Shared} {H : Hp} {E : XK} (hr : Room 2 (A.deeper (envOfC "_is_many" (defScope s__is_many) s.heap.objs.size f cdv))) :
    ABl (cxOf CX0 P w K mg base N__is_many "_is_many" (defScope s__is_many) f cdv A outer s H E).nox ⟨tabs, H⟩ (defBody s__is_many) (r__is_many ad) := by
  have S := S__is_many
  exact (ab_one (as_ret (ae_call F_is_within (Room.mono hr (by decide)) (aa_cons (ae_var (pv 0)) (aa_cons ae_int (aa_cons ae_int aa_nil))))))
theorem F__is_many (M : Md K w mg ad) (F_is_within : Fn P w K mg base CX0 tabs 2 "is_within" sp_is_within)  {f : Addr} {fd : FuncData} (D : FunD K "_is_many" "_is_many" (defArgs s__is_many) (defBody s__is_many) (defScope s__is_many) [] [] f fd) (hm : mg "_is_many" = some (.ref f))
    (len : ∀ ts g A B, sp__is_many ts g A B → ts.length = 1) (pf : ∀ ts g A B, sp__is_many ts g A B → r__is_many ad (endsOf A) (aStart N__is_many ts) g) : Fn P w K mg base CX0 tabs 3 "_is_many" sp__is_many :=
  fn_body0C D rfl S__is_many hm (D.bindsN fun _ _ _ _ _ _ us hl => match us, hl with | [_], _ => rfl) len (r__is_many ad) (fun _ _ _ _ _ hr => b__is_many M F_is_within hr) fun ts g A B h => pf ts g A B h
abbrev N__is_weight : List Str := ["thing"]
theorem S__is_weight : FnScope N__is_weight ["thing"] (defScope s__is_weight) := ⟨rfl, rfl, rfl, by decide +kernel, rfl, by decide +kernel, by decide +kernel⟩
def r__is_weight (ad : Str → Addr) : AS := (aRet (aCall sp_is_within (fun _ _ => False) (aCons (aVar 0) (aCons (aUn vNeg (aC (.int 65536))) (aCons (aC (.int 65536)) aNil)))))
theorem b__is_weight (M : Md K w mg ad) (F_is_within : Fn P w K mg base CX0 tabs 2 "is_within" sp_is_within) {cdv : Value} {f : Addr} {A : Around} {outer : List Env} {s : Shared} {H : Hp} {E : XK} (hr : Room 2 (A.deeper (envOfC "_is_weight" (defScope s__is_weight) s.heap.objs.size f cdv))) :
    ABl (cxOf CX0 P w K mg base N__is_weight "_is_weight" (defScope s__is_weight) f cdv A outer s H E).nox ⟨tabs, H⟩ (defBody s__is_weight) (r__is_weight ad) := by
  have S := S__is_weight
  exact (ab_one (as_ret (ae_call F_is_within (Room.mono hr (by decide)) (aa_cons (ae_var (pv 0)) (aa_cons (ae_neg ae_int) (aa_cons ae_int aa_nil))))))
theorem F__is_weight (M : Md K w mg ad) (F_is_within : Fn P w K mg base CX0 tabs 2 "is_within" sp_is_within)  {f : Addr} {fd : FuncData} (D : FunD K "_is_weight" "_is_weight" (defArgs s__is_weight) (defBody s__is_weight) (defScope s__is_weight) [] [] f fd) (hm : mg "_is_weight" = some (.ref f))
    (len : ∀ ts g A B, sp__is_weight ts g A B → ts.length = 1) (pf : ∀ ts g A B, sp__is_weight ts g A B → r__is_weight ad (endsOf A) (aStart N__is_weight ts) g) : Fn P w K mg base CX0 tabs 3 "_is_weight" sp__is_weight :=
  fn_body0C D rfl S__is_weight hm (D.bindsN fun _ _ _ _ _ _ us hl => match us, hl with | [_], _ => rfl) len (r__is_weight ad) (fun _ _ _ _ _ hr => b__is_weight M F_is_within hr) fun ts g A B h => pf ts g A B h
abbrev N__are_weights : List Str := ["thing", "weight"]
theorem S__are_weights : FnScope N__are_weights ["thing"] (defScope s__are_weights) := ⟨rfl, rfl, rfl, by decide +kernel, rfl, by decide +kernel, by decide +kernel⟩
def r__are_weights (ad : Str → Addr) : AS := (aRet (aAndV (aN nIsi (aCons (aVar 0) (aCons (aC (.ty "tuple")) aNil))) (aAll (iAny (aVar 0)) (gNm 1) (aCall sp__is_weight (fun _ _ => False) (aCons (aVar 1) aNil)) [1])))
theorem b__are_weights (M : Md K w mg ad) (F__is_weight : Fn P w K mg base CX0 tabs 3 "_is_weight" sp__is_weight) {c tb : Addr} (hP : tb ∈ tabs) (TB : GxR.TabB base mg c tb) {f : Addr} {A : Around} {outer : List Env} {s : Shared} {H : Hp} {E : XK} (hr : Room 4 (A.deeper (envOfC "_are_weights" (defScope s__are_weights) s.heap.objs.size f (.ref c)))) :
    ABl (cxOf CX0 P w K mg base N__are_weights "_are_weights" (defScope s__are_weights) f (.ref c) A outer s H E).nox ⟨tabs, H⟩ (defBody s__are_weights) (r__are_weights ad) := by
  have S := S__are_weights
  exact (ab_one (as_ret (ae_and (ae_isi (hm := M.isinstance) (ha := (aa_cons (ae_var (pv 0)) (aa_cons (ae_blt (n := "tuple") rfl M.tuple_ boot_tuple) aa_nil)))) (ae_one (ae_all (own := [("weight", 1)]) hP TB rfl M.all_ ⟨hr.hd, room_dp hr⟩ simG_nm S.nd (ai_any (ae_var (pv 0))) (blkOk_by (own := [("weight", 1)]) (N := N__are_weights) (sc := defScope s__are_weights) (by decide +kernel)) (fun _ _ _ _ _ _ => (pg_name (i := 1) S.nd rfl (by first | exact Or.inl rfl | exact Or.inr rfl))) (fun _ _ _ _ _ _ => (ae_call F__is_weight (Room.mono (room_gen hr) (by decide)) (aa_cons (ae_var (pv 1)) aa_nil))) (hcell := by decide +kernel))))))
theorem F__are_weights (M : Md K w mg ad) (F__is_weight : Fn P w K mg base CX0 tabs 3 "_is_weight" sp__is_weight) {c tb : Addr} (hP : tb ∈ tabs) (TB : GxR.TabB base mg c tb) {f : Addr} {fd : FuncData} (D : FunD K "_are_weights" "_are_weights" (defArgs s__are_weights) (defBody s__are_weights) (defScope s__are_weights) [] [] f fd) (hcd : fd.code = .ref c) (hm : mg "_are_weights" = some (.ref f))
    (len : ∀ ts g A B, sp__are_weights ts g A B → ts.length = 1) (pf : ∀ ts g A B, sp__are_weights ts g A B → r__are_weights ad (endsOf A) (aStart N__are_weights ts) g) : Fn P w K mg base CX0 tabs 5 "_are_weights" sp__are_weights :=
  fn_body0C D hcd S__are_weights hm (D.bindsN fun _ _ _ _ _ _ us hl => match us, hl with | [_], _ => rfl) len (r__are_weights ad) (fun _ _ _ _ _ hr => b__are_weights M F__is_weight hP TB hr) fun ts g A B h => pf ts g A B h
abbrev N__is_taps : List Str := ["thing"]
theorem S__is_taps : FnScope N__is_taps ["thing"] (defScope s__is_taps) := ⟨rfl, rfl, rfl, by decide +kernel, rfl, by decide +kernel, by decide +kernel⟩
def r__is_taps (ad : Str → Addr) : AS := (aRet (aAndV (aCall sp__are_weights (fun _ _ => False) (aCons (aVar 0) aNil)) (aChain vLe vLe (aC (.int 1)) (aN nLen (aCons (aVar 0) aNil)) (aC (.int 16)))))
theorem b__is_taps (M : Md K w mg ad) (F__are_weights : Fn P w K mg base CX0 tabs 5 "_are_weights" sp__are_weights) {cdv : Value} {f : Addr} {A : Around} {outer : List Env} {s : Shared} {H : Hp} {E : XK} (hr : Room 5 (A.deeper (envOfC "_is_taps" (defScope s__is_taps) s.heap.objs.size f cdv))) :
    ABl (cxOf CX0 P w K mg base N__is_taps "_is_taps" (defScope s__is_taps) f cdv A outer s H E).nox ⟨tabs, H⟩ (defBody s__is_taps) (r__is_taps ad) := by
  have S := S__is_taps
  exact (ab_one (as_ret (ae_and (ae_call F__are_weights (Room.mono hr (by decide)) (aa_cons (ae_var (pv 0)) aa_nil)) (ae_one (ae_chain op_le sLe op_le sLe ae_int (ae_len (hm := M.len) (ha := (aa_cons (ae_var (pv 0)) aa_nil))) ae_int)))))
theorem F__is_taps (M : Md K w mg ad) (F__are_weights : Fn P w K mg base CX0 tabs 5 "_are_weights" sp__are_weights)  {f : Addr} {fd : FuncData} (D : FunD K "_is_taps" "_is_taps" (defArgs s__is_taps) (defBody s__is_taps) (defScope s__is_taps) [] [] f fd) (hm : mg "_is_taps" = some (.ref f))
    (len : ∀ ts g A B, sp__is_taps ts g A B → ts.length = 1) (pf : ∀ ts g A B, sp__is_taps ts g A B → r__is_taps ad (endsOf A) (aStart N__is_taps ts) g) : Fn P w K mg base CX0 tabs 6 "_is_taps" sp__is_taps :=
  fn_body0C D rfl S__is_taps hm (D.bindsN fun _ _ _ _ _ _ us hl => match us, hl with | [_], _ => rfl) len (r__is_taps ad) (fun _ _ _ _ _ hr => b__is_taps M F__are_weights hr) fun ts g A B h => pf ts g A B h
abbrev N_knob_words : List Str := ["kind"]
theorem S_knob_words : FnScope N_knob_words ["kind"] (defScope s_knob_words) := ⟨rfl, rfl, rfl, by decide +kernel, rfl, by decide +kernel, by decide +kernel⟩
def r_knob_words (ad : Str → Addr) : AS := (aRet (aIf (aTest (aN nIsi (aCons (aVar 0) (aCons (aC (.ty "str")) aNil)))) (aKGet1 (t__KNOBS ad) (aVar 0)) (aC .non)))
theorem b_knob_words (M : Md K w mg ad) {cdv : Value} {f : Addr} {A : Around} {outer : List Env} {s : Shared} {H : Hp} {E : XK} (hr : Room 0 (A.deeper (envOfC "knob_words" (defScope s_knob_words) s.heap.objs.size f cdv))) :
    ABl (cxOf CX0 P w K mg base N_knob_words "knob_words" (defScope s_knob_words) f cdv A outer s H E).nox ⟨tabs, H⟩ (defBody s_knob_words) (r_knob_words ad) := by
  have S := S_knob_words
  exact (ab_one (as_ret (ae_if (ap_val (ae_isi (hm := M.isinstance) (ha := (aa_cons (ae_var (pv 0)) (aa_cons (ae_blt (n := "str") rfl M.str_ boot_str) aa_nil))))) (ae_kget1 (M.k__KNOBS) (ae_gr M.a__KNOBS) (ae_var (pv 0))) ae_non)))
theorem F_knob_words (M : Md K w mg ad)  {f : Addr} {fd : FuncData} (D : FunD K "knob_words" "knob_words" (defArgs s_knob_words) (defBody s_knob_words) (defScope s_knob_words) [] [] f fd) (hm : mg "knob_words" = some (.ref f))
    (len : ∀ ts g A B, sp_knob_words ts g A B → ts.length = 1) (pf : ∀ ts g A B, sp_knob_words ts g A B → r_knob_words ad (endsOf A) (aStart N_knob_words ts) g) : Fn P w K mg base CX0 tabs 1 "knob_words" sp_knob_words :=
  fn_body0C D rfl S_knob_words hm (D.bindsN fun _ _ _ _ _ _ us hl => match us, hl with | [_], _ => rfl) len (r_knob_words ad) (fun _ _ _ _ _ hr => b_knob_words M hr) fun ts g A B h => pf ts g A B h
abbrev N__is_knob : List Str := ["word", "knob", "is_one"]
theorem S__is_knob : FnScope N__is_knob ["word", "knob"] (defScope s__is_knob) := ⟨rfl, rfl, rfl, by decide +kernel, rfl, by decide +kernel, by decide +kernel⟩
def r__is_knob (ad : Str → Addr) (Hd__is_knob : Addr → ASp → Prop) : AS := (aSeq (aAsg (aKIx (t__IS_ONE ad) (aVar 0)) (gNm 2))
  (aRet (aCallL 2 Hd__is_knob (aCons (aVar 1) aNil))))
theorem b__is_knob (M : Md K w mg ad) (Hd__is_knob : Addr → ASp → Prop) (hHd : ∀ a asp, Hd__is_knob a asp → FnAt P w K mg base tabs 6 a asp) {cdv : Value} {f : Addr} {A : Around} {outer : List Env} {s : Shared} {H : Hp} {E : XK} (hr : Room 6 (A.deeper (envOfC "_is_knob" (defScope s__is_knob) s.heap.objs.size f cdv))) :
    ABl (cxOf CX0 P w K mg base N__is_knob "_is_knob" (defScope s__is_knob) f cdv A outer s H E).nox ⟨tabs, H⟩ (defBody s__is_knob) (r__is_knob ad Hd__is_knob) := by
  have S := S__is_knob
  exact (ab_cons (as_set (i := 2) S.nd rfl (by first | exact Or.inl rfl | exact Or.inr rfl) (ae_kix (M.k__IS_ONE) (ae_gr M.a__IS_ONE) (ae_var (pv 0))))
  (ab_one (as_ret (ae_callL (i := 2) hHd hr rfl (by first | exact Or.inl rfl | exact Or.inr (Or.inl rfl)) (aa_cons (ae_var (pv 1)) aa_nil)))))
theorem F__is_knob (M : Md K w mg ad) (Hd__is_knob : Addr → ASp → Prop) (hHd : ∀ a asp, Hd__is_knob a asp → FnAt P w K mg base tabs 6 a asp)  {f : Addr} {fd : FuncData} (D : FunD K "_is_knob" "_is_knob" (defArgs s__is_knob) (defBody s__is_knob) (defScope s__is_knob) [] [] f fd) (hm : mg "_is_knob" = some (.ref f))
    (len : ∀ ts g A B, sp__is_knob ts g A B → ts.length = 2) (pf : ∀ ts g A B, sp__is_knob ts g A B → r__is_knob ad Hd__is_knob (endsOf A) (aStart N__is_knob ts) g) : Fn P w K mg base CX0 tabs 7 "_is_knob" sp__is_knob :=
  fn_body0C D rfl S__is_knob hm (D.bindsN fun _ _ _ _ _ _ us hl => match us, hl with | [_, _], _ => rfl) len (r__is_knob ad Hd__is_knob) (fun _ _ _ _ _ hr => b__is_knob M Hd__is_knob hHd hr) fun ts g A B h => pf ts g A B h
abbrev N__fits : List Str := ["words", "thing", "word", "knob"]
theorem S__fits : FnScope N__fits ["words", "thing"] (defScope s__fits) := ⟨rfl, rfl, rfl, by decide +kernel, rfl, by decide +kernel, by decide +kernel⟩
def r__fits (ad : Str → Addr) : AS := (aSeq (aIfS (aOrT (aNotT (aTest (aN nIsi (aCons (aVar 1) (aCons (aC (.ty "tuple")) aNil))))) (aTest (aOp vNeF (aN nLen (aCons (aVar 1) aNil)) (aN nLen (aCons (aVar 0) aNil))))) (aRet (aC (.bl false))) aNext)
  (aSeq (aIfS (aNotT (aTest (aN nAll (aCons (aLc (iZip (aCons (aVar 0) (aCons (aVar 1) aNil))) (gTp 2 (gCn (gNm 2) (gCn (gNm 3) gNl))) aTrue (aCall sp__is_knob (fun _ _ => False) (aCons (aVar 2) (aCons (aVar 3) aNil))) [2, 3]) aNil)))) (aRet (aC (.bl false))) aNext)
  (aRet (aOrV (aOp vNeD (aVar 0) (aKIx (t__KNOBS ad) (aC (.str "press")))) (aOp vLe (aOp vIx (aVar 1) (aC (.int 1))) (aOp vIx (aVar 1) (aC (.int 2))))))))
theorem b__fits (M : Md K w mg ad) (F__is_knob : Fn P w K mg base CX0 tabs 7 "_is_knob" sp__is_knob) {cdv : Value} {f : Addr} {A : Around} {outer : List Env} {s : Shared} {H : Hp} {E : XK} (hr : Room 7 (A.deeper (envOfC "_fits" (defScope s__fits) s.heap.objs.size f cdv))) :
    ABl (cxOf CX0 P w K mg base N__fits "_fits" (defScope s__fits) f cdv A outer s H E).nox ⟨tabs, H⟩ (defBody s__fits) (r__fits ad) := by
  have S := S__fits
  exact (ab_cons (as_if (ap_w (apw_or (ap_not (ap_val (ae_isi (hm := M.isinstance) (ha := (aa_cons (ae_var (pv 1)) (aa_cons (ae_blt (n := "tuple") rfl M.tuple_ boot_tuple) aa_nil)))))) (apw_or1 (ap_ne (ae_len (hm := M.len) (ha := (aa_cons (ae_var (pv 1)) aa_nil))) (ae_len (hm := M.len) (ha := (aa_cons (ae_var (pv 0)) aa_nil))))))) (ab_one (as_ret ae_bl)) ab_nil)
  (ab_cons (as_if (ap_not (ap_val (ae_allL (hm := M.all_) (ha := (aa_cons (ae_lc (hN := S.nd) (own := [("word", 2), ("knob", 3)]) (sg := (simG_pair (by decide))) (hi := (ai_zip (hm := M.zip) (ha := (aa_cons (ae_var (pv 0)) (aa_cons (ae_var (pv 1)) aa_nil))))) (ok := blkOk_by (own := [("word", 2), ("knob", 3)]) (N := N__fits) (sc := defScope s__fits) (by decide +kernel)) (hg := (fun _ _ _ _ _ => (pg_tup rfl (pgs_cons (pg_name (i := 2) S.nd rfl (by first | exact Or.inl rfl | exact Or.inr rfl)) (pgs_cons (pg_name (i := 3) S.nd rfl (by first | exact Or.inl rfl | exact Or.inr rfl)) pgs_nil))))) (ht := (fun _ _ _ _ _ => aps_nil)) (he := fun _ _ _ _ _ => (ae_call F__is_knob (Room.mono hr (by decide)) (aa_cons (ae_var (pv 2)) (aa_cons (ae_var (pv 3)) aa_nil))))) aa_nil))))) (ab_one (as_ret ae_bl)) ab_nil)
  (ab_one (as_ret (ae_or (ae_neD hr (ae_var (pv 0)) (ae_kix (M.k__KNOBS) (ae_gr M.a__KNOBS) ae_str)) (ae_one (ae_le (ae_ix (ae_var (pv 1)) ae_int) (ae_ix (ae_var (pv 1)) ae_int))))))))
theorem F__fits (M : Md K w mg ad) (F__is_knob : Fn P w K mg base CX0 tabs 7 "_is_knob" sp__is_knob)  {f : Addr} {fd : FuncData} (D : FunD K "_fits" "_fits" (defArgs s__fits) (defBody s__fits) (defScope s__fits) [] [] f fd) (hm : mg "_fits" = some (.ref f))
    (len : ∀ ts g A B, sp__fits ts g A B → ts.length = 2) (pf : ∀ ts g A B, sp__fits ts g A B → r__fits ad (endsOf A) (aStart N__fits ts) g) : Fn P w K mg base CX0 tabs 8 "_fits" sp__fits :=
  fn_body0C D rfl S__fits hm (D.bindsN fun _ _ _ _ _ _ us hl => match us, hl with | [_, _], _ => rfl) len (r__fits ad) (fun _ _ _ _ _ hr => b__fits M F__is_knob hr) fun ts g A B h => pf ts g A B h
abbrev N_is_settled : List Str := ["kind", "thing", "words"]
theorem S_is_settled : FnScope N_is_settled ["kind", "thing"] (defScope s_is_settled) := ⟨rfl, rfl, rfl, by decide +kernel, rfl, by decide +kernel, by decide +kernel⟩
def r_is_settled (ad : Str → Addr) : AS := (aSeq (aAsg (aCall sp_knob_words (fun _ _ => False) (aCons (aVar 0) aNil)) (gNm 2))
  (aSeq (aIfS (aTest (aOp vIsN (aVar 2) (aC .non))) (aRet (aC (.bl false))) aNext)
  (aRet (aCall sp__fits (fun _ _ => False) (aCons (aIf (aTest (aOp vEqF (aVar 0) (aC (.str "voices")))) (aOp vAdd (aTup (aCons (aC (.str "notes")) aNil)) (aSl (aVar 2) (aoSome (aC (.int 1))) aoNone)) (aVar 2)) (aCons (aVar 1) aNil))))))
theorem b_is_settled (M : Md K w mg ad) (F_knob_words : Fn P w K mg base CX0 tabs 1 "knob_words" sp_knob_words) (F__fits : Fn P w K mg base CX0 tabs 8 "_fits" sp__fits) {cdv : Value} {f : Addr} {A : Around} {outer : List Env} {s : Shared} {H : Hp} {E : XK} (hr : Room 8 (A.deeper (envOfC "is_settled" (defScope s_is_settled) s.heap.objs.size f cdv))) :
    ABl (cxOf CX0 P w K mg base N_is_settled "is_settled" (defScope s_is_settled) f cdv A outer s H E).nox ⟨tabs, H⟩ (defBody s_is_settled) (r_is_settled ad) := by
  have S := S_is_settled
  exact (ab_cons (as_set (i := 2) S.nd rfl (by first | exact Or.inl rfl | exact Or.inr rfl) (ae_call F_knob_words (Room.mono hr (by decide)) (aa_cons (ae_var (pv 0)) aa_nil)))
  (ab_cons (as_if (ap_isN (ae_var (pv 2)) ae_non) (ab_one (as_ret ae_bl)) ab_nil)
  (ab_one (as_ret (ae_call F__fits (Room.mono hr (by decide)) (aa_cons (ae_if (ap_eq (ae_var (pv 0)) ae_str) (ae_add (ae_tup (aa_cons ae_str aa_nil)) (ae_sl (ae_var (pv 2)) (ao_some ae_int) ao_none)) (ae_var (pv 2))) (aa_cons (ae_var (pv 1)) aa_nil)))))))
theorem F_is_settled (M : Md K w mg ad) (F_knob_words : Fn P w K mg base CX0 tabs 1 "knob_words" sp_knob_words) (F__fits : Fn P w K mg base CX0 tabs 8 "_fits" sp__fits)  {f : Addr} {fd : FuncData} (D : FunD K "is_settled" "is_settled" (defArgs s_is_settled) (defBody s_is_settled) (defScope s_is_settled) [] [] f fd) (hm : mg "is_settled" = some (.ref f))
    (len : ∀ ts g A B, sp_is_settled ts g A B → ts.length = 2) (pf : ∀ ts g A B, sp_is_settled ts g A B → r_is_settled ad (endsOf A) (aStart N_is_settled ts) g) : Fn P w K mg base CX0 tabs 9 "is_settled" sp_is_settled :=
  fn_body0C D rfl S_is_settled hm (D.bindsN fun _ _ _ _ _ _ us hl => match us, hl with | [_, _], _ => rfl) len (r_is_settled ad) (fun _ _ _ _ _ hr => b_is_settled M F_knob_words F__fits hr) fun ts g A B h => pf ts g A B h
abbrev N_inlets_by : List Str := ["kind", "knobs"]
theorem S_inlets_by : FnScope N_inlets_by ["kind", "knobs"] (defScope s_inlets_by) := ⟨rfl, rfl, rfl, by decide +kernel, rfl, by decide +kernel, by decide +kernel⟩
def r_inlets_by (ad : Str → Addr) : AS := (aRet (aIf (aTest (aOp vEqF (aVar 0) (aC (.str "mix")))) (aN nLen (aCons (aOp vIx (aVar 1) (aC (.int 0))) aNil)) (aKGet2 (t__INLETS ad) (aVar 0) (aC (.int 0)))))
theorem b_inlets_by (M : Md K w mg ad) {cdv : Value} {f : Addr} {A : Around} {outer : List Env} {s : Shared} {H : Hp} {E : XK} (hr : Room 0 (A.deeper (envOfC "inlets_by" (defScope s_inlets_by) s.heap.objs.size f cdv))) :
    ABl (cxOf CX0 P w K mg base N_inlets_by "inlets_by" (defScope s_inlets_by) f cdv A outer s H E).nox ⟨tabs, H⟩ (defBody s_inlets_by) (r_inlets_by ad) := by
  have S := S_inlets_by
  exact (ab_one (as_ret (ae_if (ap_eq (ae_var (pv 0)) ae_str) (ae_len (hm := M.len) (ha := (aa_cons (ae_ix (ae_var (pv 1)) ae_int) aa_nil))) (ae_kget2 (M.k__INLETS) (ae_gr M.a__INLETS) (ae_var (pv 0)) ae_int))))
theorem F_inlets_by (M : Md K w mg ad)  {f : Addr} {fd : FuncData} (D : FunD K "inlets_by" "inlets_by" (defArgs s_inlets_by) (defBody s_inlets_by) (defScope s_inlets_by) [] [] f fd) (hm : mg "inlets_by" = some (.ref f))
    (len : ∀ ts g A B, sp_inlets_by ts g A B → ts.length = 2) (pf : ∀ ts g A B, sp_inlets_by ts g A B → r_inlets_by ad (endsOf A) (aStart N_inlets_by ts) g) : Fn P w K mg base CX0 tabs 1 "inlets_by" sp_inlets_by :=
  fn_body0C D rfl S_inlets_by hm (D.bindsN fun _ _ _ _ _ _ us hl => match us, hl with | [_, _], _ => rfl) len (r_inlets_by ad) (fun _ _ _ _ _ hr => b_inlets_by M hr) fun ts g A B h => pf ts g A B h
abbrev N_columns_of : List Str := ["kind", "knobs"]
theorem S_columns_of : FnScope N_columns_of ["kind", "knobs"] (defScope s_columns_of) := ⟨rfl, rfl, rfl, by decide +kernel, rfl, by decide +kernel, by decide +kernel⟩
def r_columns_of (ad : Str → Addr) : AS := (aRet (aIf (aTest (aOp vEqF (aVar 0) (aC (.str "feed")))) (aC (.int 1)) (aCall sp_inlets_by (fun _ _ => False) (aCons (aVar 0) (aCons (aVar 1) aNil)))))
theorem b_columns_of (M : Md K w mg ad) (F_inlets_by : Fn P w K mg base CX0 tabs 1 "inlets_by" sp_inlets_by) {cdv : Value} {f : Addr} {A : Around} {outer : List Env} {s : Shared} {H : Hp} {E : XK} (hr : Room 1 (A.deeper (envOfC "columns_of" (defScope s_columns_of) s.heap.objs.size f cdv))) :
    ABl (cxOf CX0 P w K mg base N_columns_of "columns_of" (defScope s_columns_of) f cdv A outer s H E).nox ⟨tabs, H⟩ (defBody s_columns_of) (r_columns_of ad) := by
  have S := S_columns_of
  exact (ab_one (as_ret (ae_if (ap_eq (ae_var (pv 0)) ae_str) ae_int (ae_call F_inlets_by (Room.mono hr (by decide)) (aa_cons (ae_var (pv 0)) (aa_cons (ae_var (pv 1)) aa_nil))))))
theorem F_columns_of (M : Md K w mg ad) (F_inlets_by : Fn P w K mg base CX0 tabs 1 "inlets_by" sp_inlets_by)  {f : Addr} {fd : FuncData} (D : FunD K "columns_of" "columns_of" (defArgs s_columns_of) (defBody s_columns_of) (defScope s_columns_of) [] [] f fd) (hm : mg "columns_of" = some (.ref f))
    (len : ∀ ts g A B, sp_columns_of ts g A B → ts.length = 2) (pf : ∀ ts g A B, sp_columns_of ts g A B → r_columns_of ad (endsOf A) (aStart N_columns_of ts) g) : Fn P w K mg base CX0 tabs 2 "columns_of" sp_columns_of :=
  fn_body0C D rfl S_columns_of hm (D.bindsN fun _ _ _ _ _ _ us hl => match us, hl with | [_, _], _ => rfl) len (r_columns_of ad) (fun _ _ _ _ _ hr => b_columns_of M F_inlets_by hr) fun ts g A B h => pf ts g A B h
abbrev N__worths_kept : List Str := ["kind", "knobs"]
theorem S__worths_kept : FnScope N__worths_kept ["kind", "knobs"] (defScope s__worths_kept) := ⟨rfl, rfl, rfl, by decide +kernel, rfl, by decide +kernel, by decide +kernel⟩
def r__worths_kept (ad : Str → Addr) : AS := (aSeq (aIfS (aTest (aOp vEqF (aVar 0) (aC (.str "second")))) (aRet (aC (.int 4))) aNext)
  (aSeq (aIfS (aTest (aOp vEqF (aVar 0) (aC (.str "taps")))) (aRet (aOp vSub (aN nLen (aCons (aOp vIx (aVar 1) (aC (.int 0))) aNil)) (aC (.int 1)))) aNext)
  (aRet (aIf (aTest (aOp (vIn false) (aVar 0) (aTup (aCons (aC (.str "peak")) (aCons (aC (.str "mean")) aNil))))) (aOp vSub (aOp vIx (aVar 1) (aC (.int 0))) (aC (.int 1))) (aC .non)))))
theorem b__worths_kept (M : Md K w mg ad) {cdv : Value} {f : Addr} {A : Around} {outer : List Env} {s : Shared} {H : Hp} {E : XK} (hr : Room 0 (A.deeper (envOfC "_worths_kept" (defScope s__worths_kept) s.heap.objs.size f cdv))) :
    ABl (cxOf CX0 P w K mg base N__worths_kept "_worths_kept" (defScope s__worths_kept) f cdv A outer s H E).nox ⟨tabs, H⟩ (defBody s__worths_kept) (r__worths_kept ad) := by
  have S := S__worths_kept
  exact (ab_cons (as_if (ap_eq (ae_var (pv 0)) ae_str) (ab_one (as_ret ae_int)) ab_nil)
  (ab_cons (as_if (ap_eq (ae_var (pv 0)) ae_str) (ab_one (as_ret (ae_sub (ae_len (hm := M.len) (ha := (aa_cons (ae_ix (ae_var (pv 1)) ae_int) aa_nil))) ae_int))) ab_nil)
  (ab_one (as_ret (ae_if (ap_in (ae_var (pv 0)) (ae_tup (aa_cons ae_str (aa_cons ae_str aa_nil)))) (ae_sub (ae_ix (ae_var (pv 1)) ae_int) ae_int) ae_non)))))
theorem F__worths_kept (M : Md K w mg ad)  {f : Addr} {fd : FuncData} (D : FunD K "_worths_kept" "_worths_kept" (defArgs s__worths_kept) (defBody s__worths_kept) (defScope s__worths_kept) [] [] f fd) (hm : mg "_worths_kept" = some (.ref f))
    (len : ∀ ts g A B, sp__worths_kept ts g A B → ts.length = 2) (pf : ∀ ts g A B, sp__worths_kept ts g A B → r__worths_kept ad (endsOf A) (aStart N__worths_kept ts) g) : Fn P w K mg base CX0 tabs 1 "_worths_kept" sp__worths_kept :=
  fn_body0C D rfl S__worths_kept hm (D.bindsN fun _ _ _ _ _ _ us hl => match us, hl with | [_, _], _ => rfl) len (r__worths_kept ad) (fun _ _ _ _ _ hr => b__worths_kept M hr) fun ts g A B h => pf ts g A B h
abbrev N_start_by : List Str := ["kind", "knobs", "many"]
theorem S_start_by : FnScope N_start_by ["kind", "knobs"] (defScope s_start_by) := ⟨rfl, rfl, rfl, by decide +kernel, rfl, by decide +kernel, by decide +kernel⟩
def r_start_by (ad : Str → Addr) : AS := (aSeq (aIfS (aTest (aOp (vIn false) (aVar 0) (aTup (aCons (aC (.str "clock")) (aCons (aC (.str "noise")) aNil))))) (aRet (aOp vIx (aVar 1) (aC (.int 0)))) aNext)
  (aSeq (aIfS (aTest (aOp vEqF (aVar 0) (aC (.str "voices")))) (aRet (aTup aNil)) aNext)
  (aSeq (aAsg (aCall sp__worths_kept (fun _ _ => False) (aCons (aVar 0) (aCons (aVar 1) aNil))) (gNm 2))
  (aRet (aIf (aTest (aOp vIsN (aVar 2) (aC .non))) (aC (.int 0)) (aOp vMul (aTup (aCons (aC (.int 0)) aNil)) (aVar 2)))))))
theorem b_start_by (M : Md K w mg ad) (F__worths_kept : Fn P w K mg base CX0 tabs 1 "_worths_kept" sp__worths_kept) {cdv : Value} {f : Addr} {A : Around} {outer : List Env} {s : Shared} {H : Hp} {E : XK} (hr : Room 1 (A.deeper (envOfC "start_by" (defScope s_start_by) s.heap.objs.size f cdv))) :
    ABl (cxOf CX0 P w K mg base N_start_by "start_by" (defScope s_start_by) f cdv A outer s H E).nox ⟨tabs, H⟩ (defBody s_start_by) (r_start_by ad) := by
  have S := S_start_by
  exact (ab_cons (as_if (ap_in (ae_var (pv 0)) (ae_tup (aa_cons ae_str (aa_cons ae_str aa_nil)))) (ab_one (as_ret (ae_ix (ae_var (pv 1)) ae_int))) ab_nil)
  (ab_cons (as_if (ap_eq (ae_var (pv 0)) ae_str) (ab_one (as_ret (ae_tup aa_nil))) ab_nil)
  (ab_cons (as_set (i := 2) S.nd rfl (by first | exact Or.inl rfl | exact Or.inr rfl) (ae_call F__worths_kept (Room.mono hr (by decide)) (aa_cons (ae_var (pv 0)) (aa_cons (ae_var (pv 1)) aa_nil))))
  (ab_one (as_ret (ae_if (ap_isN (ae_var (pv 2)) ae_non) ae_int (ae_mul (ae_tup (aa_cons ae_int aa_nil)) (ae_var (pv 2)))))))))
theorem F_start_by (M : Md K w mg ad) (F__worths_kept : Fn P w K mg base CX0 tabs 1 "_worths_kept" sp__worths_kept)  {f : Addr} {fd : FuncData} (D : FunD K "start_by" "start_by" (defArgs s_start_by) (defBody s_start_by) (defScope s_start_by) [] [] f fd) (hm : mg "start_by" = some (.ref f))
    (len : ∀ ts g A B, sp_start_by ts g A B → ts.length = 2) (pf : ∀ ts g A B, sp_start_by ts g A B → r_start_by ad (endsOf A) (aStart N_start_by ts) g) : Fn P w K mg base CX0 tabs 2 "start_by" sp_start_by :=
  fn_body0C D rfl S_start_by hm (D.bindsN fun _ _ _ _ _ _ us hl => match us, hl with | [_, _], _ => rfl) len (r_start_by ad) (fun _ _ _ _ _ hr => b_start_by M F__worths_kept hr) fun ts g A B h => pf ts g A B h
abbrev N_start_of : List Str := ["kind", "knobs"]
theorem S_start_of : FnScope N_start_of ["kind", "knobs"] (defScope s_start_of) := ⟨rfl, rfl, rfl, by decide +kernel, rfl, by decide +kernel, by decide +kernel⟩
def r_start_of (ad : Str → Addr) : AS := (aSeq (aDrop (aCall sp_demand (fun _ _ => False) (aCons (aCall sp_is_settled (fun _ _ => False) (aCons (aVar 0) (aCons (aVar 1) aNil))) (aCons (aC (.str "knobs")) aNil))))
  (aRet (aCall sp_start_by (fun _ _ => False) (aCons (aVar 0) (aCons (aVar 1) aNil)))))
theorem b_start_of (M : Md K w mg ad) (F_is_settled : Fn P w K mg base CX0 tabs 9 "is_settled" sp_is_settled) (F_demand : Fn P w K mg base CX0 tabs 1 "demand" sp_demand) (F_start_by : Fn P w K mg base CX0 tabs 2 "start_by" sp_start_by) {cdv : Value} {f : Addr} {A : Around} {outer : List Env} {s : Shared} {H : Hp} {E : XK} (hr : Room 9 (A.deeper (envOfC "start_of" (defScope s_start_of) s.heap.objs.size f cdv))) :
    ABl (cxOf CX0 P w K mg base N_start_of "start_of" (defScope s_start_of) f cdv A outer s H E).nox ⟨tabs, H⟩ (defBody s_start_of) (r_start_of ad) := by
  have S := S_start_of
  exact (ab_cons (as_expr (ae_call F_demand (Room.mono hr (by decide)) (aa_cons (ae_call F_is_settled (Room.mono hr (by decide)) (aa_cons (ae_var (pv 0)) (aa_cons (ae_var (pv 1)) aa_nil))) (aa_cons ae_str aa_nil))))
  (ab_one (as_ret (ae_call F_start_by (Room.mono hr (by decide)) (aa_cons (ae_var (pv 0)) (aa_cons (ae_var (pv 1)) aa_nil))))))
theorem F_start_of (M : Md K w mg ad) (F_is_settled : Fn P w K mg base CX0 tabs 9 "is_settled" sp_is_settled) (F_demand : Fn P w K mg base CX0 tabs 1 "demand" sp_demand) (F_start_by : Fn P w K mg base CX0 tabs 2 "start_by" sp_start_by)  {f : Addr} {fd : FuncData} (D : FunD K "start_of" "start_of" (defArgs s_start_of) (defBody s_start_of) (defScope s_start_of) [] [] f fd) (hm : mg "start_of" = some (.ref f))
    (len : ∀ ts g A B, sp_start_of ts g A B → ts.length = 2) (pf : ∀ ts g A B, sp_start_of ts g A B → r_start_of ad (endsOf A) (aStart N_start_of ts) g) : Fn P w K mg base CX0 tabs 10 "start_of" sp_start_of :=
  fn_body0C D rfl S_start_of hm (D.bindsN fun _ _ _ _ _ _ us hl => match us, hl with | [_, _], _ => rfl) len (r_start_of ad) (fun _ _ _ _ _ hr => b_start_of M F_is_settled F_demand F_start_by hr) fun ts g A B h => pf ts g A B h
abbrev N_is_state : List Str := ["kind", "knobs", "thing", "many", "worth"]
theorem S_is_state : FnScope N_is_state ["kind", "knobs", "thing"] (defScope s_is_state) := ⟨rfl, rfl, rfl, by decide +kernel, rfl, by decide +kernel, by decide +kernel⟩
def r_is_state (ad : Str → Addr) : AS := (aSeq (aDrop (aCall sp_demand (fun _ _ => False) (aCons (aCall sp_is_settled (fun _ _ => False) (aCons (aVar 0) (aCons (aVar 1) aNil))) (aCons (aC (.str "knobs")) aNil))))
  (aSeq (aIfS (aTest (aOp (vIn false) (aVar 0) (aTup (aCons (aC (.str "smooth")) (aCons (aC (.str "latch")) aNil))))) aNever aNext)
  (aSeq (aIfS (aTest (aOp vEqF (aVar 0) (aC (.str "voices")))) aNever aNext)
  (aSeq (aAsg (aCall sp__worths_kept (fun _ _ => False) (aCons (aVar 0) (aCons (aVar 1) aNil))) (gNm 3))
  (aSeq (aIfS (aTest (aOp vIsN (aVar 3) (aC .non))) aNever aNext)
  (aSeq (aIfS (aOrT (aNotT (aTest (aN nIsi (aCons (aVar 2) (aCons (aC (.ty "tuple")) aNil))))) (aOrT (aTest (aOp vNeF (aN nLen (aCons (aVar 2) aNil)) (aVar 3))) (aNotT (aTest (aAll (iAny (aVar 2)) (gNm 4) (aCall sp_is_worth (fun _ _ => False) (aCons (aVar 4) aNil)) [4]))))) (aRet (aC (.bl false))) aNext)
  (aRet (aOrV (aOp vNeF (aVar 0) (aC (.str "peak"))) (aAll (iAny (aVar 2)) (gNm 4) (aOp vGe (aVar 4) (aC (.int 0))) [4])))))))))
theorem b_is_state (M : Md K w mg ad) (F_is_settled : Fn P w K mg base CX0 tabs 9 "is_settled" sp_is_settled) (F_demand : Fn P w K mg base CX0 tabs 1 "demand" sp_demand) (F__worths_kept : Fn P w K mg base CX0 tabs 1 "_worths_kept" sp__worths_kept) (F_is_worth : Fn P w K mg base CX0 tabs 3 "is_worth" sp_is_worth) {c tb : Addr} (hP : tb ∈ tabs) (TB : GxR.TabB base mg c tb) {f : Addr} {A : Around} {outer : List Env} {s : Shared} {H : Hp} {E : XK} (hr : Room 10 (A.deeper (envOfC "is_state" (defScope s_is_state) s.heap.objs.size f (.ref c)))) :
    ABl (cxOf CX0 P w K mg base N_is_state "is_state" (defScope s_is_state) f (.ref c) A outer s H E).nox ⟨tabs, H⟩ (defBody s_is_state) (r_is_state ad) := by
  have S := S_is_state
  exact (ab_cons (as_expr (ae_call F_demand (Room.mono hr (by decide)) (aa_cons (ae_call F_is_settled (Room.mono hr (by decide)) (aa_cons (ae_var (pv 0)) (aa_cons (ae_var (pv 1)) aa_nil))) (aa_cons ae_str aa_nil))))
  (ab_cons (as_if (ap_in (ae_var (pv 0)) (ae_tup (aa_cons ae_str (aa_cons ae_str aa_nil)))) (ab_one as_never) ab_nil)
  (ab_cons (as_if (ap_eq (ae_var (pv 0)) ae_str) (ab_one as_never) ab_nil)
  (ab_cons (as_set (i := 3) S.nd rfl (by first | exact Or.inl rfl | exact Or.inr rfl) (ae_call F__worths_kept (Room.mono hr (by decide)) (aa_cons (ae_var (pv 0)) (aa_cons (ae_var (pv 1)) aa_nil))))
  (ab_cons (as_if (ap_isN (ae_var (pv 3)) ae_non) (ab_one as_never) ab_nil)
  (ab_cons (as_if (ap_w (apw_or (ap_not (ap_val (ae_isi (hm := M.isinstance) (ha := (aa_cons (ae_var (pv 2)) (aa_cons (ae_blt (n := "tuple") rfl M.tuple_ boot_tuple) aa_nil)))))) (apw_or (ap_ne (ae_len (hm := M.len) (ha := (aa_cons (ae_var (pv 2)) aa_nil))) (ae_var (pv 3))) (apw_or1 (ap_not (ap_val (ae_all (own := [("worth", 4)]) hP TB rfl M.all_ ⟨hr.hd, room_dp hr⟩ simG_nm S.nd (ai_any (ae_var (pv 2))) (blkOk_by (own := [("worth", 4)]) (N := N_is_state) (sc := defScope s_is_state) (by decide +kernel)) (fun _ _ _ _ _ _ => (pg_name (i := 4) S.nd rfl (by first | exact Or.inl rfl | exact Or.inr rfl))) (fun _ _ _ _ _ _ => (ae_call F_is_worth (Room.mono (room_gen hr) (by decide)) (aa_cons (ae_var (pv 4)) aa_nil))) (hcell := by decide +kernel)))))))) (ab_one (as_ret ae_bl)) ab_nil)
  (ab_one (as_ret (ae_or (ae_ne (ae_var (pv 0)) ae_str) (ae_one (ae_all (own := [("worth", 4)]) hP TB rfl M.all_ ⟨hr.hd, room_dp hr⟩ simG_nm S.nd (ai_any (ae_var (pv 2))) (blkOk_by (own := [("worth", 4)]) (N := N_is_state) (sc := defScope s_is_state) (by decide +kernel)) (fun _ _ _ _ _ _ => (pg_name (i := 4) S.nd rfl (by first | exact Or.inl rfl | exact Or.inr rfl))) (fun _ _ _ _ _ _ => (ae_ge (ae_var (pv 4)) ae_int)) (hcell := by decide +kernel))))))))))))
theorem F_is_state (M : Md K w mg ad) (F_is_settled : Fn P w K mg base CX0 tabs 9 "is_settled" sp_is_settled) (F_demand : Fn P w K mg base CX0 tabs 1 "demand" sp_demand) (F__worths_kept : Fn P w K mg base CX0 tabs 1 "_worths_kept" sp__worths_kept) (F_is_worth : Fn P w K mg base CX0 tabs 3 "is_worth" sp_is_worth) {c tb : Addr} (hP : tb ∈ tabs) (TB : GxR.TabB base mg c tb) {f : Addr} {fd : FuncData} (D : FunD K "is_state" "is_state" (defArgs s_is_state) (defBody s_is_state) (defScope s_is_state) [] [] f fd) (hcd : fd.code = .ref c) (hm : mg "is_state" = some (.ref f))
    (len : ∀ ts g A B, sp_is_state ts g A B → ts.length = 3) (pf : ∀ ts g A B, sp_is_state ts g A B → r_is_state ad (endsOf A) (aStart N_is_state ts) g) : Fn P w K mg base CX0 tabs 11 "is_state" sp_is_state :=
  fn_body0C D hcd S_is_state hm (D.bindsN fun _ _ _ _ _ _ us hl => match us, hl with | [_, _, _], _ => rfl) len (r_is_state ad) (fun _ _ _ _ _ hr => b_is_state M F_is_settled F_demand F__worths_kept F_is_worth hP TB hr) fun ts g A B h => pf ts g A B h
abbrev N__are_columns : List Str := ["thing", "many", "column"]
theorem S__are_columns : FnScope N__are_columns ["thing", "many"] (defScope s__are_columns) := ⟨rfl, rfl, rfl, by decide +kernel, rfl, by decide +kernel, by decide +kernel⟩
def r__are_columns (ad : Str → Addr) : AS := (aSeq (aIfS (aOrT (aNotT (aTest (aN nIsi (aCons (aVar 0) (aCons (aC (.ty "tuple")) aNil))))) (aOrT (aTest (aOp vNeF (aN nLen (aCons (aVar 0) aNil)) (aVar 1))) (aNotT (aTest (aAll (iAny (aVar 0)) (gNm 2) (aCall sp_is_sound (fun _ _ => False) (aCons (aVar 2) aNil)) [2]))))) (aRet (aC (.bl false))) aNext)
  (aRet (aAll (iAny (aVar 0)) (gNm 2) (aOp vEqF (aN nLen (aCons (aVar 2) aNil)) (aN nLen (aCons (aOp vIx (aVar 0) (aC (.int 0))) aNil))) [2])))
theorem b__are_columns (M : Md K w mg ad) (F_is_sound : Fn P w K mg base CX0 tabs 5 "is_sound" sp_is_sound) {c tb : Addr} (hP : tb ∈ tabs) (TB : GxR.TabB base mg c tb) {f : Addr} {A : Around} {outer : List Env} {s : Shared} {H : Hp} {E : XK} (hr : Room 6 (A.deeper (envOfC "_are_columns" (defScope s__are_columns) s.heap.objs.size f (.ref c)))) :
    ABl (cxOf CX0 P w K mg base N__are_columns "_are_columns" (defScope s__are_columns) f (.ref c) A outer s H E).nox ⟨tabs, H⟩ (defBody s__are_columns) (r__are_columns ad) := by
  have S := S__are_columns
  exact (ab_cons (as_if (ap_w (apw_or (ap_not (ap_val (ae_isi (hm := M.isinstance) (ha := (aa_cons (ae_var (pv 0)) (aa_cons (ae_blt (n := "tuple") rfl M.tuple_ boot_tuple) aa_nil)))))) (apw_or (ap_ne (ae_len (hm := M.len) (ha := (aa_cons (ae_var (pv 0)) aa_nil))) (ae_var (pv 1))) (apw_or1 (ap_not (ap_val (ae_all (own := [("column", 2)]) hP TB rfl M.all_ ⟨hr.hd, room_dp hr⟩ simG_nm S.nd (ai_any (ae_var (pv 0))) (blkOk_by (own := [("column", 2)]) (N := N__are_columns) (sc := defScope s__are_columns) (by decide +kernel)) (fun _ _ _ _ _ _ => (pg_name (i := 2) S.nd rfl (by first | exact Or.inl rfl | exact Or.inr rfl))) (fun _ _ _ _ _ _ => (ae_call F_is_sound (Room.mono (room_gen hr) (by decide)) (aa_cons (ae_var (pv 2)) aa_nil))) (hcell := by decide +kernel)))))))) (ab_one (as_ret ae_bl)) ab_nil)
  (ab_one (as_ret (ae_all (own := [("column", 2)]) hP TB rfl M.all_ ⟨hr.hd, room_dp hr⟩ simG_nm S.nd (ai_any (ae_var (pv 0))) (blkOk_by (own := [("column", 2)]) (N := N__are_columns) (sc := defScope s__are_columns) (by decide +kernel)) (fun _ _ _ _ _ _ => (pg_name (i := 2) S.nd rfl (by first | exact Or.inl rfl | exact Or.inr rfl))) (fun _ _ _ _ _ _ => (ae_eq (ae_len (hm := M.len) (ha := (aa_cons (ae_var (pv 2)) aa_nil))) (ae_len (hm := M.len) (ha := (aa_cons (ae_ix (ae_var (pv 0)) ae_int) aa_nil))))) (hcell := by decide +kernel)))))
theorem F__are_columns (M : Md K w mg ad) (F_is_sound : Fn P w K mg base CX0 tabs 5 "is_sound" sp_is_sound) {c tb : Addr} (hP : tb ∈ tabs) (TB : GxR.TabB base mg c tb) {f : Addr} {fd : FuncData} (D : FunD K "_are_columns" "_are_columns" (defArgs s__are_columns) (defBody s__are_columns) (defScope s__are_columns) [] [] f fd) (hcd : fd.code = .ref c) (hm : mg "_are_columns" = some (.ref f))
    (len : ∀ ts g A B, sp__are_columns ts g A B → ts.length = 2) (pf : ∀ ts g A B, sp__are_columns ts g A B → r__are_columns ad (endsOf A) (aStart N__are_columns ts) g) : Fn P w K mg base CX0 tabs 7 "_are_columns" sp__are_columns :=
  fn_body0C D hcd S__are_columns hm (D.bindsN fun _ _ _ _ _ _ us hl => match us, hl with | [_, _], _ => rfl) len (r__are_columns ad) (fun _ _ _ _ _ hr => b__are_columns M F_is_sound hP TB hr) fun ts g A B h => pf ts g A B h
abbrev N_step_of : List Str := ["kind", "knobs", "state", "worths", "step"]
theorem S_step_of : FnScope N_step_of ["kind", "knobs", "state", "worths"] (defScope s_step_of) := ⟨rfl, rfl, rfl, by decide +kernel, rfl, by decide +kernel, by decide +kernel⟩
def r_step_of (ad : Str → Addr) (Hd_step_of : Addr → ASp → Prop) : AS := (aSeq (aIfS (aTest (aOp vEqF (aVar 0) (aC (.str "voices")))) aNever aNext)
  (aSeq (aIfS (aTest (aKIn false (t_MAKERS ad) (aVar 0))) (aAsg (aKIx (t_MAKERS ad) (aVar 0)) (gNm 4)) (aIfS (aTest (aKIn false (t_SHAPERS ad) (aVar 0))) (aAsg (aKIx (t_SHAPERS ad) (aVar 0)) (gNm 4)) (aAsg (aKIx (t_FILTERS ad) (aVar 0)) (gNm 4))))
  (aRet (aCallL 4 Hd_step_of (aCons (aVar 1) (aCons (aVar 2) (aCons (aVar 3) aNil)))))))
theorem b_step_of (M : Md K w mg ad) (Hd_step_of : Addr → ASp → Prop) (hHd : ∀ a asp, Hd_step_of a asp → FnAt P w K mg base tabs 3 a asp) {cdv : Value} {f : Addr} {A : Around} {outer : List Env} {s : Shared} {H : Hp} {E : XK} (hr : Room 3 (A.deeper (envOfC "step_of" (defScope s_step_of) s.heap.objs.size f cdv))) :
    ABl (cxOf CX0 P w K mg base N_step_of "step_of" (defScope s_step_of) f cdv A outer s H E).nox ⟨tabs, H⟩ (defBody s_step_of) (r_step_of ad Hd_step_of) := by
  have S := S_step_of
  exact (ab_cons (as_if (ap_eq (ae_var (pv 0)) ae_str) (ab_one as_never) ab_nil)
  (ab_cons (as_if (ap_kin (M.k_MAKERS) (ae_var (pv 0)) (ae_gr M.a_MAKERS)) (ab_one (as_set (i := 4) S.nd rfl (by first | exact Or.inl rfl | exact Or.inr rfl) (ae_kix (M.k_MAKERS) (ae_gr M.a_MAKERS) (ae_var (pv 0))))) (ab_one (as_if (ap_kin (M.k_SHAPERS) (ae_var (pv 0)) (ae_gr M.a_SHAPERS)) (ab_one (as_set (i := 4) S.nd rfl (by first | exact Or.inl rfl | exact Or.inr rfl) (ae_kix (M.k_SHAPERS) (ae_gr M.a_SHAPERS) (ae_var (pv 0))))) (ab_one (as_set (i := 4) S.nd rfl (by first | exact Or.inl rfl | exact Or.inr rfl) (ae_kix (M.k_FILTERS) (ae_gr M.a_FILTERS) (ae_var (pv 0))))))))
  (ab_one (as_ret (ae_callL (i := 4) hHd hr rfl (by first | exact Or.inl rfl | exact Or.inr (Or.inl rfl)) (aa_cons (ae_var (pv 1)) (aa_cons (ae_var (pv 2)) (aa_cons (ae_var (pv 3)) aa_nil))))))))
theorem F_step_of (M : Md K w mg ad) (Hd_step_of : Addr → ASp → Prop) (hHd : ∀ a asp, Hd_step_of a asp → FnAt P w K mg base tabs 3 a asp)  {f : Addr} {fd : FuncData} (D : FunD K "step_of" "step_of" (defArgs s_step_of) (defBody s_step_of) (defScope s_step_of) [] [] f fd) (hm : mg "step_of" = some (.ref f))
    (len : ∀ ts g A B, sp_step_of ts g A B → ts.length = 4) (pf : ∀ ts g A B, sp_step_of ts g A B → r_step_of ad Hd_step_of (endsOf A) (aStart N_step_of ts) g) : Fn P w K mg base CX0 tabs 4 "step_of" sp_step_of :=
  fn_body0C D rfl S_step_of hm (D.bindsN fun _ _ _ _ _ _ us hl => match us, hl with | [_, _, _, _], _ => rfl) len (r_step_of ad Hd_step_of) (fun _ _ _ _ _ hr => b_step_of M Hd_step_of hHd hr) fun ts g A B h => pf ts g A B h
abbrev N_block_of : List Str := ["kind", "knobs", "state", "columns", "many", "told", "at", "worth", "column"]
theorem S_block_of : FnScope N_block_of ["kind", "knobs", "state", "columns", "many"] (defScope s_block_of) := ⟨rfl, rfl, rfl, by decide +kernel, rfl, by decide +kernel, by decide +kernel⟩
def r_block_of (ad : Str → Addr) : AS := (aSeq (aDrop (aCall sp_demand (fun _ _ => False) (aCons (aCall sp_is_settled (fun _ _ => False) (aCons (aVar 0) (aCons (aVar 1) aNil))) (aCons (aC (.str "knobs")) aNil))))
  (aSeq (aDrop (aCall sp_demand (fun _ _ => False) (aCons (aCall sp_is_state (fun _ _ => False) (aCons (aVar 0) (aCons (aVar 1) (aCons (aVar 2) aNil)))) (aCons (aC (.str "state")) aNil))))
  (aSeq (aDrop (aCall sp_demand (fun _ _ => False) (aCons (aCall sp__are_columns (fun _ _ => False) (aCons (aVar 3) (aCons (aCall sp_columns_of (fun _ _ => False) (aCons (aVar 0) (aCons (aVar 1) aNil))) aNil))) (aCons (aC (.str "columns")) aNil))))
  (aSeq (aDrop (aCall sp_demand (fun _ _ => False) (aCons (aAndV (aCall sp_is_within (fun _ _ => False) (aCons (aVar 4) (aCons (aC (.int 0)) (aCons (aC (.int 2000)) aNil)))) (aOrV (aOp vEqD (aVar 3) (aTup aNil)) (aOp vEqF (aVar 4) (aN nLen (aCons (aOp vIx (aVar 3) (aC (.int 0))) aNil))))) (aCons (aC (.str "many")) aNil))))
  (aSeq (aAsg (aLst aNil) (gNm 5))
  (aSeq (aFor (iRange1 (aCons (aVar 4) aNil)) (gNm 6) (aSeq (aAsg (aCall sp_step_of (fun _ _ => False) (aCons (aVar 0) (aCons (aVar 1) (aCons (aVar 2) (aCons (aN nTup (aCons (aLc (iAny (aVar 3)) (gNm 8) aTrue (aOp vIx (aVar 8) (aVar 6)) [8]) aNil)) aNil))))) (gTp 2 (gCn (gNm 2) (gCn (gNm 7) gNl))))
  (aDrop (aApp (aVar 5) (aVar 7)))))
  (aRet (aTup (aCons (aVar 2) (aCons (aN nTup (aCons (aVar 5) aNil)) aNil))))))))))
theorem b_block_of (M : Md K w mg ad) (F_is_settled : Fn P w K mg base CX0 tabs 9 "is_settled" sp_is_settled) (F_demand : Fn P w K mg base CX0 tabs 1 "demand" sp_demand) (F_is_state : Fn P w K mg base CX0 tabs 11 "is_state" sp_is_state) (F_columns_of : Fn P w K mg base CX0 tabs 2 "columns_of" sp_columns_of) (F__are_columns : Fn P w K mg base CX0 tabs 7 "_are_columns" sp__are_columns) (F_is_within : Fn P w K mg base CX0 tabs 2 "is_within" sp_is_within) (F_step_of : Fn P w K mg base CX0 tabs 4 "step_of" sp_step_of) {cdv : Value} {f : Addr} {A : Around} {outer : List Env} {s : Shared} {H : Hp} {E : XK} (hr : Room 11 (A.deeper (envOfC "block_of" (defScope s_block_of) s.heap.objs.size f cdv))) :
    ABl (cxOf CX0 P w K mg base N_block_of "block_of" (defScope s_block_of) f cdv A outer s H E).nox ⟨tabs, H⟩ (defBody s_block_of) (r_block_of ad) := by
  have S := S_block_of
  exact (ab_cons (as_expr (ae_call F_demand (Room.mono hr (by decide)) (aa_cons (ae_call F_is_settled (Room.mono hr (by decide)) (aa_cons (ae_var (pv 0)) (aa_cons (ae_var (pv 1)) aa_nil))) (aa_cons ae_str aa_nil))))
  (ab_cons (as_expr (ae_call F_demand (Room.mono hr (by decide)) (aa_cons (ae_call F_is_state (Room.mono hr (by decide)) (aa_cons (ae_var (pv 0)) (aa_cons (ae_var (pv 1)) (aa_cons (ae_var (pv 2)) aa_nil)))) (aa_cons ae_str aa_nil))))
  (ab_cons (as_expr (ae_call F_demand (Room.mono hr (by decide)) (aa_cons (ae_call F__are_columns (Room.mono hr (by decide)) (aa_cons (ae_var (pv 3)) (aa_cons (ae_call F_columns_of (Room.mono hr (by decide)) (aa_cons (ae_var (pv 0)) (aa_cons (ae_var (pv 1)) aa_nil))) aa_nil))) (aa_cons ae_str aa_nil))))
  (ab_cons (as_expr (ae_call F_demand (Room.mono hr (by decide)) (aa_cons (ae_and (ae_call F_is_within (Room.mono hr (by decide)) (aa_cons (ae_var (pv 4)) (aa_cons ae_int (aa_cons ae_int aa_nil)))) (ae_one (ae_or (ae_eqD hr (ae_var (pv 3)) (ae_tup aa_nil)) (ae_one (ae_eq (ae_var (pv 4)) (ae_len (hm := M.len) (ha := (aa_cons (ae_ix (ae_var (pv 3)) ae_int) aa_nil)))))))) (aa_cons ae_str aa_nil))))
  (ab_cons (as_set (i := 5) S.nd rfl (by first | exact Or.inl rfl | exact Or.inr rfl) (ae_lst aa_nil))
  (ab_cons (as_for PassesOwn.never (ai_range1 (hm := M.range) (ha := (aa_cons (ae_var (pv 4)) aa_nil))) (ag_nm (pg_name (i := 6) S.nd rfl (by first | exact Or.inl rfl | exact Or.inr rfl))) (ab_cons (as_asg (ae_call F_step_of (Room.mono hr (by decide)) (aa_cons (ae_var (pv 0)) (aa_cons (ae_var (pv 1)) (aa_cons (ae_var (pv 2)) (aa_cons (ae_tuple (hm := M.tuple_) (ha := (aa_cons (ae_lc (hN := S.nd) (own := [("column", 8)]) (sg := simG_nm) (hi := (ai_any (ae_var (pv 3)))) (ok := blkOk_by (own := [("column", 8)]) (N := N_block_of) (sc := defScope s_block_of) (by decide +kernel)) (hg := (fun _ _ _ _ _ => (pg_name (i := 8) S.nd rfl (by first | exact Or.inl rfl | exact Or.inr rfl)))) (ht := (fun _ _ _ _ _ => aps_nil)) (he := fun _ _ _ _ _ => (ae_ix (ae_var (pv 8)) (ae_var (pv 6))))) aa_nil))) aa_nil))))) (ag_tup (h := (ags_cons (ag_nm (pg_name (i := 2) S.nd rfl (by first | exact Or.inl rfl | exact Or.inr rfl))) (ags_cons (ag_nm (pg_name (i := 7) S.nd rfl (by first | exact Or.inl rfl | exact Or.inr rfl))) ags_nil)))))
  (ab_one (as_expr (ae_app (ae_var (pv 5)) (ae_var (pv 7)))))))
  (ab_one (as_ret (ae_tup (aa_cons (ae_var (pv 2)) (aa_cons (ae_tuple (hm := M.tuple_) (ha := (aa_cons (ae_var (pv 5)) aa_nil))) aa_nil)))))))))))
theorem F_block_of (M : Md K w mg ad) (F_is_settled : Fn P w K mg base CX0 tabs 9 "is_settled" sp_is_settled) (F_demand : Fn P w K mg base CX0 tabs 1 "demand" sp_demand) (F_is_state : Fn P w K mg base CX0 tabs 11 "is_state" sp_is_state) (F_columns_of : Fn P w K mg base CX0 tabs 2 "columns_of" sp_columns_of) (F__are_columns : Fn P w K mg base CX0 tabs 7 "_are_columns" sp__are_columns) (F_is_within : Fn P w K mg base CX0 tabs 2 "is_within" sp_is_within) (F_step_of : Fn P w K mg base CX0 tabs 4 "step_of" sp_step_of)  {f : Addr} {fd : FuncData} (D : FunD K "block_of" "block_of" (defArgs s_block_of) (defBody s_block_of) (defScope s_block_of) [] [] f fd) (hm : mg "block_of" = some (.ref f))
    (len : ∀ ts g A B, sp_block_of ts g A B → ts.length = 5) (pf : ∀ ts g A B, sp_block_of ts g A B → r_block_of ad (endsOf A) (aStart N_block_of ts) g) : Fn P w K mg base CX0 tabs 12 "block_of" sp_block_of :=
  fn_body0C D rfl S_block_of hm (D.bindsN fun _ _ _ _ _ _ us hl => match us, hl with | [_, _, _, _, _], _ => rfl) len (r_block_of ad) (fun _ _ _ _ _ hr => b_block_of M F_is_settled F_demand F_is_state F_columns_of F__are_columns F_is_within F_step_of hr) fun ts g A B h => pf ts g A B h
end Tx

set_option Elab.async false
set_option linter.all false
set_option maxRecDepth 100000
set_option maxHeartbeats 0
namespace Hd
open PySem PySem.Spec PyProof.Rows L2 Lz Tx

def d_demand : He.DefD := ⟨("demand", none), "demand", "demand", defArgs s_demand, defBody s_demand, defScope s_demand, [], []⟩
def d_is_integer : He.DefD := ⟨("is_integer", none), "is_integer", "is_integer", defArgs s_is_integer, defBody s_is_integer, defScope s_is_integer, [], []⟩
def d_is_within : He.DefD := ⟨("is_within", none), "is_within", "is_within", defArgs s_is_within, defBody s_is_within, defScope s_is_within, [], []⟩
def d_is_worth : He.DefD := ⟨("is_worth", none), "is_worth", "is_worth", defArgs s_is_worth, defBody s_is_worth, defScope s_is_worth, [], []⟩
def d_is_sound : He.DefD := ⟨("is_sound", none), "is_sound", "is_sound", defArgs s_is_sound, defBody s_is_sound, defScope s_is_sound, [], []⟩
def d_is_mode : He.DefD := ⟨("is_mode", none), "is_mode", "is_mode", defArgs s_is_mode, defBody s_is_mode, defScope s_is_mode, [], []⟩
def d_clip : He.DefD := ⟨("clip", none), "clip", "clip", defArgs s_clip, defBody s_clip, defScope s_clip, [], []⟩
def d_turned : He.DefD := ⟨("turned", none), "turned", "turned", defArgs s_turned, defBody s_turned, defScope s_turned, [], []⟩
def d_weighed : He.DefD := ⟨("weighed", none), "weighed", "weighed", defArgs s_weighed, defBody s_weighed, defScope s_weighed, [], []⟩
def d__newest_first : He.DefD := ⟨("_newest_first", none), "_newest_first", "_newest_first", defArgs s__newest_first, defBody s__newest_first, defScope s__newest_first, [], []⟩
def d__taps : He.DefD := ⟨("_taps", none), "_taps", "_taps", defArgs s__taps, defBody s__taps, defScope s__taps, [], []⟩
def d__peak : He.DefD := ⟨("_peak", none), "_peak", "_peak", defArgs s__peak, defBody s__peak, defScope s__peak, [], []⟩
def d__mean : He.DefD := ⟨("_mean", none), "_mean", "_mean", defArgs s__mean, defBody s__mean, defScope s__mean, [], []⟩
def d__is_many : He.DefD := ⟨("_is_many", none), "_is_many", "_is_many", defArgs s__is_many, defBody s__is_many, defScope s__is_many, [], []⟩
def d__is_weight : He.DefD := ⟨("_is_weight", none), "_is_weight", "_is_weight", defArgs s__is_weight, defBody s__is_weight, defScope s__is_weight, [], []⟩
def d__are_weights : He.DefD := ⟨("_are_weights", none), "_are_weights", "_are_weights", defArgs s__are_weights, defBody s__are_weights, defScope s__are_weights, [], []⟩
def d__is_taps : He.DefD := ⟨("_is_taps", none), "_is_taps", "_is_taps", defArgs s__is_taps, defBody s__is_taps, defScope s__is_taps, [], []⟩
def d_knob_words : He.DefD := ⟨("knob_words", none), "knob_words", "knob_words", defArgs s_knob_words, defBody s_knob_words, defScope s_knob_words, [], []⟩
def d__is_knob : He.DefD := ⟨("_is_knob", none), "_is_knob", "_is_knob", defArgs s__is_knob, defBody s__is_knob, defScope s__is_knob, [], []⟩
def d__fits : He.DefD := ⟨("_fits", none), "_fits", "_fits", defArgs s__fits, defBody s__fits, defScope s__fits, [], []⟩
def d_is_settled : He.DefD := ⟨("is_settled", none), "is_settled", "is_settled", defArgs s_is_settled, defBody s_is_settled, defScope s_is_settled, [], []⟩
def d_inlets_by : He.DefD := ⟨("inlets_by", none), "inlets_by", "inlets_by", defArgs s_inlets_by, defBody s_inlets_by, defScope s_inlets_by, [], []⟩
def d_columns_of : He.DefD := ⟨("columns_of", none), "columns_of", "columns_of", defArgs s_columns_of, defBody s_columns_of, defScope s_columns_of, [], []⟩
def d__worths_kept : He.DefD := ⟨("_worths_kept", none), "_worths_kept", "_worths_kept", defArgs s__worths_kept, defBody s__worths_kept, defScope s__worths_kept, [], []⟩
def d_start_by : He.DefD := ⟨("start_by", none), "start_by", "start_by", defArgs s_start_by, defBody s_start_by, defScope s_start_by, [], []⟩
def d_start_of : He.DefD := ⟨("start_of", none), "start_of", "start_of", defArgs s_start_of, defBody s_start_of, defScope s_start_of, [], []⟩
def d_is_state : He.DefD := ⟨("is_state", none), "is_state", "is_state", defArgs s_is_state, defBody s_is_state, defScope s_is_state, [], []⟩
def d__are_columns : He.DefD := ⟨("_are_columns", none), "_are_columns", "_are_columns", defArgs s__are_columns, defBody s__are_columns, defScope s__are_columns, [], []⟩
def d_step_of : He.DefD := ⟨("step_of", none), "step_of", "step_of", defArgs s_step_of, defBody s_step_of, defScope s_step_of, [], []⟩
def d_block_of : He.DefD := ⟨("block_of", none), "block_of", "block_of", defArgs s_block_of, defBody s_block_of, defScope s_block_of, [], []⟩
def d__law_take : He.DefD := ⟨("_law_take", none), "_law_take", "_law_take", defArgs s__law_take, defBody s__law_take, defScope s__law_take, [], []⟩
def d__law_pot : He.DefD := ⟨("_law_pot", none), "_law_pot", "_law_pot", defArgs s__law_pot, defBody s__law_pot, defScope s__law_pot, [], []⟩
def d__law_worth : He.DefD := ⟨("_law_worth", none), "_law_worth", "_law_worth", defArgs s__law_worth, defBody s__law_worth, defScope s__law_worth, [], []⟩
def d__law_many : He.DefD := ⟨("_law_many", none), "_law_many", "_law_many", defArgs s__law_many, defBody s__law_many, defScope s__law_many, [], []⟩
def d__law_halfup : He.DefD := ⟨("_law_halfup", none), "_law_halfup", "_law_halfup", defArgs s__law_halfup, defBody s__law_halfup, defScope s__law_halfup, [], []⟩
def d__law_windows : He.DefD := ⟨("_law_windows", none), "_law_windows", "_law_windows", defArgs s__law_windows, defBody s__law_windows, defScope s__law_windows, [], []⟩
def d__law_meter : He.DefD := ⟨("_law_meter", none), "_law_meter", "_law_meter", defArgs s__law_meter, defBody s__law_meter, defScope s__law_meter, [], []⟩
def d__law_from_start : He.DefD := ⟨("_law_from_start", none), "_law_from_start", "_law_from_start", defArgs s__law_from_start, defBody s__law_from_start, defScope s__law_from_start, [], []⟩
def d__law_peaks : He.DefD := ⟨("_law_peaks", none), "_law_peaks", "_law_peaks", defArgs s__law_peaks, defBody s__law_peaks, defScope s__law_peaks, [], []⟩
def d__law_means : He.DefD := ⟨("_law_means", none), "_law_means", "_law_means", defArgs s__law_means, defBody s__law_means, defScope s__law_means, [], []⟩
def d__law_constant : He.DefD := ⟨("_law_constant", none), "_law_constant", "_law_constant", defArgs s__law_constant, defBody s__law_constant, defScope s__law_constant, [], []⟩
def d_law : He.DefD := ⟨("law", none), "law", "law", defArgs s_law, defBody s_law, defScope s_law, [], []⟩
def d__law_same : He.DefD := ⟨("_law_same", none), "_law_same", "_law_same", defArgs s__law_same, defBody s__law_same, defScope s__law_same, [], []⟩
def fn0 : List He.DefD := [d_demand, d_is_integer, d_is_within, d_is_worth, d_is_sound, d_is_mode, d_clip, d_turned, d_weighed, d__newest_first, d__taps, d__peak, d__mean, d__is_many, d__is_weight, d__are_weights, d__is_taps, d_knob_words, d__is_knob, d__fits, d_is_settled, d_inlets_by, d_columns_of, d__worths_kept, d_start_by, d_start_of, d_is_state, d__are_columns, d_step_of, d_block_of]
def fn1 : List He.DefD := [d__law_take, d__law_pot, d__law_worth, d__law_many, d__law_halfup, d__law_windows, d__law_meter, d__law_from_start, d__law_peaks, d__law_means, d__law_constant, d_law, d__law_same]
def fn : List He.DefD := fn0 ++ fn1
def fa0 : List He.Fa := [.glo "demand", .glo "is_integer", .glo "is_within", .glo "is_worth", .glo "is_sound", .glo "is_mode", .glo "clip", .glo "turned", .glo "weighed", .glo "_newest_first", .glo "_taps", .glo "_peak", .glo "_mean", .glo "_is_many", .glo "_is_weight", .glo "_are_weights", .glo "_is_taps", .glo "knob_words", .glo "_is_knob", .glo "_fits", .glo "is_settled", .glo "inlets_by", .glo "columns_of", .glo "_worths_kept", .glo "start_by", .glo "start_of", .glo "is_state", .glo "_are_columns", .glo "step_of", .glo "block_of"]
def fa1 : List He.Fa := [.glo "_law_take", .glo "_law_pot", .glo "_law_worth", .glo "_law_many", .glo "_law_halfup", .glo "_law_windows", .glo "_law_meter", .glo "_law_from_start", .glo "_law_peaks", .glo "_law_means", .glo "_law_constant", .glo "law", .glo "_law_same", .glo "FILTERS", .glo "MAKERS", .glo "SHAPERS", .glo "_INLETS", .glo "_IS_ONE", .glo "_KNOBS", .free "abs", .free "all", .free "bool", .free "int", .free "isinstance", .free "len", .free "list", .free "max", .free "min", .free "range", .free "reversed"]
def fa2 : List He.Fa := [.free "str", .free "sum", .free "tuple", .free "zip", .int "ONE" (4096), .int "TOP" (1048575)]
def fa : List He.Fa := fa0 ++ fa1 ++ fa2
def tb_FILTERS : He.Tab := (fun K => He.ga K "FILTERS", ("smooth" : Str) :: ("second" : Str) :: ("taps" : Str) :: ("press" : Str) :: ("peak" : Str) :: ("mean" : Str) :: [])
def tb_MAKERS : He.Tab := (fun K => He.ga K "MAKERS", ("level" : Str) :: ("feed" : Str) :: ("clock" : Str) :: ("noise" : Str) :: ("wave" : Str) :: ("roll" : Str) :: ("reel" : Str) :: [])
def tb_SHAPERS : He.Tab := (fun K => He.ga K "SHAPERS", ("mix" : Str) :: ("gain" : Str) :: ("cross" : Str) :: ("fence" : Str) :: ("punch" : Str) :: ("latch" : Str) :: ("curve" : Str) :: ("tape" : Str) :: [])
def tb__INLETS : He.Tab := (fun K => He.ga K "_INLETS", ("wave" : Str) :: ("gain" : Str) :: ("cross" : Str) :: ("fence" : Str) :: ("punch" : Str) :: ("latch" : Str) :: ("curve" : Str) :: ("tape" : Str) :: ("smooth" : Str) :: ("second" : Str) :: ("taps" : Str) :: ("press" : Str) :: ("peak" : Str) :: ("mean" : Str) :: ("voices" : Str) :: [])
def tb__IS_ONE : He.Tab := (fun K => He.ga K "_IS_ONE", ("worth" : Str) :: ("name" : Str) :: ("mode" : Str) :: ("points" : Str) :: ("notes" : Str) :: ("share" : Str) :: ("channel" : Str) :: ("height" : Str) :: ("seed" : Str) :: ("table" : Str) :: ("sound" : Str) :: ("num" : Str) :: ("bent num" : Str) :: ("den" : Str) :: ("weight" : Str) :: ("mixed weights" : Str) :: ("taps" : Str) :: ("many" : Str) :: ("most" : Str) :: ("rule" : Str) :: ("time" : Str) :: [])
def tb__KNOBS : He.Tab := (fun K => He.ga K "_KNOBS", ("level" : Str) :: ("feed" : Str) :: ("clock" : Str) :: ("noise" : Str) :: ("wave" : Str) :: ("roll" : Str) :: ("reel" : Str) :: ("mix" : Str) :: ("gain" : Str) :: ("cross" : Str) :: ("fence" : Str) :: ("punch" : Str) :: ("latch" : Str) :: ("curve" : Str) :: ("tape" : Str) :: ("smooth" : Str) :: ("second" : Str) :: ("taps" : Str) :: ("press" : Str) :: ("peak" : Str) :: ("mean" : Str) :: ("voices" : Str) :: [])
def ts : List He.Tab := [tb_FILTERS, tb_MAKERS, tb_SHAPERS, tb__INLETS, tb__IS_ONE, tb__KNOBS]
def tf : List He.Defn := [("is_sound", none), ("_are_weights", none), ("is_state", none), ("_are_columns", none)]
def ex (K : PySem.W.Frag) : Bool := tabOk K (He.ga K "FILTERS") (kv_FILTERS (He.ga K)) && tabOk K (He.ga K "MAKERS") (kv_MAKERS (He.ga K)) && tabOk K (He.ga K "SHAPERS") (kv_SHAPERS (He.ga K)) && tabOk K (He.ga K "_INLETS") (kv__INLETS (He.ga K)) && tabOk K (He.ga K "_IS_ONE") (kv__IS_ONE (He.ga K)) && tabOk K (He.ga K "_KNOBS") (kv__KNOBS (He.ga K))
def nm0 : List Str := ("SoundError" : Str) :: ("UseError" : Str) :: ("NotUsable" : Str) :: ("demand" : Str) :: ("TOP" : Str) :: ("ONE" : Str) :: ("_LETTERS" : Str) :: ("_FIGURES" : Str) :: ("is_integer" : Str) :: ("is_within" : Str) :: ("is_number" : Str) :: ("is_name" : Str) :: ("is_worth" : Str) :: ("is_sound" : Str) :: ("is_mode" : Str) :: ("is_points" : Str) :: ("curve_at" : Str) :: ("_is_point" : Str) :: ("_KNOBS" : Str) :: ("is_settled" : Str) :: ("knob_words" : Str) :: ("_fits" : Str) :: ("_is_knob" : Str) :: ("is_note" : Str) :: ("is_pitch" : Str) :: ("is_share" : Str) :: ("_is_notes" : Str) :: ("_is_worth" : Str) :: ("_is_name" : Str) :: ("_is_mode" : Str) :: []
def nm1 : List Str := ("_is_points" : Str) :: ("_is_channel" : Str) :: ("_is_height" : Str) :: ("_is_seed" : Str) :: ("_is_table" : Str) :: ("_is_sound" : Str) :: ("_is_num" : Str) :: ("_is_bent_num" : Str) :: ("_is_den" : Str) :: ("_is_weight" : Str) :: ("_are_weights" : Str) :: ("_is_mixed_weights" : Str) :: ("_is_taps" : Str) :: ("_is_many" : Str) :: ("_is_most" : Str) :: ("_is_rule" : Str) :: ("_IS_ONE" : Str) :: ("_INLETS" : Str) :: ("inlets_by" : Str) :: ("_FACTOR" : Str) :: ("_GROWTH" : Str) :: ("_SPAN" : Str) :: ("draw" : Str) :: ("drawn" : Str) :: ("table_at" : Str) :: ("clock_behind" : Str) :: ("worth_in" : Str) :: ("_level" : Str) :: ("_feed" : Str) :: ("_clock" : Str) :: []
def nm2 : List Str := ("_noise" : Str) :: ("_wave" : Str) :: ("_roll" : Str) :: ("_reel" : Str) :: ("MAKERS" : Str) :: ("clip" : Str) :: ("turned" : Str) :: ("weighed" : Str) :: ("_mix" : Str) :: ("_gain" : Str) :: ("_cross" : Str) :: ("_fence" : Str) :: ("_punch" : Str) :: ("_latch" : Str) :: ("_curve" : Str) :: ("_tape" : Str) :: ("SHAPERS" : Str) :: ("_newest_first" : Str) :: ("_smooth" : Str) :: ("_second" : Str) :: ("_taps" : Str) :: ("_press" : Str) :: ("_peak" : Str) :: ("_mean" : Str) :: ("FILTERS" : Str) :: ("start_of" : Str) :: ("start_by" : Str) :: ("is_state" : Str) :: ("_worths_kept" : Str) :: ("_greatest" : Str) :: []
def nm3 : List Str := ("_are_voices" : Str) :: ("_is_voice" : Str) :: ("voices_step" : Str) :: ("notes_at" : Str) :: ("_put_note" : Str) :: ("_place_to_go" : Str) :: ("_strength" : Str) :: ("_sound_of" : Str) :: ("_moved" : Str) :: ("block_of" : Str) :: ("step_of" : Str) :: ("columns_of" : Str) :: ("_are_columns" : Str) :: ("_law_pot" : Str) :: ("_law_take" : Str) :: ("_law_same" : Str) :: ("_law_worth" : Str) :: ("_law_many" : Str) :: ("_law_halfup" : Str) :: ("_law_windows" : Str) :: ("_law_meter" : Str) :: ("_law_from_start" : Str) :: ("_law_peaks" : Str) :: ("_law_means" : Str) :: ("_law_constant" : Str) :: []
def nms : List Str := nm0 ++ nm1 ++ nm2 ++ nm3
abbrev R : PySem.W.OpenRow := PySem.W.OpenLaw.row PySem.Challenge.rw_samesamples_k63_whole_peak_and_mean_wind
abbrev hk : PySem.W.Hook := He.hookX 2 fa fn ts tf ex
def ob (s : PySem.W.SharedT) : He.AlX := He.obsX 2 fa fn ts tf ex (HandSHeadRun.getT s)
theorem ob_eq (s : PySem.W.SharedT) : ob s = hk.obs s.abs := He.obsX_eq (HandSHeadRun.getT_eq s)
theorem runA (w : World) : HandSHeadRun.RunEq R (PySem.W.view R.prog [130]) hk ob 6000 nms (w.withFollow "special-get-raises" false) := by
  intro os
  kernel_rfl
theorem runB (w : World) : HandSHeadRun.RunEq R (PySem.W.view R.prog [130]) hk ob 6000 nms (w.withFollow "special-get-raises" true) := by
  intro os
  kernel_rfl
theorem run (w : World) : HandSHeadRun.RunEq R (PySem.W.view R.prog [130]) hk ob 6000 nms w := PySem.W.byRow2 "special-get-raises" (P := fun w => HandSHeadRun.RunEq R (PySem.W.view R.prog [130]) hk ob 6000 nms w) runA runB w
end Hd

set_option Elab.async false
set_option linter.all false
set_option maxRecDepth 100000
set_option maxHeartbeats 4000000
namespace Tx
open PySem PySem.Spec PyProof.Rows L2 Lz

variable {P : Program} {w : World} {K : PySem.W.Frag} {mg : Str → Option Value} {base : Heap} {tabs : List Addr} {ad : Str → Addr}
/-! ### what the law's own defs promise -/
def Pot (g : G) (p : Addr) : Prop := ∃ a b : Int, g p = some (.lst [.int a, .int b])
def PotTo (g : G) (p : Addr) (A : G → Prop) : Prop := ∀ a b : Int, A (Lz.set g p (.lst [.int a, .int b]))
def minL : List Int → Int
  | [] => 0
  | x :: xs => xs.foldl min x
def kn (pk : Bool) : Str := if pk then "peak" else "mean"
def winAt (pk : Bool) (m : Nat) (row : List Int) (k : Nat) : Int :=
  if pk then (if -(minL ((row.drop k).take m)) > maxL ((row.drop k).take m) then -(minL ((row.drop k).take m)) else maxL ((row.drop k).take m)) else halfup ((row.drop k).take m).sum m
def lawTold (pk : Bool) (m : Nat) (row : List Int) (n : Nat) : List Int := (List.range n).map (winAt pk m row)
def lawLast (pk : Bool) (m : Nat) (row : List Int) : List Int := (if pk then (row.drop (row.length + 1 - m)).map absI else row.drop (row.length + 1 - m)).reverse
def lawBoth (pk : Bool) (m : Nat) (e s : List Int) : T := .tup [iT (lawLast pk m (e ++ s)), iT (lawTold pk m (e ++ s) s.length)]
def sameOk : Nat → T → Prop
  | 0, t => ∃ i, t = .int i
  | n + 1, t => (∃ i, t = .int i) ∨ ∃ us : List T, t = .tup us ∧ us.length ≤ 1000 ∧ ∀ u ∈ us, sameOk n u
def sp_same (n : Nat) : ASp := fun ts g A _ => ∃ t, ts = [t, t] ∧ sameOk n t ∧ A (.bl true) g
def sp__law_same : ASp := sp_same 2
def sp__law_take : ASp := fun ts g A _ => ∃ p lim, ts = [.ref p, .int lim] ∧ Pot g p ∧ 1 ≤ lim ∧ lim < 2 ^ 62 ∧ ∀ r : Int, 0 ≤ r → r < lim → PotTo g p (A (.int r))
def sp__law_pot : ASp := fun ts g A _ => ∃ (t : T) (ns : List Int), ts = [t] ∧ ScrOk g t ns ∧ ∀ p, g p = none → PotTo g p (A (.ref p))
def sp__law_worth : ASp := fun ts g A _ => ∃ p wide, ts = [.ref p, .int wide] ∧ Pot g p ∧ 0 ≤ wide ∧ wide ≤ 1048575 ∧ ∀ x : Int, Wo x → PotTo g p (A (.int x))
def sp__law_many : ASp := fun ts g A _ => ∃ p, ts = [.ref p] ∧ Pot g p ∧ ∀ m : Nat, 1 ≤ m → m ≤ 128 → PotTo g p (A (.int m))
def sp__law_halfup : ASp := fun ts g A _ => ∃ n m : Int, ts = [.int n, .int m] ∧ 1 ≤ m ∧ m < 2 ^ 62 ∧ A (.int (halfup n m)) g
def sp__law_windows : ASp := fun ts g A _ => ∃ (pk : Bool) (m : Nat) (pe ps : Addr) (e s : List Int), ts = [.str (kn pk), .int m, .ref pe, .ref ps] ∧ g pe = some (.lst (e.map T.int)) ∧ g ps = some (.lst (s.map T.int)) ∧ e.length + 1 = m ∧ m ≤ 300 ∧ s.length ≤ 300 ∧ A (lawBoth pk m e s) g
def sp__law_meter : ASp := fun ts g A _ => ∃ (p : Addr) (pk : Bool) (m : Nat) (pe ps : Addr) (e s : List Int), ts = [.ref p, .str (kn pk), .int m, .ref pe, .ref ps] ∧ Pot g p ∧ p ≠ pe ∧ p ≠ ps ∧ g pe = some (.lst (e.map T.int)) ∧ g ps = some (.lst (s.map T.int)) ∧ e.length + 1 = m ∧ m ≤ 128 ∧
  (∀ x ∈ e, Wo x) ∧ (∀ x ∈ s, Wo x) ∧ s.length ≤ 40 ∧ PotTo g p (A (.bl true))
def sp__law_from_start : ASp := fun ts g A _ => ∃ (k : Knd) (xs : List Int), ts = [.str k.nm, .tup [k.knob], iT xs] ∧ k.ok ∧ (∀ x ∈ xs, Wo x) ∧ xs.length ≤ 2000 ∧
  A (.tup [iT (k.run (List.replicate (k.wd - 1) 0) xs).1, iT (k.run (List.replicate (k.wd - 1) 0) xs).2]) g
def sp__law_peaks : ASp := fun ts g A _ => ∃ (m n : Nat) (ps : Addr) (s : List Int), ts = [.int m, .int n, .ref ps] ∧ g ps = some (.lst (s.map T.int)) ∧ 1 ≤ m ∧ m ≤ 128 ∧ 1 ≤ n ∧ n ≤ 128 ∧ (∀ x ∈ s, Wo x) ∧ s.length ≤ 40 ∧ A (.bl true) g
def sp__law_means : ASp := fun ts g A _ => ∃ (p : Addr) (m : Nat) (ps : Addr) (s : List Int), ts = [.ref p, .int m, .ref ps] ∧ Pot g p ∧ p ≠ ps ∧ g ps = some (.lst (s.map T.int)) ∧ 1 ≤ m ∧ m ≤ 128 ∧ (∀ x ∈ s, Wo x) ∧ 1 ≤ s.length ∧ s.length ≤ 40 ∧ PotTo g p (A (.bl true))
def sp__law_constant : ASp := fun ts g A _ => ∃ (p : Addr) (m : Nat), ts = [.ref p, .int m] ∧ Pot g p ∧ 1 ≤ m ∧ m ≤ 128 ∧ PotTo g p (A (.bl true))
def sp_law : ASp := fun ts g A _ => ∃ (t : T) (ns : List Int), ts = [t] ∧ ScrOk g t ns ∧ A (.bl true) g


abbrev N__law_take : List Str := ["_law_pot_here", "_law_limit", "_law_digit", "_law_first", "_law_second"]
theorem S__law_take : FnScope N__law_take ["_law_pot_here", "_law_limit"] (defScope s__law_take) := ⟨rfl, rfl, rfl, by decide +kernel, rfl, by decide +kernel, by decide +kernel⟩
def r__law_take (ad : Str → Addr) : AS := (aSeq (aIfS (aTest (aOp vGt (aOp vIx (aVar 0) (aC (.int 0))) (aC (.int 0)))) (aSeq (aAsg (aOp vMod (aN nInt (aCons (aOp vIx (aVar 0) (aC (.int 0))) aNil)) (aVar 1)) (gNm 2))
  (aSeq (aAsg (aOp vDiv (aOp vIx (aVar 0) (aC (.int 0))) (aVar 1)) (gSb (aVar 0) (aC (.int 0))))
  (aRet (aVar 2)))) aNext)
  (aSeq (aAsg (aOp vMod (aN nInt (aCons (aOp vAdd (aOp vMul (aOp vIx (aVar 0) (aC (.int 1))) (aC (.int 69621))) (aC (.int 211))) aNil)) (aC (.int 2147482819))) (gNm 3))
  (aSeq (aAsg (aOp vMod (aN nInt (aCons (aOp vAdd (aOp vMul (aVar 3) (aC (.int 40692))) (aC (.int 97))) aNil)) (aC (.int 2147482817))) (gNm 4))
  (aSeq (aAsg (aVar 4) (gSb (aVar 0) (aC (.int 1))))
  (aRet (aOp vMod (aN nInt (aCons (aOp vAdd (aOp vMul (aVar 3) (aC (.int 1000541))) (aVar 4)) aNil)) (aVar 1)))))))
theorem b__law_take (M : Md K w mg ad) {cdv : Value} {f : Addr} {A : Around} {outer : List Env} {s : Shared} {H : Hp} {E : XK} (hr : Room 0 (A.deeper (envOfC "_law_take" (defScope s__law_take) s.heap.objs.size f cdv))) :
    ABl (cxOf CX0 P w K mg base N__law_take "_law_take" (defScope s__law_take) f cdv A outer s H E).nox ⟨tabs, H⟩ (defBody s__law_take) (r__law_take ad) := by
  have S := S__law_take
  exact (ab_cons (as_if (ap_gt (ae_ix (ae_var (pv 0)) ae_int) ae_int) (ab_cons (as_set (i := 2) S.nd rfl (by first | exact Or.inl rfl | exact Or.inr rfl) (ae_mod (ae_int1 (hm := M.int_) (ha := (aa_cons (ae_ix (ae_var (pv 0)) ae_int) aa_nil))) (ae_var (pv 1))))
  (ab_cons (as_asg (ae_div (ae_ix (ae_var (pv 0)) ae_int) (ae_var (pv 1))) (ag_sub (ae_var (pv 0)) ae_int))
  (ab_one (as_ret (ae_var (pv 2)))))) ab_nil)
  (ab_cons (as_set (i := 3) S.nd rfl (by first | exact Or.inl rfl | exact Or.inr rfl) (ae_mod (ae_int1 (hm := M.int_) (ha := (aa_cons (ae_add (ae_mul (ae_ix (ae_var (pv 0)) ae_int) ae_int) ae_int) aa_nil))) ae_int))
  (ab_cons (as_set (i := 4) S.nd rfl (by first | exact Or.inl rfl | exact Or.inr rfl) (ae_mod (ae_int1 (hm := M.int_) (ha := (aa_cons (ae_add (ae_mul (ae_var (pv 3)) ae_int) ae_int) aa_nil))) ae_int))
  (ab_cons (as_asg (ae_var (pv 4)) (ag_sub (ae_var (pv 0)) ae_int))
  (ab_one (as_ret (ae_mod (ae_int1 (hm := M.int_) (ha := (aa_cons (ae_add (ae_mul (ae_var (pv 3)) ae_int) (ae_var (pv 4))) aa_nil))) (ae_var (pv 1)))))))))
theorem F__law_take (M : Md K w mg ad)  {f : Addr} {fd : FuncData} (D : FunD K "_law_take" "_law_take" (defArgs s__law_take) (defBody s__law_take) (defScope s__law_take) [] [] f fd) (hm : mg "_law_take" = some (.ref f))
    (len : ∀ ts g A B, sp__law_take ts g A B → ts.length = 2) (pf : ∀ ts g A B, sp__law_take ts g A B → r__law_take ad (endsOf A) (aStart N__law_take ts) g) : Fn P w K mg base CX0 tabs 1 "_law_take" sp__law_take :=
  fn_body0C D rfl S__law_take hm (D.bindsN fun _ _ _ _ _ _ us hl => match us, hl with | [_, _], _ => rfl) len (r__law_take ad) (fun _ _ _ _ _ hr => b__law_take M hr) fun ts g A B h => pf ts g A B h
abbrev N__law_pot : List Str := ["_law_script", "_law_great", "_law_mixed", "_law_item", "_law_cell"]
theorem S__law_pot : FnScope N__law_pot ["_law_script"] (defScope s__law_pot) := ⟨rfl, rfl, rfl, by decide +kernel, rfl, by decide +kernel, by decide +kernel⟩
def r__law_pot (ad : Str → Addr) : AS := (aSeq (aAsg (aC (.int 0)) (gNm 1))
  (aSeq (aAsg (aC (.int 45007)) (gNm 2))
  (aSeq (aFor (iAny (aVar 0)) (gNm 3) (aSeq (aAsg (aN nAbs (aCons (aN nInt (aCons (aVar 3) aNil)) aNil)) (gNm 4))
  (aSeq (aIfS (aAndT (aTest (aOp vEqF (aVar 1) (aC (.int 0)))) (aTest (aOp vGe (aVar 4) (aOp vPow (aC (.int 10)) (aC (.int 18)))))) (aAsg (aVar 4) (gNm 1)) aNext)
  (aAsg (aOp vMod (aN nInt (aCons (aOp vAdd (aOp vAdd (aOp vAdd (aOp vMul (aVar 2) (aC (.int 39373))) (aOp vMul (aVar 4) (aC (.int 2)))) (aN nInt (aCons (aOp vLt (aVar 3) (aC (.int 0))) aNil))) (aC (.int 83))) aNil)) (aC (.int 2147482819))) (gNm 2)))))
  (aRet (aLst (aCons (aVar 1) (aCons (aVar 2) aNil)))))))
theorem b__law_pot (M : Md K w mg ad) {cdv : Value} {f : Addr} {A : Around} {outer : List Env} {s : Shared} {H : Hp} {E : XK} (hr : Room 0 (A.deeper (envOfC "_law_pot" (defScope s__law_pot) s.heap.objs.size f cdv))) :
    ABl (cxOf CX0 P w K mg base N__law_pot "_law_pot" (defScope s__law_pot) f cdv A outer s H E).nox ⟨tabs, H⟩ (defBody s__law_pot) (r__law_pot ad) := by
  have S := S__law_pot
  exact (ab_cons (as_set (i := 1) S.nd rfl (by first | exact Or.inl rfl | exact Or.inr rfl) ae_int)
  (ab_cons (as_set (i := 2) S.nd rfl (by first | exact Or.inl rfl | exact Or.inr rfl) ae_int)
  (ab_cons (as_for PassesOwn.never (ai_any (ae_var (pv 0))) (ag_nm (pg_name (i := 3) S.nd rfl (by first | exact Or.inl rfl | exact Or.inr rfl))) (ab_cons (as_set (i := 4) S.nd rfl (by first | exact Or.inl rfl | exact Or.inr rfl) (ae_abs (hm := M.abs) (ha := (aa_cons (ae_int1 (hm := M.int_) (ha := (aa_cons (ae_var (pv 3)) aa_nil))) aa_nil))))
  (ab_cons (as_if (ap_w (apw_and (ap_eq (ae_var (pv 1)) ae_int) (apw_and1 (ap_ge (ae_var (pv 4)) (ae_pow ae_int ae_int))))) (ab_one (as_set (i := 1) S.nd rfl (by first | exact Or.inl rfl | exact Or.inr rfl) (ae_var (pv 4)))) ab_nil)
  (ab_one (as_set (i := 2) S.nd rfl (by first | exact Or.inl rfl | exact Or.inr rfl) (ae_mod (ae_int1 (hm := M.int_) (ha := (aa_cons (ae_add (ae_add (ae_add (ae_mul (ae_var (pv 2)) ae_int) (ae_mul (ae_var (pv 4)) ae_int)) (ae_int1 (hm := M.int_) (ha := (aa_cons (ae_lt (ae_var (pv 3)) ae_int) aa_nil)))) ae_int) aa_nil))) ae_int))))))
  (ab_one (as_ret (ae_lst (aa_cons (ae_var (pv 1)) (aa_cons (ae_var (pv 2)) aa_nil))))))))
theorem F__law_pot (M : Md K w mg ad)  {f : Addr} {fd : FuncData} (D : FunD K "_law_pot" "_law_pot" (defArgs s__law_pot) (defBody s__law_pot) (defScope s__law_pot) [] [] f fd) (hm : mg "_law_pot" = some (.ref f))
    (len : ∀ ts g A B, sp__law_pot ts g A B → ts.length = 1) (pf : ∀ ts g A B, sp__law_pot ts g A B → r__law_pot ad (endsOf A) (aStart N__law_pot ts) g) : Fn P w K mg base CX0 tabs 1 "_law_pot" sp__law_pot :=
  fn_body0C D rfl S__law_pot hm (D.bindsN fun _ _ _ _ _ _ us hl => match us, hl with | [_], _ => rfl) len (r__law_pot ad) (fun _ _ _ _ _ hr => b__law_pot M hr) fun ts g A B h => pf ts g A B h
abbrev N__law_worth : List Str := ["_law_pot_here", "_law_wide", "_law_way"]
theorem S__law_worth : FnScope N__law_worth ["_law_pot_here", "_law_wide"] (defScope s__law_worth) := ⟨rfl, rfl, rfl, by decide +kernel, rfl, by decide +kernel, by decide +kernel⟩
def r__law_worth (ad : Str → Addr) : AS := (aSeq (aAsg (aCall sp__law_take (fun _ _ => False) (aCons (aVar 0) (aCons (aC (.int 60)) aNil))) (gNm 2))
  (aSeq (aIfS (aTest (aOp vEqF (aVar 2) (aC (.int 0)))) (aRet (aOp vSub (aC (.int 1048575)) (aOp vMul (aC (.int 2097150)) (aCall sp__law_take (fun _ _ => False) (aCons (aVar 0) (aCons (aC (.int 2)) aNil)))))) aNext)
  (aRet (aOp vSub (aCall sp__law_take (fun _ _ => False) (aCons (aVar 0) (aCons (aOp vAdd (aOp vMul (aC (.int 2)) (aVar 1)) (aC (.int 1))) aNil))) (aVar 1)))))
theorem b__law_worth (M : Md K w mg ad) (F__law_take : Fn P w K mg base CX0 tabs 1 "_law_take" sp__law_take) {cdv : Value} {f : Addr} {A : Around} {outer : List Env} {s : Shared} {H : Hp} {E : XK} (hr : Room 1 (A.deeper (envOfC "_law_worth" (defScope s__law_worth) s.heap.objs.size f cdv))) :
    ABl (cxOf CX0 P w K mg base N__law_worth "_law_worth" (defScope s__law_worth) f cdv A outer s H E).nox ⟨tabs, H⟩ (defBody s__law_worth) (r__law_worth ad) := by
  have S := S__law_worth
  exact (ab_cons (as_set (i := 2) S.nd rfl (by first | exact Or.inl rfl | exact Or.inr rfl) (ae_call F__law_take (Room.mono hr (by decide)) (aa_cons (ae_var (pv 0)) (aa_cons ae_int aa_nil))))
  (ab_cons (as_if (ap_eq (ae_var (pv 2)) ae_int) (ab_one (as_ret (ae_sub ae_int (ae_mul ae_int (ae_call F__law_take (Room.mono hr (by decide)) (aa_cons (ae_var (pv 0)) (aa_cons ae_int aa_nil))))))) ab_nil)
  (ab_one (as_ret (ae_sub (ae_call F__law_take (Room.mono hr (by decide)) (aa_cons (ae_var (pv 0)) (aa_cons (ae_add (ae_mul ae_int (ae_var (pv 1))) ae_int) aa_nil))) (ae_var (pv 1)))))))
theorem F__law_worth (M : Md K w mg ad) (F__law_take : Fn P w K mg base CX0 tabs 1 "_law_take" sp__law_take)  {f : Addr} {fd : FuncData} (D : FunD K "_law_worth" "_law_worth" (defArgs s__law_worth) (defBody s__law_worth) (defScope s__law_worth) [] [] f fd) (hm : mg "_law_worth" = some (.ref f))
    (len : ∀ ts g A B, sp__law_worth ts g A B → ts.length = 2) (pf : ∀ ts g A B, sp__law_worth ts g A B → r__law_worth ad (endsOf A) (aStart N__law_worth ts) g) : Fn P w K mg base CX0 tabs 2 "_law_worth" sp__law_worth :=
  fn_body0C D rfl S__law_worth hm (D.bindsN fun _ _ _ _ _ _ us hl => match us, hl with | [_, _], _ => rfl) len (r__law_worth ad) (fun _ _ _ _ _ hr => b__law_worth M F__law_take hr) fun ts g A B h => pf ts g A B h
abbrev N__law_many : List Str := ["_law_pot_here", "_law_way"]
theorem S__law_many : FnScope N__law_many ["_law_pot_here"] (defScope s__law_many) := ⟨rfl, rfl, rfl, by decide +kernel, rfl, by decide +kernel, by decide +kernel⟩
def r__law_many (ad : Str → Addr) : AS := (aSeq (aAsg (aCall sp__law_take (fun _ _ => False) (aCons (aVar 0) (aCons (aC (.int 10)) aNil))) (gNm 1))
  (aSeq (aIfS (aTest (aOp vEqF (aVar 1) (aC (.int 0)))) (aRet (aOp vIx (aTup (aCons (aC (.int 16)) (aCons (aC (.int 128)) (aCons (aC (.int 128)) aNil)))) (aCall sp__law_take (fun _ _ => False) (aCons (aVar 0) (aCons (aC (.int 3)) aNil))))) aNext)
  (aSeq (aIfS (aTest (aOp vLt (aVar 1) (aC (.int 4)))) (aRet (aOp vIx (aTup (aCons (aC (.int 1)) (aCons (aC (.int 2)) (aCons (aC (.int 4)) (aCons (aC (.int 8)) aNil))))) (aCall sp__law_take (fun _ _ => False) (aCons (aVar 0) (aCons (aC (.int 4)) aNil))))) aNext)
  (aRet (aOp vAdd (aC (.int 1)) (aCall sp__law_take (fun _ _ => False) (aCons (aVar 0) (aCons (aC (.int 7)) aNil))))))))
theorem b__law_many (M : Md K w mg ad) (F__law_take : Fn P w K mg base CX0 tabs 1 "_law_take" sp__law_take) {cdv : Value} {f : Addr} {A : Around} {outer : List Env} {s : Shared} {H : Hp} {E : XK} (hr : Room 1 (A.deeper (envOfC "_law_many" (defScope s__law_many) s.heap.objs.size f cdv))) :
    ABl (cxOf CX0 P w K mg base N__law_many "_law_many" (defScope s__law_many) f cdv A outer s H E).nox ⟨tabs, H⟩ (defBody s__law_many) (r__law_many ad) := by
  have S := S__law_many
  exact (ab_cons (as_set (i := 1) S.nd rfl (by first | exact Or.inl rfl | exact Or.inr rfl) (ae_call F__law_take (Room.mono hr (by decide)) (aa_cons (ae_var (pv 0)) (aa_cons ae_int aa_nil))))
  (ab_cons (as_if (ap_eq (ae_var (pv 1)) ae_int) (ab_one (as_ret (ae_ix (ae_tup (aa_cons ae_int (aa_cons ae_int (aa_cons ae_int aa_nil)))) (ae_call F__law_take (Room.mono hr (by decide)) (aa_cons (ae_var (pv 0)) (aa_cons ae_int aa_nil)))))) ab_nil)
  (ab_cons (as_if (ap_lt (ae_var (pv 1)) ae_int) (ab_one (as_ret (ae_ix (ae_tup (aa_cons ae_int (aa_cons ae_int (aa_cons ae_int (aa_cons ae_int aa_nil))))) (ae_call F__law_take (Room.mono hr (by decide)) (aa_cons (ae_var (pv 0)) (aa_cons ae_int aa_nil)))))) ab_nil)
  (ab_one (as_ret (ae_add ae_int (ae_call F__law_take (Room.mono hr (by decide)) (aa_cons (ae_var (pv 0)) (aa_cons ae_int aa_nil)))))))))
theorem F__law_many (M : Md K w mg ad) (F__law_take : Fn P w K mg base CX0 tabs 1 "_law_take" sp__law_take)  {f : Addr} {fd : FuncData} (D : FunD K "_law_many" "_law_many" (defArgs s__law_many) (defBody s__law_many) (defScope s__law_many) [] [] f fd) (hm : mg "_law_many" = some (.ref f))
    (len : ∀ ts g A B, sp__law_many ts g A B → ts.length = 1) (pf : ∀ ts g A B, sp__law_many ts g A B → r__law_many ad (endsOf A) (aStart N__law_many ts) g) : Fn P w K mg base CX0 tabs 2 "_law_many" sp__law_many :=
  fn_body0C D rfl S__law_many hm (D.bindsN fun _ _ _ _ _ _ us hl => match us, hl with | [_], _ => rfl) len (r__law_many ad) (fun _ _ _ _ _ hr => b__law_many M F__law_take hr) fun ts g A B h => pf ts g A B h
abbrev N__law_halfup : List Str := ["_law_number", "_law_many_here"]
theorem S__law_halfup : FnScope N__law_halfup ["_law_number", "_law_many_here"] (defScope s__law_halfup) := ⟨rfl, rfl, rfl, by decide +kernel, rfl, by decide +kernel, by decide +kernel⟩
def r__law_halfup (ad : Str → Addr) : AS := (aRet (aOp vDiv (aN nInt (aCons (aOp vAdd (aOp vMul (aC (.int 2)) (aVar 0)) (aVar 1)) aNil)) (aOp vMul (aC (.int 2)) (aVar 1))))
theorem b__law_halfup (M : Md K w mg ad) {cdv : Value} {f : Addr} {A : Around} {outer : List Env} {s : Shared} {H : Hp} {E : XK} (hr : Room 0 (A.deeper (envOfC "_law_halfup" (defScope s__law_halfup) s.heap.objs.size f cdv))) :
    ABl (cxOf CX0 P w K mg base N__law_halfup "_law_halfup" (defScope s__law_halfup) f cdv A outer s H E).nox ⟨tabs, H⟩ (defBody s__law_halfup) (r__law_halfup ad) := by
  have S := S__law_halfup
  exact (ab_one (as_ret (ae_div (ae_int1 (hm := M.int_) (ha := (aa_cons (ae_add (ae_mul ae_int (ae_var (pv 0))) (ae_var (pv 1))) aa_nil))) (ae_mul ae_int (ae_var (pv 1))))))
theorem F__law_halfup (M : Md K w mg ad)  {f : Addr} {fd : FuncData} (D : FunD K "_law_halfup" "_law_halfup" (defArgs s__law_halfup) (defBody s__law_halfup) (defScope s__law_halfup) [] [] f fd) (hm : mg "_law_halfup" = some (.ref f))
    (len : ∀ ts g A B, sp__law_halfup ts g A B → ts.length = 2) (pf : ∀ ts g A B, sp__law_halfup ts g A B → r__law_halfup ad (endsOf A) (aStart N__law_halfup ts) g) : Fn P w K mg base CX0 tabs 1 "_law_halfup" sp__law_halfup :=
  fn_body0C D rfl S__law_halfup hm (D.bindsN fun _ _ _ _ _ _ us hl => match us, hl with | [_, _], _ => rfl) len (r__law_halfup ad) (fun _ _ _ _ _ hr => b__law_halfup M hr) fun ts g A B h => pf ts g A B h
abbrev N__law_windows : List Str := ["_law_kind", "_law_many_here", "_law_earlier", "_law_sound", "_law_row", "_law_told", "_law_k", "_law_window", "_law_last", "_law_worth_here"]
theorem S__law_windows : FnScope N__law_windows ["_law_kind", "_law_many_here", "_law_earlier", "_law_sound"] (defScope s__law_windows) := ⟨rfl, rfl, rfl, by decide +kernel, rfl, by decide +kernel, by decide +kernel⟩
def r__law_windows (ad : Str → Addr) : AS := (aSeq (aAsg (aOp vAdd (aVar 2) (aVar 3)) (gNm 4))
  (aSeq (aAsg (aLst aNil) (gNm 5))
  (aSeq (aFor (iRange1 (aCons (aN nLen (aCons (aVar 3) aNil)) aNil)) (gNm 6) (aSeq (aAsg (aSl (aVar 4) (aoSome (aOp vSub (aOp vAdd (aOp vAdd (aN nLen (aCons (aVar 2) aNil)) (aVar 6)) (aC (.int 1))) (aVar 1))) (aoSome (aOp vAdd (aOp vAdd (aN nLen (aCons (aVar 2) aNil)) (aVar 6)) (aC (.int 1))))) (gNm 7))
  (aIfS (aTest (aOp vEqF (aVar 0) (aC (.str "peak")))) (aDrop (aApp (aVar 5) (aN nMax2 (aCons (aN (nBest true) (aCons (aVar 7) aNil)) (aCons (aUn vNeg (aN (nBest false) (aCons (aVar 7) aNil))) aNil))))) (aDrop (aApp (aVar 5) (aCall sp__law_halfup (fun _ _ => False) (aCons (aN nSum (aCons (aVar 7) aNil)) (aCons (aVar 1) aNil))))))))
  (aSeq (aAsg (aSl (aVar 4) (aoSome (aOp vSub (aOp vAdd (aN nLen (aCons (aVar 4) aNil)) (aC (.int 1))) (aVar 1))) aoNone) (gNm 8))
  (aSeq (aIfS (aTest (aOp vEqF (aVar 0) (aC (.str "peak")))) (aAsg (aLc (iAny (aVar 8)) (gNm 9) aTrue (aN nAbs (aCons (aVar 9) aNil)) [9]) (gNm 8)) aNext)
  (aRet (aTup (aCons (aTupRev (aVar 8)) (aCons (aN nTup (aCons (aVar 5) aNil)) aNil)))))))))
theorem b__law_windows (M : Md K w mg ad) (F__law_halfup : Fn P w K mg base CX0 tabs 1 "_law_halfup" sp__law_halfup) {cdv : Value} {f : Addr} {A : Around} {outer : List Env} {s : Shared} {H : Hp} {E : XK} (hr : Room 1 (A.deeper (envOfC "_law_windows" (defScope s__law_windows) s.heap.objs.size f cdv))) :
    ABl (cxOf CX0 P w K mg base N__law_windows "_law_windows" (defScope s__law_windows) f cdv A outer s H E).nox ⟨tabs, H⟩ (defBody s__law_windows) (r__law_windows ad) := by
  have S := S__law_windows
  exact (ab_cons (as_set (i := 4) S.nd rfl (by first | exact Or.inl rfl | exact Or.inr rfl) (ae_add (ae_var (pv 2)) (ae_var (pv 3))))
  (ab_cons (as_set (i := 5) S.nd rfl (by first | exact Or.inl rfl | exact Or.inr rfl) (ae_lst aa_nil))
  (ab_cons (as_for PassesOwn.never (ai_range1 (hm := M.range) (ha := (aa_cons (ae_len (hm := M.len) (ha := (aa_cons (ae_var (pv 3)) aa_nil))) aa_nil))) (ag_nm (pg_name (i := 6) S.nd rfl (by first | exact Or.inl rfl | exact Or.inr rfl))) (ab_cons (as_set (i := 7) S.nd rfl (by first | exact Or.inl rfl | exact Or.inr rfl) (ae_sl (ae_var (pv 4)) (ao_some (ae_sub (ae_add (ae_add (ae_len (hm := M.len) (ha := (aa_cons (ae_var (pv 2)) aa_nil))) (ae_var (pv 6))) ae_int) (ae_var (pv 1)))) (ao_some (ae_add (ae_add (ae_len (hm := M.len) (ha := (aa_cons (ae_var (pv 2)) aa_nil))) (ae_var (pv 6))) ae_int))))
  (ab_one (as_if (ap_eq (ae_var (pv 0)) ae_str) (ab_one (as_expr (ae_app (ae_var (pv 5)) (ae_max2 (hm := M.max_) (ha := (aa_cons (ae_max1 (hm := M.max_) (ha := (aa_cons (ae_var (pv 7)) aa_nil))) (aa_cons (ae_neg (ae_min1 (hm := M.min_) (ha := (aa_cons (ae_var (pv 7)) aa_nil)))) aa_nil))))))) (ab_one (as_expr (ae_app (ae_var (pv 5)) (ae_call F__law_halfup (Room.mono hr (by decide)) (aa_cons (ae_sum (hm := M.sum_) (ha := (aa_cons (ae_var (pv 7)) aa_nil))) (aa_cons (ae_var (pv 1)) aa_nil))))))))))
  (ab_cons (as_set (i := 8) S.nd rfl (by first | exact Or.inl rfl | exact Or.inr rfl) (ae_sl (ae_var (pv 4)) (ao_some (ae_sub (ae_add (ae_len (hm := M.len) (ha := (aa_cons (ae_var (pv 4)) aa_nil))) ae_int) (ae_var (pv 1)))) ao_none))
  (ab_cons (as_if (ap_eq (ae_var (pv 0)) ae_str) (ab_one (as_setLc (i := 8) S.nd rfl rfl (sw_true rfl rfl rfl (by decide +kernel)) (own := [("_law_worth_here", 9)]) (sg := simG_nm) (hi := (ai_any (ae_var (pv 8)))) (ok := blkOk_by (own := [("_law_worth_here", 9)]) (N := N__law_windows) (sc := defScope s__law_windows) (by decide +kernel)) (hg := (fun _ _ _ _ _ => (pg_name (i := 9) S.nd rfl (by first | exact Or.inl rfl | exact Or.inr rfl)))) (ht := (fun _ _ _ _ _ => aps_nil)) (he := fun _ _ _ _ _ => (ae_abs (hm := M.abs) (ha := (aa_cons (ae_var (pv 9)) aa_nil)))))) ab_nil)
  (ab_one (as_ret (ae_tup (aa_cons (ae_tupRev (hm := M.tuple_) (hm2 := M.reversed) (ha := (ae_var (pv 8)))) (aa_cons (ae_tuple (hm := M.tuple_) (ha := (aa_cons (ae_var (pv 5)) aa_nil))) aa_nil))))))))))
theorem F__law_windows (M : Md K w mg ad) (F__law_halfup : Fn P w K mg base CX0 tabs 1 "_law_halfup" sp__law_halfup)  {f : Addr} {fd : FuncData} (D : FunD K "_law_windows" "_law_windows" (defArgs s__law_windows) (defBody s__law_windows) (defScope s__law_windows) [] [] f fd) (hm : mg "_law_windows" = some (.ref f))
    (len : ∀ ts g A B, sp__law_windows ts g A B → ts.length = 4) (pf : ∀ ts g A B, sp__law_windows ts g A B → r__law_windows ad (endsOf A) (aStart N__law_windows ts) g) : Fn P w K mg base CX0 tabs 2 "_law_windows" sp__law_windows :=
  fn_body0C D rfl S__law_windows hm (D.bindsN fun _ _ _ _ _ _ us hl => match us, hl with | [_, _, _, _], _ => rfl) len (r__law_windows ad) (fun _ _ _ _ _ hr => b__law_windows M F__law_halfup hr) fun ts g A B h => pf ts g A B h
abbrev N__law_meter : List Str := ["_law_pot_here", "_law_kind", "_law_many_here", "_law_earlier", "_law_sound", "_law_state", "_law_worth_here", "_law_whole", "_law_cut", "_law_first", "_law_rest"]
theorem S__law_meter : FnScope N__law_meter ["_law_pot_here", "_law_kind", "_law_many_here", "_law_earlier", "_law_sound"] (defScope s__law_meter) := ⟨rfl, rfl, rfl, by decide +kernel, rfl, by decide +kernel, by decide +kernel⟩
def r__law_meter (ad : Str → Addr) : AS := (aSeq (aAsg (aTupRev (aVar 3)) (gNm 5))
  (aSeq (aIfS (aTest (aOp vEqF (aVar 1) (aC (.str "peak")))) (aAsg (aN nTup (aCons (aLc (iAny (aVar 5)) (gNm 6) aTrue (aN nAbs (aCons (aVar 6) aNil)) [6]) aNil)) (gNm 5)) aNext)
  (aSeq (aIfS (aTest (aOp (vB2 fun i j => !decide (i = j)) (aCall sp_is_state (fun _ _ => False) (aCons (aVar 1) (aCons (aTup (aCons (aVar 2) aNil)) (aCons (aVar 5) aNil)))) (aC (.bl true)))) (aRet (aC (.bl false))) aNext)
  (aSeq (aAsg (aCall sp__law_windows (fun _ _ => False) (aCons (aVar 1) (aCons (aVar 2) (aCons (aVar 3) (aCons (aVar 4) aNil))))) (gNm 7))
  (aSeq (aIfS (aNotT (aTest (aCall sp__law_same (fun _ _ => False) (aCons (aCall sp_block_of (fun _ _ => False) (aCons (aVar 1) (aCons (aTup (aCons (aVar 2) aNil)) (aCons (aVar 5) (aCons (aTup (aCons (aN nTup (aCons (aVar 4) aNil)) aNil)) (aCons (aN nLen (aCons (aVar 4) aNil)) aNil)))))) (aCons (aVar 7) aNil))))) (aRet (aC (.bl false))) aNext)
  (aSeq (aAsg (aCall sp__law_take (fun _ _ => False) (aCons (aVar 0) (aCons (aOp vAdd (aN nLen (aCons (aVar 4) aNil)) (aC (.int 1))) aNil))) (gNm 8))
  (aSeq (aAsg (aCall sp__law_windows (fun _ _ => False) (aCons (aVar 1) (aCons (aVar 2) (aCons (aVar 3) (aCons (aSl (aVar 4) aoNone (aoSome (aVar 8))) aNil))))) (gNm 9))
  (aSeq (aIfS (aNotT (aTest (aCall sp__law_same (fun _ _ => False) (aCons (aCall sp_block_of (fun _ _ => False) (aCons (aVar 1) (aCons (aTup (aCons (aVar 2) aNil)) (aCons (aVar 5) (aCons (aTup (aCons (aN nTup (aCons (aSl (aVar 4) aoNone (aoSome (aVar 8))) aNil)) aNil)) (aCons (aVar 8) aNil)))))) (aCons (aVar 9) aNil))))) (aRet (aC (.bl false))) aNext)
  (aSeq (aAsg (aCall sp_block_of (fun _ _ => False) (aCons (aVar 1) (aCons (aTup (aCons (aVar 2) aNil)) (aCons (aOp vIx (aVar 9) (aC (.int 0))) (aCons (aTup (aCons (aN nTup (aCons (aSl (aVar 4) (aoSome (aVar 8)) aoNone) aNil)) aNil)) (aCons (aOp vSub (aN nLen (aCons (aVar 4) aNil)) (aVar 8)) aNil)))))) (gNm 10))
  (aRet (aCall sp__law_same (fun _ _ => False) (aCons (aVar 10) (aCons (aTup (aCons (aOp vIx (aVar 7) (aC (.int 0))) (aCons (aSl (aOp vIx (aVar 7) (aC (.int 1))) (aoSome (aVar 8)) aoNone) aNil))) aNil)))))))))))))
theorem b__law_meter (M : Md K w mg ad) (F_is_state : Fn P w K mg base CX0 tabs 11 "is_state" sp_is_state) (F__law_windows : Fn P w K mg base CX0 tabs 2 "_law_windows" sp__law_windows) (F_block_of : Fn P w K mg base CX0 tabs 12 "block_of" sp_block_of) (F__law_same : Fn P w K mg base CX0 tabs 6 "_law_same" sp__law_same) (F__law_take : Fn P w K mg base CX0 tabs 1 "_law_take" sp__law_take) {cdv : Value} {f : Addr} {A : Around} {outer : List Env} {s : Shared} {H : Hp} {E : XK} (hr : Room 12 (A.deeper (envOfC "_law_meter" (defScope s__law_meter) s.heap.objs.size f cdv))) :
    ABl (cxOf CX0 P w K mg base N__law_meter "_law_meter" (defScope s__law_meter) f cdv A outer s H E).nox ⟨tabs, H⟩ (defBody s__law_meter) (r__law_meter ad) := by
  have S := S__law_meter
  exact (ab_cons (as_set (i := 5) S.nd rfl (by first | exact Or.inl rfl | exact Or.inr rfl) (ae_tupRev (hm := M.tuple_) (hm2 := M.reversed) (ha := (ae_var (pv 3)))))
  (ab_cons (as_if (ap_eq (ae_var (pv 1)) ae_str) (ab_one (as_set (i := 5) S.nd rfl (by first | exact Or.inl rfl | exact Or.inr rfl) (ae_tuple (hm := M.tuple_) (ha := (aa_cons (ae_lc (hN := S.nd) (own := [("_law_worth_here", 6)]) (sg := simG_nm) (hi := (ai_any (ae_var (pv 5)))) (ok := blkOk_by (own := [("_law_worth_here", 6)]) (N := N__law_meter) (sc := defScope s__law_meter) (by decide +kernel)) (hg := (fun _ _ _ _ _ => (pg_name (i := 6) S.nd rfl (by first | exact Or.inl rfl | exact Or.inr rfl)))) (ht := (fun _ _ _ _ _ => aps_nil)) (he := fun _ _ _ _ _ => (ae_abs (hm := M.abs) (ha := (aa_cons (ae_var (pv 6)) aa_nil))))) aa_nil))))) ab_nil)
  (ab_cons (as_if (ap_notB (ae_call F_is_state (Room.mono hr (by decide)) (aa_cons (ae_var (pv 1)) (aa_cons (ae_tup (aa_cons (ae_var (pv 2)) aa_nil)) (aa_cons (ae_var (pv 5)) aa_nil)))) ae_bl) (ab_one (as_ret ae_bl)) ab_nil)
  (ab_cons (as_set (i := 7) S.nd rfl (by first | exact Or.inl rfl | exact Or.inr rfl) (ae_call F__law_windows (Room.mono hr (by decide)) (aa_cons (ae_var (pv 1)) (aa_cons (ae_var (pv 2)) (aa_cons (ae_var (pv 3)) (aa_cons (ae_var (pv 4)) aa_nil))))))
  (ab_cons (as_if (ap_not (ap_val (ae_call F__law_same (Room.mono hr (by decide)) (aa_cons (ae_call F_block_of (Room.mono hr (by decide)) (aa_cons (ae_var (pv 1)) (aa_cons (ae_tup (aa_cons (ae_var (pv 2)) aa_nil)) (aa_cons (ae_var (pv 5)) (aa_cons (ae_tup (aa_cons (ae_tuple (hm := M.tuple_) (ha := (aa_cons (ae_var (pv 4)) aa_nil))) aa_nil)) (aa_cons (ae_len (hm := M.len) (ha := (aa_cons (ae_var (pv 4)) aa_nil))) aa_nil)))))) (aa_cons (ae_var (pv 7)) aa_nil))))) (ab_one (as_ret ae_bl)) ab_nil)
  (ab_cons (as_set (i := 8) S.nd rfl (by first | exact Or.inl rfl | exact Or.inr rfl) (ae_call F__law_take (Room.mono hr (by decide)) (aa_cons (ae_var (pv 0)) (aa_cons (ae_add (ae_len (hm := M.len) (ha := (aa_cons (ae_var (pv 4)) aa_nil))) ae_int) aa_nil))))
  (ab_cons (as_set (i := 9) S.nd rfl (by first | exact Or.inl rfl | exact Or.inr rfl) (ae_call F__law_windows (Room.mono hr (by decide)) (aa_cons (ae_var (pv 1)) (aa_cons (ae_var (pv 2)) (aa_cons (ae_var (pv 3)) (aa_cons (ae_sl (ae_var (pv 4)) ao_none (ao_some (ae_var (pv 8)))) aa_nil))))))
  (ab_cons (as_if (ap_not (ap_val (ae_call F__law_same (Room.mono hr (by decide)) (aa_cons (ae_call F_block_of (Room.mono hr (by decide)) (aa_cons (ae_var (pv 1)) (aa_cons (ae_tup (aa_cons (ae_var (pv 2)) aa_nil)) (aa_cons (ae_var (pv 5)) (aa_cons (ae_tup (aa_cons (ae_tuple (hm := M.tuple_) (ha := (aa_cons (ae_sl (ae_var (pv 4)) ao_none (ao_some (ae_var (pv 8)))) aa_nil))) aa_nil)) (aa_cons (ae_var (pv 8)) aa_nil)))))) (aa_cons (ae_var (pv 9)) aa_nil))))) (ab_one (as_ret ae_bl)) ab_nil)
  (ab_cons (as_set (i := 10) S.nd rfl (by first | exact Or.inl rfl | exact Or.inr rfl) (ae_call F_block_of (Room.mono hr (by decide)) (aa_cons (ae_var (pv 1)) (aa_cons (ae_tup (aa_cons (ae_var (pv 2)) aa_nil)) (aa_cons (ae_ix (ae_var (pv 9)) ae_int) (aa_cons (ae_tup (aa_cons (ae_tuple (hm := M.tuple_) (ha := (aa_cons (ae_sl (ae_var (pv 4)) (ao_some (ae_var (pv 8))) ao_none) aa_nil))) aa_nil)) (aa_cons (ae_sub (ae_len (hm := M.len) (ha := (aa_cons (ae_var (pv 4)) aa_nil))) (ae_var (pv 8))) aa_nil)))))))
  (ab_one (as_ret (ae_call F__law_same (Room.mono hr (by decide)) (aa_cons (ae_var (pv 10)) (aa_cons (ae_tup (aa_cons (ae_ix (ae_var (pv 7)) ae_int) (aa_cons (ae_sl (ae_ix (ae_var (pv 7)) ae_int) (ao_some (ae_var (pv 8))) ao_none) aa_nil))) aa_nil))))))))))))))
theorem F__law_meter (M : Md K w mg ad) (F_is_state : Fn P w K mg base CX0 tabs 11 "is_state" sp_is_state) (F__law_windows : Fn P w K mg base CX0 tabs 2 "_law_windows" sp__law_windows) (F_block_of : Fn P w K mg base CX0 tabs 12 "block_of" sp_block_of) (F__law_same : Fn P w K mg base CX0 tabs 6 "_law_same" sp__law_same) (F__law_take : Fn P w K mg base CX0 tabs 1 "_law_take" sp__law_take)  {f : Addr} {fd : FuncData} (D : FunD K "_law_meter" "_law_meter" (defArgs s__law_meter) (defBody s__law_meter) (defScope s__law_meter) [] [] f fd) (hm : mg "_law_meter" = some (.ref f))
    (len : ∀ ts g A B, sp__law_meter ts g A B → ts.length = 5) (pf : ∀ ts g A B, sp__law_meter ts g A B → r__law_meter ad (endsOf A) (aStart N__law_meter ts) g) : Fn P w K mg base CX0 tabs 13 "_law_meter" sp__law_meter :=
  fn_body0C D rfl S__law_meter hm (D.bindsN fun _ _ _ _ _ _ us hl => match us, hl with | [_, _, _, _, _], _ => rfl) len (r__law_meter ad) (fun _ _ _ _ _ hr => b__law_meter M F_is_state F__law_windows F_block_of F__law_same F__law_take hr) fun ts g A B h => pf ts g A B h
abbrev N__law_from_start : List Str := ["_law_kind", "_law_knobs", "_law_sound"]
theorem S__law_from_start : FnScope N__law_from_start ["_law_kind", "_law_knobs", "_law_sound"] (defScope s__law_from_start) := ⟨rfl, rfl, rfl, by decide +kernel, rfl, by decide +kernel, by decide +kernel⟩
def r__law_from_start (ad : Str → Addr) : AS := (aRet (aCall sp_block_of (fun _ _ => False) (aCons (aVar 0) (aCons (aVar 1) (aCons (aCall sp_start_of (fun _ _ => False) (aCons (aVar 0) (aCons (aVar 1) aNil))) (aCons (aTup (aCons (aVar 2) aNil)) (aCons (aN nLen (aCons (aVar 2) aNil)) aNil)))))))
theorem b__law_from_start (M : Md K w mg ad) (F_start_of : Fn P w K mg base CX0 tabs 10 "start_of" sp_start_of) (F_block_of : Fn P w K mg base CX0 tabs 12 "block_of" sp_block_of) {cdv : Value} {f : Addr} {A : Around} {outer : List Env} {s : Shared} {H : Hp} {E : XK} (hr : Room 12 (A.deeper (envOfC "_law_from_start" (defScope s__law_from_start) s.heap.objs.size f cdv))) :
    ABl (cxOf CX0 P w K mg base N__law_from_start "_law_from_start" (defScope s__law_from_start) f cdv A outer s H E).nox ⟨tabs, H⟩ (defBody s__law_from_start) (r__law_from_start ad) := by
  have S := S__law_from_start
  exact (ab_one (as_ret (ae_call F_block_of (Room.mono hr (by decide)) (aa_cons (ae_var (pv 0)) (aa_cons (ae_var (pv 1)) (aa_cons (ae_call F_start_of (Room.mono hr (by decide)) (aa_cons (ae_var (pv 0)) (aa_cons (ae_var (pv 1)) aa_nil))) (aa_cons (ae_tup (aa_cons (ae_var (pv 2)) aa_nil)) (aa_cons (ae_len (hm := M.len) (ha := (aa_cons (ae_var (pv 2)) aa_nil))) aa_nil))))))))
theorem F__law_from_start (M : Md K w mg ad) (F_start_of : Fn P w K mg base CX0 tabs 10 "start_of" sp_start_of) (F_block_of : Fn P w K mg base CX0 tabs 12 "block_of" sp_block_of)  {f : Addr} {fd : FuncData} (D : FunD K "_law_from_start" "_law_from_start" (defArgs s__law_from_start) (defBody s__law_from_start) (defScope s__law_from_start) [] [] f fd) (hm : mg "_law_from_start" = some (.ref f))
    (len : ∀ ts g A B, sp__law_from_start ts g A B → ts.length = 3) (pf : ∀ ts g A B, sp__law_from_start ts g A B → r__law_from_start ad (endsOf A) (aStart N__law_from_start ts) g) : Fn P w K mg base CX0 tabs 13 "_law_from_start" sp__law_from_start :=
  fn_body0C D rfl S__law_from_start hm (D.bindsN fun _ _ _ _ _ _ us hl => match us, hl with | [_, _, _], _ => rfl) len (r__law_from_start ad) (fun _ _ _ _ _ hr => b__law_from_start M F_start_of F_block_of hr) fun ts g A B h => pf ts g A B h
abbrev N__law_peaks : List Str := ["_law_one", "_law_other", "_law_sound", "_law_noughts", "_law_k", "_law_due", "_law_within", "_law_over"]
theorem S__law_peaks : FnScope N__law_peaks ["_law_one", "_law_other", "_law_sound"] (defScope s__law_peaks) := ⟨rfl, rfl, rfl, by decide +kernel, rfl, by decide +kernel, by decide +kernel⟩
def r__law_peaks (ad : Str → Addr) : AS := (aSeq (aAsg (aLc (iRange1 (aCons (aOp vSub (aOp vAdd (aVar 0) (aVar 1)) (aC (.int 2))) aNil)) (gNm 4) aTrue (aC (.int 0)) [4]) (gNm 3))
  (aSeq (aAsg (aCall sp__law_windows (fun _ _ => False) (aCons (aC (.str "peak")) (aCons (aOp vSub (aOp vAdd (aVar 0) (aVar 1)) (aC (.int 1))) (aCons (aVar 3) (aCons (aVar 2) aNil))))) (gNm 5))
  (aSeq (aIfS (aNotT (aTest (aCall sp__law_same (fun _ _ => False) (aCons (aCall sp__law_from_start (fun _ _ => False) (aCons (aC (.str "peak")) (aCons (aTup (aCons (aOp vSub (aOp vAdd (aVar 0) (aVar 1)) (aC (.int 1))) aNil)) (aCons (aN nTup (aCons (aVar 2) aNil)) aNil)))) (aCons (aVar 5) aNil))))) (aRet (aC (.bl false))) aNext)
  (aSeq (aAsg (aCall sp__law_windows (fun _ _ => False) (aCons (aC (.str "peak")) (aCons (aVar 0) (aCons (aSl (aVar 3) aoNone (aoSome (aOp vSub (aVar 0) (aC (.int 1))))) (aCons (aVar 2) aNil))))) (gNm 6))
  (aSeq (aIfS (aNotT (aTest (aCall sp__law_same (fun _ _ => False) (aCons (aCall sp__law_from_start (fun _ _ => False) (aCons (aC (.str "peak")) (aCons (aTup (aCons (aVar 0) aNil)) (aCons (aN nTup (aCons (aVar 2) aNil)) aNil)))) (aCons (aVar 6) aNil))))) (aRet (aC (.bl false))) aNext)
  (aSeq (aAsg (aCall sp__law_windows (fun _ _ => False) (aCons (aC (.str "peak")) (aCons (aVar 1) (aCons (aSl (aVar 3) aoNone (aoSome (aOp vSub (aVar 1) (aC (.int 1))))) (aCons (aN nLst (aCons (aOp vIx (aVar 6) (aC (.int 1))) aNil)) aNil))))) (gNm 7))
  (aRet (aCall sp__law_same (fun _ _ => False) (aCons (aCall sp__law_from_start (fun _ _ => False) (aCons (aC (.str "peak")) (aCons (aTup (aCons (aVar 1) aNil)) (aCons (aOp vIx (aVar 6) (aC (.int 1))) aNil)))) (aCons (aTup (aCons (aOp vIx (aVar 7) (aC (.int 0))) (aCons (aOp vIx (aVar 5) (aC (.int 1))) aNil))) aNil))))))))))
theorem b__law_peaks (M : Md K w mg ad) (F__law_windows : Fn P w K mg base CX0 tabs 2 "_law_windows" sp__law_windows) (F__law_from_start : Fn P w K mg base CX0 tabs 13 "_law_from_start" sp__law_from_start) (F__law_same : Fn P w K mg base CX0 tabs 6 "_law_same" sp__law_same) {cdv : Value} {f : Addr} {A : Around} {outer : List Env} {s : Shared} {H : Hp} {E : XK} (hr : Room 13 (A.deeper (envOfC "_law_peaks" (defScope s__law_peaks) s.heap.objs.size f cdv))) :
    ABl (cxOf CX0 P w K mg base N__law_peaks "_law_peaks" (defScope s__law_peaks) f cdv A outer s H E).nox ⟨tabs, H⟩ (defBody s__law_peaks) (r__law_peaks ad) := by
  have S := S__law_peaks
  exact (ab_cons (as_setLc (i := 3) S.nd rfl rfl (sw_true rfl rfl rfl (by decide +kernel)) (own := [("_law_k", 4)]) (sg := simG_nm) (hi := (ai_range1 (hm := M.range) (ha := (aa_cons (ae_sub (ae_add (ae_var (pv 0)) (ae_var (pv 1))) ae_int) aa_nil)))) (ok := blkOk_by (own := [("_law_k", 4)]) (N := N__law_peaks) (sc := defScope s__law_peaks) (by decide +kernel)) (hg := (fun _ _ _ _ _ => (pg_name (i := 4) S.nd rfl (by first | exact Or.inl rfl | exact Or.inr rfl)))) (ht := (fun _ _ _ _ _ => aps_nil)) (he := fun _ _ _ _ _ => ae_int))
  (ab_cons (as_set (i := 5) S.nd rfl (by first | exact Or.inl rfl | exact Or.inr rfl) (ae_call F__law_windows (Room.mono hr (by decide)) (aa_cons ae_str (aa_cons (ae_sub (ae_add (ae_var (pv 0)) (ae_var (pv 1))) ae_int) (aa_cons (ae_var (pv 3)) (aa_cons (ae_var (pv 2)) aa_nil))))))
  (ab_cons (as_if (ap_not (ap_val (ae_call F__law_same (Room.mono hr (by decide)) (aa_cons (ae_call F__law_from_start (Room.mono hr (by decide)) (aa_cons ae_str (aa_cons (ae_tup (aa_cons (ae_sub (ae_add (ae_var (pv 0)) (ae_var (pv 1))) ae_int) aa_nil)) (aa_cons (ae_tuple (hm := M.tuple_) (ha := (aa_cons (ae_var (pv 2)) aa_nil))) aa_nil)))) (aa_cons (ae_var (pv 5)) aa_nil))))) (ab_one (as_ret ae_bl)) ab_nil)
  (ab_cons (as_set (i := 6) S.nd rfl (by first | exact Or.inl rfl | exact Or.inr rfl) (ae_call F__law_windows (Room.mono hr (by decide)) (aa_cons ae_str (aa_cons (ae_var (pv 0)) (aa_cons (ae_sl (ae_var (pv 3)) ao_none (ao_some (ae_sub (ae_var (pv 0)) ae_int))) (aa_cons (ae_var (pv 2)) aa_nil))))))
  (ab_cons (as_if (ap_not (ap_val (ae_call F__law_same (Room.mono hr (by decide)) (aa_cons (ae_call F__law_from_start (Room.mono hr (by decide)) (aa_cons ae_str (aa_cons (ae_tup (aa_cons (ae_var (pv 0)) aa_nil)) (aa_cons (ae_tuple (hm := M.tuple_) (ha := (aa_cons (ae_var (pv 2)) aa_nil))) aa_nil)))) (aa_cons (ae_var (pv 6)) aa_nil))))) (ab_one (as_ret ae_bl)) ab_nil)
  (ab_cons (as_set (i := 7) S.nd rfl (by first | exact Or.inl rfl | exact Or.inr rfl) (ae_call F__law_windows (Room.mono hr (by decide)) (aa_cons ae_str (aa_cons (ae_var (pv 1)) (aa_cons (ae_sl (ae_var (pv 3)) ao_none (ao_some (ae_sub (ae_var (pv 1)) ae_int))) (aa_cons (ae_list (hm := M.list_) (ha := (aa_cons (ae_ix (ae_var (pv 6)) ae_int) aa_nil))) aa_nil))))))
  (ab_one (as_ret (ae_call F__law_same (Room.mono hr (by decide)) (aa_cons (ae_call F__law_from_start (Room.mono hr (by decide)) (aa_cons ae_str (aa_cons (ae_tup (aa_cons (ae_var (pv 1)) aa_nil)) (aa_cons (ae_ix (ae_var (pv 6)) ae_int) aa_nil)))) (aa_cons (ae_tup (aa_cons (ae_ix (ae_var (pv 7)) ae_int) (aa_cons (ae_ix (ae_var (pv 5)) ae_int) aa_nil))) aa_nil)))))))))))
theorem F__law_peaks (M : Md K w mg ad) (F__law_windows : Fn P w K mg base CX0 tabs 2 "_law_windows" sp__law_windows) (F__law_from_start : Fn P w K mg base CX0 tabs 13 "_law_from_start" sp__law_from_start) (F__law_same : Fn P w K mg base CX0 tabs 6 "_law_same" sp__law_same)  {f : Addr} {fd : FuncData} (D : FunD K "_law_peaks" "_law_peaks" (defArgs s__law_peaks) (defBody s__law_peaks) (defScope s__law_peaks) [] [] f fd) (hm : mg "_law_peaks" = some (.ref f))
    (len : ∀ ts g A B, sp__law_peaks ts g A B → ts.length = 3) (pf : ∀ ts g A B, sp__law_peaks ts g A B → r__law_peaks ad (endsOf A) (aStart N__law_peaks ts) g) : Fn P w K mg base CX0 tabs 14 "_law_peaks" sp__law_peaks :=
  fn_body0C D rfl S__law_peaks hm (D.bindsN fun _ _ _ _ _ _ us hl => match us, hl with | [_, _, _], _ => rfl) len (r__law_peaks ad) (fun _ _ _ _ _ hr => b__law_peaks M F__law_windows F__law_from_start F__law_same hr) fun ts g A B h => pf ts g A B h
abbrev N__law_means : List Str := ["_law_pot_here", "_law_many_here", "_law_sound", "_law_noughts", "_law_k", "_law_due", "_law_weights", "_law_size", "_law_so_far", "_law_newest", "_law_louds", "_law_worth_here", "_law_more", "_law_held", "_law_greatest", "_law_lead"]
theorem S__law_means : FnScope N__law_means ["_law_pot_here", "_law_many_here", "_law_sound"] (defScope s__law_means) := ⟨rfl, rfl, rfl, by decide +kernel, rfl, by decide +kernel, by decide +kernel⟩
def r__law_means (ad : Str → Addr) : AS := (aSeq (aAsg (aLc (iRange1 (aCons (aOp vSub (aVar 1) (aC (.int 1))) aNil)) (gNm 4) aTrue (aC (.int 0)) [4]) (gNm 3))
  (aSeq (aAsg (aCall sp__law_windows (fun _ _ => False) (aCons (aC (.str "mean")) (aCons (aVar 1) (aCons (aVar 3) (aCons (aVar 2) aNil))))) (gNm 5))
  (aSeq (aIfS (aNotT (aTest (aCall sp__law_same (fun _ _ => False) (aCons (aCall sp__law_from_start (fun _ _ => False) (aCons (aC (.str "mean")) (aCons (aTup (aCons (aVar 1) aNil)) (aCons (aN nTup (aCons (aVar 2) aNil)) aNil)))) (aCons (aVar 5) aNil))))) (aRet (aC (.bl false))) aNext)
  (aSeq (aIfS (aTest (aOp (vIn false) (aVar 1) (aTup (aCons (aC (.int 1)) (aCons (aC (.int 2)) (aCons (aC (.int 4)) (aCons (aC (.int 8)) (aCons (aC (.int 16)) aNil)))))))) (aSeq (aAsg (aN nTup (aCons (aLc (iRange1 (aCons (aVar 1) aNil)) (gNm 4) aTrue (aOp vDiv (aC (.int 4096)) (aVar 1)) [4]) aNil)) (gNm 6))
  (aIfS (aNotT (aTest (aCall sp__law_same (fun _ _ => False) (aCons (aCall sp__law_from_start (fun _ _ => False) (aCons (aC (.str "taps")) (aCons (aTup (aCons (aVar 6) aNil)) (aCons (aN nTup (aCons (aVar 2) aNil)) aNil)))) (aCons (aVar 5) aNil))))) (aRet (aC (.bl false))) aNext)) aNext)
  (aSeq (aAsg (aN nLen (aCons (aVar 2) aNil)) (gNm 7))
  (aSeq (aAsg (aLc (iRange1 (aCons (aVar 7) aNil)) (gNm 4) aTrue (aCall sp__law_halfup (fun _ _ => False) (aCons (aN nSum (aCons (aSl (aVar 2) aoNone (aoSome (aOp vAdd (aVar 4) (aC (.int 1))))) aNil)) (aCons (aVar 7) aNil))) [4]) (gNm 8))
  (aSeq (aAsg (aTupRev (aSl (aVar 2) (aoSome (aC (.int 1))) aoNone)) (gNm 9))
  (aSeq (aIfS (aNotT (aTest (aCall sp__law_same (fun _ _ => False) (aCons (aCall sp__law_from_start (fun _ _ => False) (aCons (aC (.str "mean")) (aCons (aTup (aCons (aVar 7) aNil)) (aCons (aN nTup (aCons (aVar 2) aNil)) aNil)))) (aCons (aTup (aCons (aVar 9) (aCons (aN nTup (aCons (aVar 8) aNil)) aNil))) aNil))))) (aRet (aC (.bl false))) aNext)
  (aSeq (aAsg (aLc (iAny (aVar 2)) (gNm 11) aTrue (aN nAbs (aCons (aVar 11) aNil)) [11]) (gNm 10))
  (aSeq (aAsg (aCall sp__law_take (fun _ _ => False) (aCons (aVar 0) (aCons (aC (.int 9)) aNil))) (gNm 12))
  (aSeq (aAsg (aOp vAdd (aTupRev (aSl (aVar 10) (aoSome (aN nInt (aCons (aOp vEqF (aVar 12) (aC (.int 0))) aNil))) aoNone)) (aOp vMul (aTup (aCons (aC (.int 0)) aNil)) (aN nMax2 (aCons (aC (.int 0)) (aCons (aOp vSub (aVar 12) (aC (.int 1))) aNil))))) (gNm 13))
  (aSeq (aAsg (aN nTup (aCons (aLc (iRange1 (aCons (aVar 7) aNil)) (gNm 4) aTrue (aN (nBest true) (aCons (aSl (aVar 10) aoNone (aoSome (aOp vAdd (aVar 4) (aC (.int 1))))) aNil)) [4]) aNil)) (gNm 14))
  (aSeq (aIfS (aNotT (aTest (aCall sp__law_same (fun _ _ => False) (aCons (aCall sp__law_from_start (fun _ _ => False) (aCons (aC (.str "peak")) (aCons (aTup (aCons (aOp vAdd (aVar 7) (aVar 12)) aNil)) (aCons (aN nTup (aCons (aVar 2) aNil)) aNil)))) (aCons (aTup (aCons (aVar 13) (aCons (aVar 14) aNil))) aNil))))) (aRet (aC (.bl false))) aNext)
  (aSeq (aAsg (aLc (iRange1 (aCons (aCall sp__law_take (fun _ _ => False) (aCons (aVar 0) (aCons (aC (.int 7)) aNil))) aNil)) (gNm 4) aTrue (aC (.int 0)) [4]) (gNm 15))
  (aRet (aCall sp__law_same (fun _ _ => False) (aCons (aCall sp__law_from_start (fun _ _ => False) (aCons (aC (.str "mean")) (aCons (aTup (aCons (aVar 1) aNil)) (aCons (aN nTup (aCons (aOp vAdd (aVar 15) (aVar 2)) aNil)) aNil)))) (aCons (aTup (aCons (aOp vIx (aVar 5) (aC (.int 0))) (aCons (aOp vAdd (aN nTup (aCons (aVar 15) aNil)) (aOp vIx (aVar 5) (aC (.int 1)))) aNil))) aNil))))))))))))))))))
theorem b__law_means (M : Md K w mg ad) (F__law_windows : Fn P w K mg base CX0 tabs 2 "_law_windows" sp__law_windows) (F__law_from_start : Fn P w K mg base CX0 tabs 13 "_law_from_start" sp__law_from_start) (F__law_same : Fn P w K mg base CX0 tabs 6 "_law_same" sp__law_same) (F__law_halfup : Fn P w K mg base CX0 tabs 1 "_law_halfup" sp__law_halfup) (F__law_take : Fn P w K mg base CX0 tabs 1 "_law_take" sp__law_take) {cdv : Value} {f : Addr} {A : Around} {outer : List Env} {s : Shared} {H : Hp} {E : XK} (hr : Room 13 (A.deeper (envOfC "_law_means" (defScope s__law_means) s.heap.objs.size f cdv))) :
    ABl (cxOf CX0 P w K mg base N__law_means "_law_means" (defScope s__law_means) f cdv A outer s H E).nox ⟨tabs, H⟩ (defBody s__law_means) (r__law_means ad) := by
  have S := S__law_means
  exact (ab_cons (as_setLc (i := 3) S.nd rfl rfl (sw_true rfl rfl rfl (by decide +kernel)) (own := [("_law_k", 4)]) (sg := simG_nm) (hi := (ai_range1 (hm := M.range) (ha := (aa_cons (ae_sub (ae_var (pv 1)) ae_int) aa_nil)))) (ok := blkOk_by (own := [("_law_k", 4)]) (N := N__law_means) (sc := defScope s__law_means) (by decide +kernel)) (hg := (fun _ _ _ _ _ => (pg_name (i := 4) S.nd rfl (by first | exact Or.inl rfl | exact Or.inr rfl)))) (ht := (fun _ _ _ _ _ => aps_nil)) (he := fun _ _ _ _ _ => ae_int))
  (ab_cons (as_set (i := 5) S.nd rfl (by first | exact Or.inl rfl | exact Or.inr rfl) (ae_call F__law_windows (Room.mono hr (by decide)) (aa_cons ae_str (aa_cons (ae_var (pv 1)) (aa_cons (ae_var (pv 3)) (aa_cons (ae_var (pv 2)) aa_nil))))))
  (ab_cons (as_if (ap_not (ap_val (ae_call F__law_same (Room.mono hr (by decide)) (aa_cons (ae_call F__law_from_start (Room.mono hr (by decide)) (aa_cons ae_str (aa_cons (ae_tup (aa_cons (ae_var (pv 1)) aa_nil)) (aa_cons (ae_tuple (hm := M.tuple_) (ha := (aa_cons (ae_var (pv 2)) aa_nil))) aa_nil)))) (aa_cons (ae_var (pv 5)) aa_nil))))) (ab_one (as_ret ae_bl)) ab_nil)
  (ab_cons (as_if (ap_in (ae_var (pv 1)) (ae_tup (aa_cons ae_int (aa_cons ae_int (aa_cons ae_int (aa_cons ae_int (aa_cons ae_int aa_nil))))))) (ab_cons (as_set (i := 6) S.nd rfl (by first | exact Or.inl rfl | exact Or.inr rfl) (ae_tuple (hm := M.tuple_) (ha := (aa_cons (ae_lc (hN := S.nd) (own := [("_law_k", 4)]) (sg := simG_nm) (hi := (ai_range1 (hm := M.range) (ha := (aa_cons (ae_var (pv 1)) aa_nil)))) (ok := blkOk_by (own := [("_law_k", 4)]) (N := N__law_means) (sc := defScope s__law_means) (by decide +kernel)) (hg := (fun _ _ _ _ _ => (pg_name (i := 4) S.nd rfl (by first | exact Or.inl rfl | exact Or.inr rfl)))) (ht := (fun _ _ _ _ _ => aps_nil)) (he := fun _ _ _ _ _ => (ae_div ae_int (ae_var (pv 1))))) aa_nil))))
  (ab_one (as_if (ap_not (ap_val (ae_call F__law_same (Room.mono hr (by decide)) (aa_cons (ae_call F__law_from_start (Room.mono hr (by decide)) (aa_cons ae_str (aa_cons (ae_tup (aa_cons (ae_var (pv 6)) aa_nil)) (aa_cons (ae_tuple (hm := M.tuple_) (ha := (aa_cons (ae_var (pv 2)) aa_nil))) aa_nil)))) (aa_cons (ae_var (pv 5)) aa_nil))))) (ab_one (as_ret ae_bl)) ab_nil))) ab_nil)
  (ab_cons (as_set (i := 7) S.nd rfl (by first | exact Or.inl rfl | exact Or.inr rfl) (ae_len (hm := M.len) (ha := (aa_cons (ae_var (pv 2)) aa_nil))))
  (ab_cons (as_setLc (i := 8) S.nd rfl rfl (sw_true rfl rfl rfl (by decide +kernel)) (own := [("_law_k", 4)]) (sg := simG_nm) (hi := (ai_range1 (hm := M.range) (ha := (aa_cons (ae_var (pv 7)) aa_nil)))) (ok := blkOk_by (own := [("_law_k", 4)]) (N := N__law_means) (sc := defScope s__law_means) (by decide +kernel)) (hg := (fun _ _ _ _ _ => (pg_name (i := 4) S.nd rfl (by first | exact Or.inl rfl | exact Or.inr rfl)))) (ht := (fun _ _ _ _ _ => aps_nil)) (he := fun _ _ _ _ _ => (ae_call F__law_halfup (Room.mono hr (by decide)) (aa_cons (ae_sum (hm := M.sum_) (ha := (aa_cons (ae_sl (ae_var (pv 2)) ao_none (ao_some (ae_add (ae_var (pv 4)) ae_int))) aa_nil))) (aa_cons (ae_var (pv 7)) aa_nil)))))
  (ab_cons (as_set (i := 9) S.nd rfl (by first | exact Or.inl rfl | exact Or.inr rfl) (ae_tupRev (hm := M.tuple_) (hm2 := M.reversed) (ha := (ae_sl (ae_var (pv 2)) (ao_some ae_int) ao_none))))
  (ab_cons (as_if (ap_not (ap_val (ae_call F__law_same (Room.mono hr (by decide)) (aa_cons (ae_call F__law_from_start (Room.mono hr (by decide)) (aa_cons ae_str (aa_cons (ae_tup (aa_cons (ae_var (pv 7)) aa_nil)) (aa_cons (ae_tuple (hm := M.tuple_) (ha := (aa_cons (ae_var (pv 2)) aa_nil))) aa_nil)))) (aa_cons (ae_tup (aa_cons (ae_var (pv 9)) (aa_cons (ae_tuple (hm := M.tuple_) (ha := (aa_cons (ae_var (pv 8)) aa_nil))) aa_nil))) aa_nil))))) (ab_one (as_ret ae_bl)) ab_nil)
  (ab_cons (as_set (i := 10) S.nd rfl (by first | exact Or.inl rfl | exact Or.inr rfl) (ae_lc (hN := S.nd) (own := [("_law_worth_here", 11)]) (sg := simG_nm) (hi := (ai_any (ae_var (pv 2)))) (ok := blkOk_by (own := [("_law_worth_here", 11)]) (N := N__law_means) (sc := defScope s__law_means) (by decide +kernel)) (hg := (fun _ _ _ _ _ => (pg_name (i := 11) S.nd rfl (by first | exact Or.inl rfl | exact Or.inr rfl)))) (ht := (fun _ _ _ _ _ => aps_nil)) (he := fun _ _ _ _ _ => (ae_abs (hm := M.abs) (ha := (aa_cons (ae_var (pv 11)) aa_nil))))))
  (ab_cons (as_set (i := 12) S.nd rfl (by first | exact Or.inl rfl | exact Or.inr rfl) (ae_call F__law_take (Room.mono hr (by decide)) (aa_cons (ae_var (pv 0)) (aa_cons ae_int aa_nil))))
  (ab_cons (as_set (i := 13) S.nd rfl (by first | exact Or.inl rfl | exact Or.inr rfl) (ae_add (ae_tupRev (hm := M.tuple_) (hm2 := M.reversed) (ha := (ae_sl (ae_var (pv 10)) (ao_some (ae_int1 (hm := M.int_) (ha := (aa_cons (ae_eq (ae_var (pv 12)) ae_int) aa_nil)))) ao_none))) (ae_mul (ae_tup (aa_cons ae_int aa_nil)) (ae_max2 (hm := M.max_) (ha := (aa_cons ae_int (aa_cons (ae_sub (ae_var (pv 12)) ae_int) aa_nil)))))))
  (ab_cons (as_set (i := 14) S.nd rfl (by first | exact Or.inl rfl | exact Or.inr rfl) (ae_tuple (hm := M.tuple_) (ha := (aa_cons (ae_lc (hN := S.nd) (own := [("_law_k", 4)]) (sg := simG_nm) (hi := (ai_range1 (hm := M.range) (ha := (aa_cons (ae_var (pv 7)) aa_nil)))) (ok := blkOk_by (own := [("_law_k", 4)]) (N := N__law_means) (sc := defScope s__law_means) (by decide +kernel)) (hg := (fun _ _ _ _ _ => (pg_name (i := 4) S.nd rfl (by first | exact Or.inl rfl | exact Or.inr rfl)))) (ht := (fun _ _ _ _ _ => aps_nil)) (he := fun _ _ _ _ _ => (ae_max1 (hm := M.max_) (ha := (aa_cons (ae_sl (ae_var (pv 10)) ao_none (ao_some (ae_add (ae_var (pv 4)) ae_int))) aa_nil))))) aa_nil))))
  (ab_cons (as_if (ap_not (ap_val (ae_call F__law_same (Room.mono hr (by decide)) (aa_cons (ae_call F__law_from_start (Room.mono hr (by decide)) (aa_cons ae_str (aa_cons (ae_tup (aa_cons (ae_add (ae_var (pv 7)) (ae_var (pv 12))) aa_nil)) (aa_cons (ae_tuple (hm := M.tuple_) (ha := (aa_cons (ae_var (pv 2)) aa_nil))) aa_nil)))) (aa_cons (ae_tup (aa_cons (ae_var (pv 13)) (aa_cons (ae_var (pv 14)) aa_nil))) aa_nil))))) (ab_one (as_ret ae_bl)) ab_nil)
  (ab_cons (as_setLc (i := 15) S.nd rfl rfl (sw_true rfl rfl rfl (by decide +kernel)) (own := [("_law_k", 4)]) (sg := simG_nm) (hi := (ai_range1 (hm := M.range) (ha := (aa_cons (ae_call F__law_take (Room.mono hr (by decide)) (aa_cons (ae_var (pv 0)) (aa_cons ae_int aa_nil))) aa_nil)))) (ok := blkOk_by (own := [("_law_k", 4)]) (N := N__law_means) (sc := defScope s__law_means) (by decide +kernel)) (hg := (fun _ _ _ _ _ => (pg_name (i := 4) S.nd rfl (by first | exact Or.inl rfl | exact Or.inr rfl)))) (ht := (fun _ _ _ _ _ => aps_nil)) (he := fun _ _ _ _ _ => ae_int))
  (ab_one (as_ret (ae_call F__law_same (Room.mono hr (by decide)) (aa_cons (ae_call F__law_from_start (Room.mono hr (by decide)) (aa_cons ae_str (aa_cons (ae_tup (aa_cons (ae_var (pv 1)) aa_nil)) (aa_cons (ae_tuple (hm := M.tuple_) (ha := (aa_cons (ae_add (ae_var (pv 15)) (ae_var (pv 2))) aa_nil))) aa_nil)))) (aa_cons (ae_tup (aa_cons (ae_ix (ae_var (pv 5)) ae_int) (aa_cons (ae_add (ae_tuple (hm := M.tuple_) (ha := (aa_cons (ae_var (pv 15)) aa_nil))) (ae_ix (ae_var (pv 5)) ae_int)) aa_nil))) aa_nil)))))))))))))))))))
theorem F__law_means (M : Md K w mg ad) (F__law_windows : Fn P w K mg base CX0 tabs 2 "_law_windows" sp__law_windows) (F__law_from_start : Fn P w K mg base CX0 tabs 13 "_law_from_start" sp__law_from_start) (F__law_same : Fn P w K mg base CX0 tabs 6 "_law_same" sp__law_same) (F__law_halfup : Fn P w K mg base CX0 tabs 1 "_law_halfup" sp__law_halfup) (F__law_take : Fn P w K mg base CX0 tabs 1 "_law_take" sp__law_take)  {f : Addr} {fd : FuncData} (D : FunD K "_law_means" "_law_means" (defArgs s__law_means) (defBody s__law_means) (defScope s__law_means) [] [] f fd) (hm : mg "_law_means" = some (.ref f))
    (len : ∀ ts g A B, sp__law_means ts g A B → ts.length = 3) (pf : ∀ ts g A B, sp__law_means ts g A B → r__law_means ad (endsOf A) (aStart N__law_means ts) g) : Fn P w K mg base CX0 tabs 14 "_law_means" sp__law_means :=
  fn_body0C D rfl S__law_means hm (D.bindsN fun _ _ _ _ _ _ us hl => match us, hl with | [_, _, _], _ => rfl) len (r__law_means ad) (fun _ _ _ _ _ hr => b__law_means M F__law_windows F__law_from_start F__law_same F__law_halfup F__law_take hr) fun ts g A B h => pf ts g A B h
abbrev N__law_constant : List Str := ["_law_pot_here", "_law_many_here", "_law_worth_here", "_law_row", "_law_k", "_law_loud"]
theorem S__law_constant : FnScope N__law_constant ["_law_pot_here", "_law_many_here"] (defScope s__law_constant) := ⟨rfl, rfl, rfl, by decide +kernel, rfl, by decide +kernel, by decide +kernel⟩
def r__law_constant (ad : Str → Addr) : AS := (aSeq (aAsg (aCall sp__law_worth (fun _ _ => False) (aCons (aVar 0) (aCons (aC (.int 1048575)) aNil))) (gNm 2))
  (aSeq (aAsg (aN nTup (aCons (aLc (iRange1 (aCons (aOp vSub (aVar 1) (aC (.int 1))) aNil)) (gNm 4) aTrue (aVar 2) [4]) aNil)) (gNm 3))
  (aSeq (aIfS (aNotT (aTest (aCall sp__law_same (fun _ _ => False) (aCons (aCall sp_block_of (fun _ _ => False) (aCons (aC (.str "mean")) (aCons (aTup (aCons (aVar 1) aNil)) (aCons (aVar 3) (aCons (aTup (aCons (aTup (aCons (aVar 2) (aCons (aVar 2) (aCons (aVar 2) aNil)))) aNil)) (aCons (aC (.int 3)) aNil)))))) (aCons (aTup (aCons (aVar 3) (aCons (aTup (aCons (aVar 2) (aCons (aVar 2) (aCons (aVar 2) aNil)))) aNil))) aNil))))) (aRet (aC (.bl false))) aNext)
  (aSeq (aAsg (aN nAbs (aCons (aVar 2) aNil)) (gNm 5))
  (aSeq (aAsg (aN nTup (aCons (aLc (iRange1 (aCons (aOp vSub (aVar 1) (aC (.int 1))) aNil)) (gNm 4) aTrue (aVar 5) [4]) aNil)) (gNm 3))
  (aRet (aCall sp__law_same (fun _ _ => False) (aCons (aCall sp_block_of (fun _ _ => False) (aCons (aC (.str "peak")) (aCons (aTup (aCons (aVar 1) aNil)) (aCons (aVar 3) (aCons (aTup (aCons (aTup (aCons (aVar 2) (aCons (aUn vNeg (aVar 2)) (aCons (aVar 2) aNil)))) aNil)) (aCons (aC (.int 3)) aNil)))))) (aCons (aTup (aCons (aVar 3) (aCons (aTup (aCons (aVar 5) (aCons (aVar 5) (aCons (aVar 5) aNil)))) aNil))) aNil)))))))))
theorem b__law_constant (M : Md K w mg ad) (F__law_worth : Fn P w K mg base CX0 tabs 2 "_law_worth" sp__law_worth) (F_block_of : Fn P w K mg base CX0 tabs 12 "block_of" sp_block_of) (F__law_same : Fn P w K mg base CX0 tabs 6 "_law_same" sp__law_same) {cdv : Value} {f : Addr} {A : Around} {outer : List Env} {s : Shared} {H : Hp} {E : XK} (hr : Room 12 (A.deeper (envOfC "_law_constant" (defScope s__law_constant) s.heap.objs.size f cdv))) :
    ABl (cxOf CX0 P w K mg base N__law_constant "_law_constant" (defScope s__law_constant) f cdv A outer s H E).nox ⟨tabs, H⟩ (defBody s__law_constant) (r__law_constant ad) := by
  have S := S__law_constant
  exact (ab_cons (as_set (i := 2) S.nd rfl (by first | exact Or.inl rfl | exact Or.inr rfl) (ae_call F__law_worth (Room.mono hr (by decide)) (aa_cons (ae_var (pv 0)) (aa_cons ae_int aa_nil))))
  (ab_cons (as_set (i := 3) S.nd rfl (by first | exact Or.inl rfl | exact Or.inr rfl) (ae_tuple (hm := M.tuple_) (ha := (aa_cons (ae_lc (hN := S.nd) (own := [("_law_k", 4)]) (sg := simG_nm) (hi := (ai_range1 (hm := M.range) (ha := (aa_cons (ae_sub (ae_var (pv 1)) ae_int) aa_nil)))) (ok := blkOk_by (own := [("_law_k", 4)]) (N := N__law_constant) (sc := defScope s__law_constant) (by decide +kernel)) (hg := (fun _ _ _ _ _ => (pg_name (i := 4) S.nd rfl (by first | exact Or.inl rfl | exact Or.inr rfl)))) (ht := (fun _ _ _ _ _ => aps_nil)) (he := fun _ _ _ _ _ => (ae_var (pv 2)))) aa_nil))))
  (ab_cons (as_if (ap_not (ap_val (ae_call F__law_same (Room.mono hr (by decide)) (aa_cons (ae_call F_block_of (Room.mono hr (by decide)) (aa_cons ae_str (aa_cons (ae_tup (aa_cons (ae_var (pv 1)) aa_nil)) (aa_cons (ae_var (pv 3)) (aa_cons (ae_tup (aa_cons (ae_tup (aa_cons (ae_var (pv 2)) (aa_cons (ae_var (pv 2)) (aa_cons (ae_var (pv 2)) aa_nil)))) aa_nil)) (aa_cons ae_int aa_nil)))))) (aa_cons (ae_tup (aa_cons (ae_var (pv 3)) (aa_cons (ae_tup (aa_cons (ae_var (pv 2)) (aa_cons (ae_var (pv 2)) (aa_cons (ae_var (pv 2)) aa_nil)))) aa_nil))) aa_nil))))) (ab_one (as_ret ae_bl)) ab_nil)
  (ab_cons (as_set (i := 5) S.nd rfl (by first | exact Or.inl rfl | exact Or.inr rfl) (ae_abs (hm := M.abs) (ha := (aa_cons (ae_var (pv 2)) aa_nil))))
  (ab_cons (as_set (i := 3) S.nd rfl (by first | exact Or.inl rfl | exact Or.inr rfl) (ae_tuple (hm := M.tuple_) (ha := (aa_cons (ae_lc (hN := S.nd) (own := [("_law_k", 4)]) (sg := simG_nm) (hi := (ai_range1 (hm := M.range) (ha := (aa_cons (ae_sub (ae_var (pv 1)) ae_int) aa_nil)))) (ok := blkOk_by (own := [("_law_k", 4)]) (N := N__law_constant) (sc := defScope s__law_constant) (by decide +kernel)) (hg := (fun _ _ _ _ _ => (pg_name (i := 4) S.nd rfl (by first | exact Or.inl rfl | exact Or.inr rfl)))) (ht := (fun _ _ _ _ _ => aps_nil)) (he := fun _ _ _ _ _ => (ae_var (pv 5)))) aa_nil))))
  (ab_one (as_ret (ae_call F__law_same (Room.mono hr (by decide)) (aa_cons (ae_call F_block_of (Room.mono hr (by decide)) (aa_cons ae_str (aa_cons (ae_tup (aa_cons (ae_var (pv 1)) aa_nil)) (aa_cons (ae_var (pv 3)) (aa_cons (ae_tup (aa_cons (ae_tup (aa_cons (ae_var (pv 2)) (aa_cons (ae_neg (ae_var (pv 2))) (aa_cons (ae_var (pv 2)) aa_nil)))) aa_nil)) (aa_cons ae_int aa_nil)))))) (aa_cons (ae_tup (aa_cons (ae_var (pv 3)) (aa_cons (ae_tup (aa_cons (ae_var (pv 5)) (aa_cons (ae_var (pv 5)) (aa_cons (ae_var (pv 5)) aa_nil)))) aa_nil))) aa_nil))))))))))
theorem F__law_constant (M : Md K w mg ad) (F__law_worth : Fn P w K mg base CX0 tabs 2 "_law_worth" sp__law_worth) (F_block_of : Fn P w K mg base CX0 tabs 12 "block_of" sp_block_of) (F__law_same : Fn P w K mg base CX0 tabs 6 "_law_same" sp__law_same)  {f : Addr} {fd : FuncData} (D : FunD K "_law_constant" "_law_constant" (defArgs s__law_constant) (defBody s__law_constant) (defScope s__law_constant) [] [] f fd) (hm : mg "_law_constant" = some (.ref f))
    (len : ∀ ts g A B, sp__law_constant ts g A B → ts.length = 2) (pf : ∀ ts g A B, sp__law_constant ts g A B → r__law_constant ad (endsOf A) (aStart N__law_constant ts) g) : Fn P w K mg base CX0 tabs 13 "_law_constant" sp__law_constant :=
  fn_body0C D rfl S__law_constant hm (D.bindsN fun _ _ _ _ _ _ us hl => match us, hl with | [_, _], _ => rfl) len (r__law_constant ad) (fun _ _ _ _ _ hr => b__law_constant M F__law_worth F_block_of F__law_same hr) fun ts g A B h => pf ts g A B h
abbrev N_law : List Str := ["_law_script", "_law_pot_here", "_law_wide", "_law_one", "_law_other", "_law_sound", "_law_k", "_law_many_here", "_law_earlier"]
theorem S_law : FnScope N_law ["_law_script"] (defScope s_law) := ⟨rfl, rfl, rfl, by decide +kernel, rfl, by decide +kernel, by decide +kernel⟩
def r_law (ad : Str → Addr) : AS := (aSeq (aAsg (aCall sp__law_pot (fun _ _ => False) (aCons (aVar 0) aNil)) (gNm 1))
  (aSeq (aAsg (aOp vIx (aTup (aCons (aC (.int 3)) (aCons (aC (.int 20)) (aCons (aC (.int 4000)) (aCons (aC (.int 1048575)) aNil))))) (aCall sp__law_take (fun _ _ => False) (aCons (aVar 1) (aCons (aC (.int 4)) aNil)))) (gNm 2))
  (aSeq (aAsg (aCall sp__law_many (fun _ _ => False) (aCons (aVar 1) aNil)) (gNm 3))
  (aSeq (aAsg (aCall sp__law_many (fun _ _ => False) (aCons (aVar 1) aNil)) (gNm 4))
  (aSeq (aAsg (aLc (iRange1 (aCons (aOp vAdd (aC (.int 1)) (aCall sp__law_take (fun _ _ => False) (aCons (aVar 1) (aCons (aC (.int 40)) aNil)))) aNil)) (gNm 6) aTrue (aCall sp__law_worth (fun _ _ => False) (aCons (aVar 1) (aCons (aVar 2) aNil))) [6]) (gNm 5))
  (aSeq (aFor (iAny (aTup (aCons (aVar 3) (aCons (aVar 4) aNil)))) (gNm 7) (aSeq (aAsg (aLc (iRange1 (aCons (aOp vSub (aVar 7) (aC (.int 1))) aNil)) (gNm 6) aTrue (aCall sp__law_worth (fun _ _ => False) (aCons (aVar 1) (aCons (aVar 2) aNil))) [6]) (gNm 8))
  (aSeq (aIfS (aOrT (aNotT (aTest (aCall sp__law_meter (fun _ _ => False) (aCons (aVar 1) (aCons (aC (.str "peak")) (aCons (aVar 7) (aCons (aVar 8) (aCons (aVar 5) aNil)))))))) (aNotT (aTest (aCall sp__law_meter (fun _ _ => False) (aCons (aVar 1) (aCons (aC (.str "mean")) (aCons (aVar 7) (aCons (aVar 8) (aCons (aVar 5) aNil))))))))) (aRet (aC (.bl false))) aNext)
  (aIfS (aOrT (aNotT (aTest (aCall sp__law_means (fun _ _ => False) (aCons (aVar 1) (aCons (aVar 7) (aCons (aVar 5) aNil)))))) (aNotT (aTest (aCall sp__law_constant (fun _ _ => False) (aCons (aVar 1) (aCons (aVar 7) aNil)))))) (aRet (aC (.bl false))) aNext))))
  (aRet (aCall sp__law_peaks (fun _ _ => False) (aCons (aVar 3) (aCons (aVar 4) (aCons (aVar 5) aNil)))))))))))
theorem b_law (M : Md K w mg ad) (F__law_pot : Fn P w K mg base CX0 tabs 1 "_law_pot" sp__law_pot) (F__law_take : Fn P w K mg base CX0 tabs 1 "_law_take" sp__law_take) (F__law_many : Fn P w K mg base CX0 tabs 2 "_law_many" sp__law_many) (F__law_worth : Fn P w K mg base CX0 tabs 2 "_law_worth" sp__law_worth) (F__law_meter : Fn P w K mg base CX0 tabs 13 "_law_meter" sp__law_meter) (F__law_constant : Fn P w K mg base CX0 tabs 13 "_law_constant" sp__law_constant) (F__law_means : Fn P w K mg base CX0 tabs 14 "_law_means" sp__law_means) (F__law_peaks : Fn P w K mg base CX0 tabs 14 "_law_peaks" sp__law_peaks) {cdv : Value} {f : Addr} {A : Around} {outer : List Env} {s : Shared} {H : Hp} {E : XK} (hr : Room 14 (A.deeper (envOfC "law" (defScope s_law) s.heap.objs.size f cdv))) :
    ABl (cxOf CX0 P w K mg base N_law "law" (defScope s_law) f cdv A outer s H E).nox ⟨tabs, H⟩ (defBody s_law) (r_law ad) := by
  have S := S_law
  exact (ab_cons (as_set (i := 1) S.nd rfl (by first | exact Or.inl rfl | exact Or.inr rfl) (ae_call F__law_pot (Room.mono hr (by decide)) (aa_cons (ae_var (pv 0)) aa_nil)))
  (ab_cons (as_set (i := 2) S.nd rfl (by first | exact Or.inl rfl | exact Or.inr rfl) (ae_ix (ae_tup (aa_cons ae_int (aa_cons ae_int (aa_cons ae_int (aa_cons ae_int aa_nil))))) (ae_call F__law_take (Room.mono hr (by decide)) (aa_cons (ae_var (pv 1)) (aa_cons ae_int aa_nil)))))
  (ab_cons (as_set (i := 3) S.nd rfl (by first | exact Or.inl rfl | exact Or.inr rfl) (ae_call F__law_many (Room.mono hr (by decide)) (aa_cons (ae_var (pv 1)) aa_nil)))
  (ab_cons (as_set (i := 4) S.nd rfl (by first | exact Or.inl rfl | exact Or.inr rfl) (ae_call F__law_many (Room.mono hr (by decide)) (aa_cons (ae_var (pv 1)) aa_nil)))
  (ab_cons (as_setLc (i := 5) S.nd rfl rfl (sw_true rfl rfl rfl (by decide +kernel)) (own := [("_law_k", 6)]) (sg := simG_nm) (hi := (ai_range1 (hm := M.range) (ha := (aa_cons (ae_add ae_int (ae_call F__law_take (Room.mono hr (by decide)) (aa_cons (ae_var (pv 1)) (aa_cons ae_int aa_nil)))) aa_nil)))) (ok := blkOk_by (own := [("_law_k", 6)]) (N := N_law) (sc := defScope s_law) (by decide +kernel)) (hg := (fun _ _ _ _ _ => (pg_name (i := 6) S.nd rfl (by first | exact Or.inl rfl | exact Or.inr rfl)))) (ht := (fun _ _ _ _ _ => aps_nil)) (he := fun _ _ _ _ _ => (ae_call F__law_worth (Room.mono hr (by decide)) (aa_cons (ae_var (pv 1)) (aa_cons (ae_var (pv 2)) aa_nil)))))
  (ab_cons (as_for PassesOwn.never (ai_any (ae_tup (aa_cons (ae_var (pv 3)) (aa_cons (ae_var (pv 4)) aa_nil)))) (ag_nm (pg_name (i := 7) S.nd rfl (by first | exact Or.inl rfl | exact Or.inr rfl))) (ab_cons (as_setLc (i := 8) S.nd rfl rfl (sw_true rfl rfl rfl (by decide +kernel)) (own := [("_law_k", 6)]) (sg := simG_nm) (hi := (ai_range1 (hm := M.range) (ha := (aa_cons (ae_sub (ae_var (pv 7)) ae_int) aa_nil)))) (ok := blkOk_by (own := [("_law_k", 6)]) (N := N_law) (sc := defScope s_law) (by decide +kernel)) (hg := (fun _ _ _ _ _ => (pg_name (i := 6) S.nd rfl (by first | exact Or.inl rfl | exact Or.inr rfl)))) (ht := (fun _ _ _ _ _ => aps_nil)) (he := fun _ _ _ _ _ => (ae_call F__law_worth (Room.mono hr (by decide)) (aa_cons (ae_var (pv 1)) (aa_cons (ae_var (pv 2)) aa_nil)))))
  (ab_cons (as_if (ap_w (apw_or (ap_not (ap_val (ae_call F__law_meter (Room.mono hr (by decide)) (aa_cons (ae_var (pv 1)) (aa_cons ae_str (aa_cons (ae_var (pv 7)) (aa_cons (ae_var (pv 8)) (aa_cons (ae_var (pv 5)) aa_nil)))))))) (apw_or1 (ap_not (ap_val (ae_call F__law_meter (Room.mono hr (by decide)) (aa_cons (ae_var (pv 1)) (aa_cons ae_str (aa_cons (ae_var (pv 7)) (aa_cons (ae_var (pv 8)) (aa_cons (ae_var (pv 5)) aa_nil))))))))))) (ab_one (as_ret ae_bl)) ab_nil)
  (ab_one (as_if (ap_w (apw_or (ap_not (ap_val (ae_call F__law_means (Room.mono hr (by decide)) (aa_cons (ae_var (pv 1)) (aa_cons (ae_var (pv 7)) (aa_cons (ae_var (pv 5)) aa_nil)))))) (apw_or1 (ap_not (ap_val (ae_call F__law_constant (Room.mono hr (by decide)) (aa_cons (ae_var (pv 1)) (aa_cons (ae_var (pv 7)) aa_nil)))))))) (ab_one (as_ret ae_bl)) ab_nil)))))
  (ab_one (as_ret (ae_call F__law_peaks (Room.mono hr (by decide)) (aa_cons (ae_var (pv 3)) (aa_cons (ae_var (pv 4)) (aa_cons (ae_var (pv 5)) aa_nil))))))))))))
theorem F_law (M : Md K w mg ad) (F__law_pot : Fn P w K mg base CX0 tabs 1 "_law_pot" sp__law_pot) (F__law_take : Fn P w K mg base CX0 tabs 1 "_law_take" sp__law_take) (F__law_many : Fn P w K mg base CX0 tabs 2 "_law_many" sp__law_many) (F__law_worth : Fn P w K mg base CX0 tabs 2 "_law_worth" sp__law_worth) (F__law_meter : Fn P w K mg base CX0 tabs 13 "_law_meter" sp__law_meter) (F__law_constant : Fn P w K mg base CX0 tabs 13 "_law_constant" sp__law_constant) (F__law_means : Fn P w K mg base CX0 tabs 14 "_law_means" sp__law_means) (F__law_peaks : Fn P w K mg base CX0 tabs 14 "_law_peaks" sp__law_peaks)  {f : Addr} {fd : FuncData} (D : FunD K "law" "law" (defArgs s_law) (defBody s_law) (defScope s_law) [] [] f fd) (hm : mg "law" = some (.ref f))
    (len : ∀ ts g A B, sp_law ts g A B → ts.length = 1) (pf : ∀ ts g A B, sp_law ts g A B → r_law ad (endsOf A) (aStart N_law ts) g) : Fn P w K mg base CX0 tabs 15 "law" sp_law :=
  fn_body0C D rfl S_law hm (D.bindsN fun _ _ _ _ _ _ us hl => match us, hl with | [_], _ => rfl) len (r_law ad) (fun _ _ _ _ _ hr => b_law M F__law_pot F__law_take F__law_many F__law_worth F__law_meter F__law_constant F__law_means F__law_peaks hr) fun ts g A B h => pf ts g A B h
abbrev N__law_same : List Str := ["_law_one", "_law_other", "_law_k"]
theorem S__law_same : FnScope N__law_same ["_law_one", "_law_other"] (defScope s__law_same) := ⟨rfl, rfl, rfl, by decide +kernel, rfl, by decide +kernel, by decide +kernel⟩
def r__law_same (ad : Str → Addr) (spr : ASp) : AS := (aSeq (aIfS (aOrT (aTest (aOp vIsN (aVar 0) (aC .non))) (aTest (aOp vIsN (aVar 1) (aC .non)))) (aRet (aAndV (aOp vIsN (aVar 0) (aC .non)) (aOp vIsN (aVar 1) (aC .non)))) aNext)
  (aSeq (aIfS (aOrT (aTest (aN nIsi (aCons (aVar 0) (aCons (aC (.ty "bool")) aNil)))) (aTest (aN nIsi (aCons (aVar 1) (aCons (aC (.ty "bool")) aNil))))) (aRet (aAndV (aN nIsi (aCons (aVar 0) (aCons (aC (.ty "bool")) aNil))) (aAndV (aN nIsi (aCons (aVar 1) (aCons (aC (.ty "bool")) aNil))) (aOp vEqF (aVar 0) (aVar 1))))) aNext)
  (aSeq (aIfS (aOrT (aTest (aN nIsi (aCons (aVar 0) (aCons (aC (.ty "int")) aNil)))) (aTest (aN nIsi (aCons (aVar 1) (aCons (aC (.ty "int")) aNil))))) (aRet (aAndV (aN nIsi (aCons (aVar 0) (aCons (aC (.ty "int")) aNil))) (aAndV (aN nIsi (aCons (aVar 1) (aCons (aC (.ty "int")) aNil))) (aOp vEqF (aVar 0) (aVar 1))))) aNext)
  (aSeq (aIfS (aOrT (aTest (aN nIsi (aCons (aVar 0) (aCons (aC (.ty "str")) aNil)))) (aTest (aN nIsi (aCons (aVar 1) (aCons (aC (.ty "str")) aNil))))) (aRet (aAndV (aN nIsi (aCons (aVar 0) (aCons (aC (.ty "str")) aNil))) (aAndV (aN nIsi (aCons (aVar 1) (aCons (aC (.ty "str")) aNil))) (aOp vEqF (aVar 0) (aVar 1))))) aNext)
  (aSeq (aIfS (aOrT (aTest (aN nIsi (aCons (aVar 0) (aCons (aC (.ty "list")) aNil)))) (aTest (aN nIsi (aCons (aVar 1) (aCons (aC (.ty "list")) aNil))))) (aRet (aC (.bl false))) aNext)
  (aSeq (aIfS (aOrT (aNotT (aTest (aN nIsi (aCons (aVar 0) (aCons (aC (.ty "tuple")) aNil))))) (aOrT (aNotT (aTest (aN nIsi (aCons (aVar 1) (aCons (aC (.ty "tuple")) aNil))))) (aTest (aOp vNeF (aN nLen (aCons (aVar 0) aNil)) (aN nLen (aCons (aVar 1) aNil)))))) (aRet (aC (.bl false))) aNext)
  (aSeq (aFor (iRange1 (aCons (aN nLen (aCons (aVar 0) aNil)) aNil)) (gNm 2) (aIfS (aNotT (aTest (aCall spr (fun _ _ => False) (aCons (aOp vIx (aVar 0) (aVar 2)) (aCons (aOp vIx (aVar 1) (aVar 2)) aNil))))) (aRet (aC (.bl false))) aNext))
  (aRet (aC (.bl true))))))))))
theorem b__law_same (M : Md K w mg ad) {spr : ASp} {lv : Nat} (Fr : Fn P w K mg base CX0 tabs lv "_law_same" spr) {cdv : Value} {f : Addr} {A : Around} {outer : List Env} {s : Shared} {H : Hp} {E : XK} (hr : Room lv (A.deeper (envOfC "_law_same" (defScope s__law_same) s.heap.objs.size f cdv))) :
    ABl (cxOf CX0 P w K mg base N__law_same "_law_same" (defScope s__law_same) f cdv A outer s H E).nox ⟨tabs, H⟩ (defBody s__law_same) (r__law_same ad spr) := by
  have S := S__law_same
  exact (ab_cons (as_if (ap_w (apw_or (ap_isN (ae_var (pv 0)) ae_non) (apw_or1 (ap_isN (ae_var (pv 1)) ae_non)))) (ab_one (as_ret (ae_and (ae_isN (ae_var (pv 0)) ae_non) (ae_one (ae_isN (ae_var (pv 1)) ae_non))))) ab_nil)
  (ab_cons (as_if (ap_w (apw_or (ap_val (ae_isi (hm := M.isinstance) (ha := (aa_cons (ae_var (pv 0)) (aa_cons (ae_blt (n := "bool") rfl M.bool_ boot_bool) aa_nil))))) (apw_or1 (ap_val (ae_isi (hm := M.isinstance) (ha := (aa_cons (ae_var (pv 1)) (aa_cons (ae_blt (n := "bool") rfl M.bool_ boot_bool) aa_nil)))))))) (ab_one (as_ret (ae_and (ae_isi (hm := M.isinstance) (ha := (aa_cons (ae_var (pv 0)) (aa_cons (ae_blt (n := "bool") rfl M.bool_ boot_bool) aa_nil)))) (ae_and (ae_isi (hm := M.isinstance) (ha := (aa_cons (ae_var (pv 1)) (aa_cons (ae_blt (n := "bool") rfl M.bool_ boot_bool) aa_nil)))) (ae_one (ae_eq (ae_var (pv 0)) (ae_var (pv 1)))))))) ab_nil)
  (ab_cons (as_if (ap_w (apw_or (ap_val (ae_isi (hm := M.isinstance) (ha := (aa_cons (ae_var (pv 0)) (aa_cons (ae_blt (n := "int") rfl M.int_ boot_int) aa_nil))))) (apw_or1 (ap_val (ae_isi (hm := M.isinstance) (ha := (aa_cons (ae_var (pv 1)) (aa_cons (ae_blt (n := "int") rfl M.int_ boot_int) aa_nil)))))))) (ab_one (as_ret (ae_and (ae_isi (hm := M.isinstance) (ha := (aa_cons (ae_var (pv 0)) (aa_cons (ae_blt (n := "int") rfl M.int_ boot_int) aa_nil)))) (ae_and (ae_isi (hm := M.isinstance) (ha := (aa_cons (ae_var (pv 1)) (aa_cons (ae_blt (n := "int") rfl M.int_ boot_int) aa_nil)))) (ae_one (ae_eq (ae_var (pv 0)) (ae_var (pv 1)))))))) ab_nil)
  (ab_cons (as_if (ap_w (apw_or (ap_val (ae_isi (hm := M.isinstance) (ha := (aa_cons (ae_var (pv 0)) (aa_cons (ae_blt (n := "str") rfl M.str_ boot_str) aa_nil))))) (apw_or1 (ap_val (ae_isi (hm := M.isinstance) (ha := (aa_cons (ae_var (pv 1)) (aa_cons (ae_blt (n := "str") rfl M.str_ boot_str) aa_nil)))))))) (ab_one (as_ret (ae_and (ae_isi (hm := M.isinstance) (ha := (aa_cons (ae_var (pv 0)) (aa_cons (ae_blt (n := "str") rfl M.str_ boot_str) aa_nil)))) (ae_and (ae_isi (hm := M.isinstance) (ha := (aa_cons (ae_var (pv 1)) (aa_cons (ae_blt (n := "str") rfl M.str_ boot_str) aa_nil)))) (ae_one (ae_eq (ae_var (pv 0)) (ae_var (pv 1)))))))) ab_nil)
  (ab_cons (as_if (ap_w (apw_or (ap_val (ae_isi (hm := M.isinstance) (ha := (aa_cons (ae_var (pv 0)) (aa_cons (ae_blt (n := "list") rfl M.list_ boot_list) aa_nil))))) (apw_or1 (ap_val (ae_isi (hm := M.isinstance) (ha := (aa_cons (ae_var (pv 1)) (aa_cons (ae_blt (n := "list") rfl M.list_ boot_list) aa_nil)))))))) (ab_one (as_ret ae_bl)) ab_nil)
  (ab_cons (as_if (ap_w (apw_or (ap_not (ap_val (ae_isi (hm := M.isinstance) (ha := (aa_cons (ae_var (pv 0)) (aa_cons (ae_blt (n := "tuple") rfl M.tuple_ boot_tuple) aa_nil)))))) (apw_or (ap_not (ap_val (ae_isi (hm := M.isinstance) (ha := (aa_cons (ae_var (pv 1)) (aa_cons (ae_blt (n := "tuple") rfl M.tuple_ boot_tuple) aa_nil)))))) (apw_or1 (ap_ne (ae_len (hm := M.len) (ha := (aa_cons (ae_var (pv 0)) aa_nil))) (ae_len (hm := M.len) (ha := (aa_cons (ae_var (pv 1)) aa_nil)))))))) (ab_one (as_ret ae_bl)) ab_nil)
  (ab_cons (as_for PassesOwn.never (ai_range1 (hm := M.range) (ha := (aa_cons (ae_len (hm := M.len) (ha := (aa_cons (ae_var (pv 0)) aa_nil))) aa_nil))) (ag_nm (pg_name (i := 2) S.nd rfl (by first | exact Or.inl rfl | exact Or.inr rfl))) (ab_one (as_if (ap_not (ap_val (ae_call Fr (Room.mono hr (by omega)) (aa_cons (ae_ix (ae_var (pv 0)) (ae_var (pv 2))) (aa_cons (ae_ix (ae_var (pv 1)) (ae_var (pv 2))) aa_nil))))) (ab_one (as_ret ae_bl)) ab_nil)))
  (ab_one (as_ret ae_bl)))))))))
theorem F__law_same (M : Md K w mg ad) {spr sq : ASp} {lv : Nat} (Fr : Fn P w K mg base CX0 tabs lv "_law_same" spr) {f : Addr} {fd : FuncData} (D : FunD K "_law_same" "_law_same" (defArgs s__law_same) (defBody s__law_same) (defScope s__law_same) [] [] f fd) (hm : mg "_law_same" = some (.ref f))
    (len : ∀ ts g A B, sq ts g A B → ts.length = 2) (pf : ∀ ts g A B, sq ts g A B → r__law_same ad spr (endsOf A) (aStart N__law_same ts) g) : Fn P w K mg base CX0 tabs (lv + 1) "_law_same" sq :=
  fn_body0C D rfl S__law_same hm (D.bindsN fun _ _ _ _ _ _ us hl => match us, hl with | [_, _], _ => rfl) len (r__law_same ad spr) (fun _ _ _ _ _ hr => b__law_same M Fr hr) fun ts g A B h => pf ts g A B h
end Tx

set_option Elab.async false
set_option linter.all false
set_option maxRecDepth 100000
set_option maxHeartbeats 4000000
namespace Tx
open PySem PySem.Spec PyProof.Rows L2 Lz
variable {ad : Str → Addr}
theorem pf_demand (ts g A B) (h : sp_demand ts g A B) : r_demand ad (endsOf A) (aStart N_demand ts) g := by
  obtain ⟨b, rfl, hA⟩ := h
  simp only [r_demand, aSeq, aNext, aDrop, aRet, aRetN, aIfS, aNever, aBrk, aCnt, aAsg, gNm, gTp, gCn, gNl, aTest, aAndT, aOrT, aNotT, aAndV, aOrV, aNotV, aOp, aUn, aN, aCall, aCons, aNil, aVar, aC, aIf, aTup, aChain, endsOf, aStart, vI0, vI, vLt, vLe, vGt, vGe, vSub, vAdd, vMul, vDiv, vMod, vAnd, vShr, vPow, vNeg, vEqF, vNeF, flatEq, vIsN, vNotN, vB2, Lz.isNon, vIx, vIn, nIsi, nLen, nAbs, nMax2, nMin2, nInt, nTup, items, iAny, aAll, Lz.iZip, aLc, aTrue, aLst, aApp, iRange1, iRange2, aFor, aSl, aoNone, aoSome, vSl, wipeS, List.map_cons, List.map_nil, List.length_cons, List.length_nil, List.replicate_zero, List.replicate_succ, List.cons_append, List.nil_append, List.append_nil, List.getElem?_cons_zero, List.getElem?_cons_succ, List.set_cons_zero, List.set_cons_succ, Nat.sub_self, Nat.zero_add, Nat.reduceAdd, Nat.reduceSub, Bool.not_true, Bool.not_false]
  exact ⟨g, Sub.refl, hA⟩
theorem tyName_ne {g : G} {t : T} {n : String} (h : tyName g t = some n) : ∃ b c, isTab n "int" = some b ∧ isTab n "bool" = some c ∧ isIntT t = (b && !c) := by
  cases t <;> simp only [tyName, Option.some.injEq, reduceCtorEq] at h
  case ref p =>
    split at h
    · cases h; exact ⟨false, false, rfl, rfl, rfl⟩
    · cases h
  all_goals first
    | (subst h; exact ⟨_, _, rfl, rfl, rfl⟩)
theorem pf_is_integer (ts g A B) (h : sp_is_integer ts g A B) : r_is_integer ad (endsOf A) (aStart N_is_integer ts) g := by
  obtain ⟨t, n, rfl, hn, hA⟩ := h
  obtain ⟨b, c, h1, h2, h3⟩ := tyName_ne hn
  simp only [r_is_integer, aSeq, aNext, aDrop, aRet, aRetN, aIfS, aNever, aBrk, aCnt, aAsg, gNm, gTp, gCn, gNl, aTest, aAndT, aOrT, aNotT, aAndV, aOrV, aNotV, aOp, aUn, aN, aCall, aCons, aNil, aVar, aC, aIf, aTup, aChain, endsOf, aStart, vI0, vI, vLt, vLe, vGt, vGe, vSub, vAdd, vMul, vDiv, vMod, vAnd, vShr, vPow, vNeg, vEqF, vNeF, flatEq, vIsN, vNotN, vB2, Lz.isNon, vIx, vIn, nIsi, nLen, nAbs, nMax2, nMin2, nInt, nTup, items, iAny, aAll, Lz.iZip, aLc, aTrue, aLst, aApp, iRange1, iRange2, aFor, aSl, aoNone, aoSome, vSl, wipeS, List.map_cons, List.map_nil, List.length_cons, List.length_nil, List.replicate_zero, List.replicate_succ, List.cons_append, List.nil_append, List.append_nil, List.getElem?_cons_zero, List.getElem?_cons_succ, List.set_cons_zero, List.set_cons_succ, Nat.sub_self, Nat.zero_add, Nat.reduceAdd, Nat.reduceSub, Bool.not_true, Bool.not_false, hn, h1, h2]
  rw [h3] at hA
  cases b
  · exact ⟨g, Sub.refl, hA⟩
  · exact ⟨g, Sub.refl, hA⟩
theorem pf_is_within (ts g A B) (h : sp_is_within ts g A B) : r_is_within ad (endsOf A) (aStart N_is_within ts) g := by
  obtain ⟨t, n, a, b, rfl, hn, hA⟩ := h
  simp only [r_is_within, aSeq, aNext, aDrop, aRet, aRetN, aIfS, aNever, aBrk, aCnt, aAsg, gNm, gTp, gCn, gNl, aTest, aAndT, aOrT, aNotT, aAndV, aOrV, aNotV, aOp, aUn, aN, aCall, aCons, aNil, aVar, aC, aIf, aTup, aChain, endsOf, aStart, vI0, vI, vLt, vLe, vGt, vGe, vSub, vAdd, vMul, vDiv, vMod, vAnd, vShr, vPow, vNeg, vEqF, vNeF, flatEq, vIsN, vNotN, vB2, Lz.isNon, vIx, vIn, nIsi, nLen, nAbs, nMax2, nMin2, nInt, nTup, items, iAny, aAll, Lz.iZip, aLc, aTrue, aLst, aApp, iRange1, iRange2, aFor, aSl, aoNone, aoSome, vSl, wipeS, List.map_cons, List.map_nil, List.length_cons, List.length_nil, List.replicate_zero, List.replicate_succ, List.cons_append, List.nil_append, List.append_nil, List.getElem?_cons_zero, List.getElem?_cons_succ, List.set_cons_zero, List.set_cons_succ, Nat.sub_self, Nat.zero_add, Nat.reduceAdd, Nat.reduceSub, Bool.not_true, Bool.not_false]
  refine ⟨t, n, rfl, hn, ?_⟩
  cases t <;> simp only [isIntT]
  case int i =>
    simp only [inR] at hA
    cases hd : decide (a ≤ i)
    · rw [hd] at hA; exact ⟨g, Sub.refl, hA⟩
    · rw [hd] at hA; exact ⟨g, Sub.refl, hA⟩
  all_goals exact ⟨g, Sub.refl, hA⟩
theorem pf_is_worth (ts g A B) (h : sp_is_worth ts g A B) : r_is_worth ad (endsOf A) (aStart N_is_worth ts) g := by
  obtain ⟨t, n, rfl, hn, hA⟩ := h
  simp only [r_is_worth, aSeq, aNext, aDrop, aRet, aRetN, aIfS, aNever, aBrk, aCnt, aAsg, gNm, gTp, gCn, gNl, aTest, aAndT, aOrT, aNotT, aAndV, aOrV, aNotV, aOp, aUn, aN, aCall, aCons, aNil, aVar, aC, aIf, aTup, aChain, endsOf, aStart, vI0, vI, vLt, vLe, vGt, vGe, vSub, vAdd, vMul, vDiv, vMod, vAnd, vShr, vPow, vNeg, vEqF, vNeF, flatEq, vIsN, vNotN, vB2, Lz.isNon, vIx, vIn, nIsi, nLen, nAbs, nMax2, nMin2, nInt, nTup, items, iAny, aAll, Lz.iZip, aLc, aTrue, aLst, aApp, iRange1, iRange2, aFor, aSl, aoNone, aoSome, vSl, wipeS, List.map_cons, List.map_nil, List.length_cons, List.length_nil, List.replicate_zero, List.replicate_succ, List.cons_append, List.nil_append, List.append_nil, List.getElem?_cons_zero, List.getElem?_cons_succ, List.set_cons_zero, List.set_cons_succ, Nat.sub_self, Nat.zero_add, Nat.reduceAdd, Nat.reduceSub, Bool.not_true, Bool.not_false]
  exact ⟨t, n, _, _, rfl, hn, g, Sub.refl, hA⟩
theorem pf_is_sound (ts g A B) (h : sp_is_sound ts g A B) : r_is_sound ad (endsOf A) (aStart N_is_sound ts) g := by
  obtain ⟨us, rfl, hn, hA⟩ := h
  simp only [r_is_sound, aSeq, aNext, aDrop, aRet, aRetN, aIfS, aNever, aBrk, aCnt, aAsg, gNm, gTp, gCn, gNl, aTest, aAndT, aOrT, aNotT, aAndV, aOrV, aNotV, aOp, aUn, aN, aCall, aCons, aNil, aVar, aC, aIf, aTup, aChain, endsOf, aStart, vI0, vI, vLt, vLe, vGt, vGe, vSub, vAdd, vMul, vDiv, vMod, vAnd, vShr, vPow, vNeg, vEqF, vNeF, flatEq, vIsN, vNotN, vB2, Lz.isNon, vIx, vIn, nIsi, nLen, nAbs, nMax2, nMin2, nInt, nTup, items, iAny, aAll, Lz.iZip, aLc, aTrue, aLst, aApp, iRange1, iRange2, aFor, aSl, aoNone, aoSome, vSl, wipeS, List.map_cons, List.map_nil, List.length_cons, List.length_nil, List.replicate_zero, List.replicate_succ, List.cons_append, List.nil_append, List.append_nil, List.getElem?_cons_zero, List.getElem?_cons_succ, List.set_cons_zero, List.set_cons_succ, Nat.sub_self, Nat.zero_add, Nat.reduceAdd, Nat.reduceSub, Bool.not_true, Bool.not_false, tyName, show isTab "tuple" "tuple" = some true from rfl]
  refine all_by (fun u => inR u (-1048575) 1048575) trivial us (fun t ht A' hA' => ?_) ⟨g, Sub.refl, hA⟩
  obtain ⟨n, hn⟩ := hn t ht
  simp only [aSeq, aNext, aDrop, aRet, aRetN, aIfS, aNever, aBrk, aCnt, aAsg, gNm, gTp, gCn, gNl, aTest, aAndT, aOrT, aNotT, aAndV, aOrV, aNotV, aOp, aUn, aN, aCall, aCons, aNil, aVar, aC, aIf, aTup, aChain, endsOf, aStart, vI0, vI, vLt, vLe, vGt, vGe, vSub, vAdd, vMul, vDiv, vMod, vAnd, vShr, vPow, vNeg, vEqF, vNeF, flatEq, vIsN, vNotN, vB2, Lz.isNon, vIx, vIn, nIsi, nLen, nAbs, nMax2, nMin2, nInt, nTup, items, iAny, aAll, Lz.iZip, aLc, aTrue, aLst, aApp, iRange1, iRange2, aFor, aSl, aoNone, aoSome, vSl, wipeS, List.map_cons, List.map_nil, List.length_cons, List.length_nil, List.replicate_zero, List.replicate_succ, List.cons_append, List.nil_append, List.append_nil, List.getElem?_cons_zero, List.getElem?_cons_succ, List.set_cons_zero, List.set_cons_succ, Nat.sub_self, Nat.zero_add, Nat.reduceAdd, Nat.reduceSub, Bool.not_true, Bool.not_false, wipeS]
  exact ⟨t, n, rfl, hn, hA'⟩
theorem sz {n : Nat} (h : n ≤ 1000000) : n ≤ sizeLine := by rw [sizeLine_eq]; omega
theorem intsOf_map : ∀ (ns : List Int), intsOf (ns.map T.int) = some ns
  | [] => rfl
  | n :: ns => by rw [List.map_cons, intsOf, intsOf_map ns]; rfl
theorem max_min (v : Int) : (if (if v < 1048575 then v else 1048575) > -1048575 then (if v < 1048575 then v else 1048575) else -1048575) = clipI v := by
  unfold clipI
  split <;> split <;> omega
theorem pf_is_mode (ts g A B) (h : sp_is_mode ts g A B) : r_is_mode ad (endsOf A) (aStart N_is_mode ts) g := by
  obtain ⟨z, rfl, hz, hA⟩ := h
  simp only [r_is_mode, aSeq, aNext, aDrop, aRet, aRetN, aIfS, aNever, aBrk, aCnt, aAsg, gNm, gTp, gCn, gNl, aTest, aAndT, aOrT, aNotT, aAndV, aOrV, aNotV, aOp, aUn, aN, aCall, aCons, aNil, aVar, aC, aIf, aTup, aChain, endsOf, aStart, vI0, vI, vLt, vLe, vGt, vGe, vSub, vAdd, vMul, vDiv, vMod, vAnd, vShr, vPow, vNeg, vEqF, vNeF, flatEq, vIsN, vNotN, vB2, Lz.isNon, vIx, vIn, nIsi, nLen, nAbs, nMax2, nMin2, nInt, nTup, items, iAny, aAll, Lz.iZip, aLc, aTrue, aLst, aApp, iRange1, iRange2, aFor, aSl, aoNone, aoSome, vSl, wipeS, List.map_cons, List.map_nil, List.length_cons, List.length_nil, List.replicate_zero, List.replicate_succ, List.cons_append, List.nil_append, List.append_nil, List.getElem?_cons_zero, List.getElem?_cons_succ, List.set_cons_zero, List.set_cons_succ, Nat.sub_self, Nat.zero_add, Nat.reduceAdd, Nat.reduceSub, Bool.not_true, Bool.not_false, tyName, show isTab "str" "str" = some true from rfl]
  rcases hz with rfl | rfl | rfl <;> exact ⟨sz (by decide), rfl, rfl, g, Sub.refl, hA⟩
theorem pf_clip (ts g A B) (h : sp_clip ts g A B) : r_clip ad (endsOf A) (aStart N_clip ts) g := by
  obtain ⟨v, rfl, hA⟩ := h
  simp only [r_clip, aSeq, aNext, aDrop, aRet, aRetN, aIfS, aNever, aBrk, aCnt, aAsg, gNm, gTp, gCn, gNl, aTest, aAndT, aOrT, aNotT, aAndV, aOrV, aNotV, aOp, aUn, aN, aCall, aCons, aNil, aVar, aC, aIf, aTup, aChain, endsOf, aStart, vI0, vI, vLt, vLe, vGt, vGe, vSub, vAdd, vMul, vDiv, vMod, vAnd, vShr, vPow, vNeg, vEqF, vNeF, flatEq, vIsN, vNotN, vB2, Lz.isNon, vIx, vIn, nIsi, nLen, nAbs, nMax2, nMin2, nInt, nTup, items, iAny, aAll, Lz.iZip, aLc, aTrue, aLst, aApp, iRange1, iRange2, aFor, aSl, aoNone, aoSome, vSl, wipeS, List.map_cons, List.map_nil, List.length_cons, List.length_nil, List.replicate_zero, List.replicate_succ, List.cons_append, List.nil_append, List.append_nil, List.getElem?_cons_zero, List.getElem?_cons_succ, List.set_cons_zero, List.set_cons_succ, Nat.sub_self, Nat.zero_add, Nat.reduceAdd, Nat.reduceSub, Bool.not_true, Bool.not_false]
  refine ⟨_, "int", rfl, rfl, .str "value", rfl, ?_⟩
  rw [max_min]
  exact ⟨g, Sub.refl, hA⟩
theorem pf_turned (ts g A B) (h : sp_turned ts g A B) : r_turned ad (endsOf A) (aStart N_turned ts) g := by
  obtain ⟨v, m, rfl, h1, h2, hA⟩ := h
  simp only [r_turned, aSeq, aNext, aDrop, aRet, aRetN, aIfS, aNever, aBrk, aCnt, aAsg, gNm, gTp, gCn, gNl, aTest, aAndT, aOrT, aNotT, aAndV, aOrV, aNotV, aOp, aUn, aN, aCall, aCons, aNil, aVar, aC, aIf, aTup, aChain, endsOf, aStart, vI0, vI, vLt, vLe, vGt, vGe, vSub, vAdd, vMul, vDiv, vMod, vAnd, vShr, vPow, vNeg, vEqF, vNeF, flatEq, vIsN, vNotN, vB2, Lz.isNon, vIx, vIn, nIsi, nLen, nAbs, nMax2, nMin2, nInt, nTup, items, iAny, aAll, Lz.iZip, aLc, aTrue, aLst, aApp, iRange1, iRange2, aFor, aSl, aoNone, aoSome, vSl, wipeS, List.map_cons, List.map_nil, List.length_cons, List.length_nil, List.replicate_zero, List.replicate_succ, List.cons_append, List.nil_append, List.append_nil, List.getElem?_cons_zero, List.getElem?_cons_succ, List.set_cons_zero, List.set_cons_succ, Nat.sub_self, Nat.zero_add, Nat.reduceAdd, Nat.reduceSub, Bool.not_true, Bool.not_false]
  refine ⟨_, "int", rfl, rfl, .str "value", rfl, _, "int", rfl, rfl, ?_⟩
  simp only [isIntT, aSeq, aNext, aDrop, aRet, aRetN, aIfS, aNever, aBrk, aCnt, aAsg, gNm, gTp, gCn, gNl, aTest, aAndT, aOrT, aNotT, aAndV, aOrV, aNotV, aOp, aUn, aN, aCall, aCons, aNil, aVar, aC, aIf, aTup, aChain, endsOf, aStart, vI0, vI, vLt, vLe, vGt, vGe, vSub, vAdd, vMul, vDiv, vMod, vAnd, vShr, vPow, vNeg, vEqF, vNeF, flatEq, vIsN, vNotN, vB2, Lz.isNon, vIx, vIn, nIsi, nLen, nAbs, nMax2, nMin2, nInt, nTup, items, iAny, aAll, Lz.iZip, aLc, aTrue, aLst, aApp, iRange1, iRange2, aFor, aSl, aoNone, aoSome, vSl, wipeS, List.map_cons, List.map_nil, List.length_cons, List.length_nil, List.replicate_zero, List.replicate_succ, List.cons_append, List.nil_append, List.append_nil, List.getElem?_cons_zero, List.getElem?_cons_succ, List.set_cons_zero, List.set_cons_succ, Nat.sub_self, Nat.zero_add, Nat.reduceAdd, Nat.reduceSub, Bool.not_true, Bool.not_false]
  refine ⟨.str "many", by rw [decide_eq_true h1], "near", rfl, .inr (.inl rfl), .str "mode", rfl, ?_⟩
  simp only [decide_true]
  refine ⟨.inl (.inl (by decide)), .inl (.inl (by decide)), ⟨by omega, ?_⟩, g, Sub.refl, hA⟩
  exact Nat.lt_of_lt_of_le ((Nat.log2_lt (k := 64) (by omega)).mpr (by omega)) (by decide)
theorem zipT_ints (ws xs : List Int) : zipT (ws.map T.int) (xs.map T.int) = (ws.zip xs).map fun p => T.tup [.int p.1, .int p.2] := by
  unfold zipT
  rw [List.zipWith_map, List.zip, List.map_zipWith]
def mulT : T → T
  | .tup [.int a, .int b] => .int (a * b)
  | _ => .non
theorem pf_weighed (ts g A B) (h : sp_weighed ts g A B) : r_weighed ad (endsOf A) (aStart N_weighed ts) g := by
  obtain ⟨ws, xs, rfl, hx, hl, hA⟩ := h
  simp only [r_weighed, aSeq, aNext, aDrop, aRet, aRetN, aIfS, aNever, aBrk, aCnt, aAsg, gNm, gTp, gCn, gNl, aTest, aAndT, aOrT, aNotT, aAndV, aOrV, aNotV, aOp, aUn, aN, aCall, aCons, aNil, aVar, aC, aIf, aTup, aChain, endsOf, aStart, vI0, vI, vLt, vLe, vGt, vGe, vSub, vAdd, vMul, vDiv, vMod, vAnd, vShr, vPow, vNeg, vEqF, vNeF, flatEq, vIsN, vNotN, vB2, Lz.isNon, vIx, vIn, nIsi, nLen, nAbs, nMax2, nMin2, nInt, nTup, items, iAny, aAll, Lz.iZip, aLc, aTrue, aLst, aApp, iRange1, iRange2, aFor, aSl, aoNone, aoSome, vSl, wipeS, List.map_cons, List.map_nil, List.length_cons, List.length_nil, List.replicate_zero, List.replicate_succ, List.cons_append, List.nil_append, List.append_nil, List.getElem?_cons_zero, List.getElem?_cons_succ, List.set_cons_zero, List.set_cons_succ, Nat.sub_self, Nat.zero_add, Nat.reduceAdd, Nat.reduceSub, Bool.not_true, Bool.not_false, iT]
  intro D hD
  rw [zipT_ints]
  refine lc_map mulT (fun _ => trivial) _ [] ?_ (fun t ht acc A' hA' => ?_) ?_
  · rw [List.length_map, List.length_nil, Nat.zero_add, List.length_zip]
    exact sz (by omega)
  · obtain ⟨⟨a, b⟩, hp, rfl⟩ := List.mem_map.mp ht
    have hb := hx b (List.of_mem_zip hp).2
    simp only [aSeq, aNext, aDrop, aRet, aRetN, aIfS, aNever, aBrk, aCnt, aAsg, gNm, gTp, gCn, gNl, aTest, aAndT, aOrT, aNotT, aAndV, aOrV, aNotV, aOp, aUn, aN, aCall, aCons, aNil, aVar, aC, aIf, aTup, aChain, endsOf, aStart, vI0, vI, vLt, vLe, vGt, vGe, vSub, vAdd, vMul, vDiv, vMod, vAnd, vShr, vPow, vNeg, vEqF, vNeF, flatEq, vIsN, vNotN, vB2, Lz.isNon, vIx, vIn, nIsi, nLen, nAbs, nMax2, nMin2, nInt, nTup, items, iAny, aAll, Lz.iZip, aLc, aTrue, aLst, aApp, iRange1, iRange2, aFor, aSl, aoNone, aoSome, vSl, wipeS, List.map_cons, List.map_nil, List.length_cons, List.length_nil, List.replicate_zero, List.replicate_succ, List.cons_append, List.nil_append, List.append_nil, List.getElem?_cons_zero, List.getElem?_cons_succ, List.set_cons_zero, List.set_cons_succ, Nat.sub_self, Nat.zero_add, Nat.reduceAdd, Nat.reduceSub, Bool.not_true, Bool.not_false]
    refine ⟨trivial, .inl (.inr ⟨by have := hb.1; omega, by have := hb.2; omega⟩), hA'⟩
  · have e : ((ws.zip xs).map fun p => T.tup [.int p.1, .int p.2]).map mulT = (List.zipWith (fun a b => a * b) ws xs).map T.int := by
      rw [List.map_map, List.zip, List.map_zipWith, List.map_zipWith]
      rfl
    rw [List.nil_append, e]
    simp only [nSum, items, set_same, intsOf_map]
    exact ⟨g, sub_new Sub.refl hD, hA⟩
theorem atI0 {α : Type} (x : α) (xs : List α) : L2.atI (x :: xs) 0 = some x := by
  unfold L2.atI ixN
  rw [if_pos (by decide), if_pos (by rw [List.length_cons]; omega)]
  rfl
theorem cutT_nat (ts : List T) (n : Nat) : cutT ts none (some (n : Int)) = ts.take n := by
  unfold cutT
  rw [HT.sIx_none, HT.sIx_nat, List.drop_zero, Nat.sub_zero]
  by_cases h : n ≤ ts.length
  · rw [Nat.min_eq_left h]
  · rw [Nat.min_eq_right (by omega), List.take_of_length_le (by omega), List.take_of_length_le (by omega)]
theorem pf__newest_first (ts g A B) (h : sp__newest_first ts g A B) : r__newest_first ad (endsOf A) (aStart N__newest_first ts) g := by
  obtain ⟨x, us, rfl, hl, hA⟩ := h
  simp only [r__newest_first, aSeq, aNext, aDrop, aRet, aRetN, aIfS, aNever, aBrk, aCnt, aAsg, gNm, gTp, gCn, gNl, aTest, aAndT, aOrT, aNotT, aAndV, aOrV, aNotV, aOp, aUn, aN, aCall, aCons, aNil, aVar, aC, aIf, aTup, aChain, endsOf, aStart, vI0, vI, vLt, vLe, vGt, vGe, vSub, vAdd, vMul, vDiv, vMod, vAnd, vShr, vPow, vNeg, vEqF, vNeF, flatEq, vIsN, vNotN, vB2, Lz.isNon, vIx, vIn, nIsi, nLen, nAbs, nMax2, nMin2, nInt, nTup, items, iAny, aAll, Lz.iZip, aLc, aTrue, aLst, aApp, iRange1, iRange2, aFor, aSl, aoNone, aoSome, vSl, wipeS, List.map_cons, List.map_nil, List.length_cons, List.length_nil, List.replicate_zero, List.replicate_succ, List.cons_append, List.nil_append, List.append_nil, List.getElem?_cons_zero, List.getElem?_cons_succ, List.set_cons_zero, List.set_cons_succ, Nat.sub_self, Nat.zero_add, Nat.reduceAdd, Nat.reduceSub, Bool.not_true, Bool.not_false, iT]
  refine ⟨sz (by decide), sz (by rw [List.length_map]; omega), ?_⟩
  rw [cutT_nat, List.length_map]
  refine ⟨g, Sub.refl, ?_⟩
  have e : T.int x :: us.map T.int = (x :: us).map T.int := rfl
  rw [e, ← List.map_take]
  exact hA
theorem absI_eq (x : Int) : (if x < 0 then -x else x) = absI x := rfl
theorem Wo.abs {x : Int} (h : Wo x) : Wo (absI x) := by
  unfold absI Wo at *
  split <;> omega
theorem pf__taps (ts g A B) (h : sp__taps ts g A B) : r__taps ad (endsOf A) (aStart N__taps ts) g := by
  obtain ⟨ws, kept, x, rfl, hk, hs, hx, hA⟩ := h
  have h1 : ws.length ≤ 16 := hk.1.2
  have h2 : kept.length + 1 = ws.length := hs.1
  simp only [r__taps, aSeq, aNext, aDrop, aRet, aRetN, aIfS, aNever, aBrk, aCnt, aAsg, gNm, gTp, gCn, gNl, aTest, aAndT, aOrT, aNotT, aAndV, aOrV, aNotV, aOp, aUn, aN, aCall, aCons, aNil, aVar, aC, aIf, aTup, aChain, endsOf, aStart, vI0, vI, vLt, vLe, vGt, vGe, vSub, vAdd, vMul, vDiv, vMod, vAnd, vShr, vPow, vNeg, vEqF, vNeF, flatEq, vIsN, vNotN, vB2, Lz.isNon, vIx, vIn, nIsi, nLen, nAbs, nMax2, nMin2, nInt, nTup, items, iAny, aAll, Lz.iZip, aLc, aTrue, aLst, aApp, iRange1, iRange2, aFor, aSl, aoNone, aoSome, vSl, wipeS, List.map_cons, List.map_nil, List.length_cons, List.length_nil, List.replicate_zero, List.replicate_succ, List.cons_append, List.nil_append, List.append_nil, List.getElem?_cons_zero, List.getElem?_cons_succ, List.set_cons_zero, List.set_cons_succ, Nat.sub_self, Nat.zero_add, Nat.reduceAdd, Nat.reduceSub, Bool.not_true, Bool.not_false, iT, atI0]
  refine ⟨sz (by decide), sz (by rw [List.length_map]; omega), ws, x :: kept, rfl, ?_, by omega, ?_⟩
  · intro y hy
    rcases List.mem_cons.mp hy with rfl | hy
    · exact hx
    · exact hs.2.1 y hy
  refine ⟨_, 4096, rfl, by decide, by decide, _, rfl, ?_⟩
  refine ⟨x, kept, rfl, by omega, sz (by decide), g, Sub.refl, hA⟩
theorem foldl_max_mem : ∀ (xs : List Int) (x : Int), xs.foldl max x ∈ x :: xs
  | [], x => List.mem_singleton.mpr rfl
  | y :: ys, x => by
    have := foldl_max_mem ys (max x y)
    rw [List.foldl_cons]
    rcases List.mem_cons.mp this with h | h
    · rw [h]
      by_cases hh : x ≤ y
      · rw [Int.max_eq_right hh]; simp
      · rw [Int.max_eq_left (by omega)]; simp
    · exact List.mem_cons_of_mem _ (List.mem_cons_of_mem _ h)
theorem foldl_max_ge : ∀ (xs : List Int) (x : Int), ∀ y ∈ x :: xs, y ≤ xs.foldl max x
  | [], x, y, h => by rw [List.mem_singleton.mp h]; exact Int.le_refl _
  | z :: zs, x, y, h => by
    rw [List.foldl_cons]
    have h0 := foldl_max_ge zs (max x z) (max x z) List.mem_cons_self
    rcases List.mem_cons.mp h with rfl | h
    · exact Int.le_trans (Int.le_max_left _ _) h0
    · rcases List.mem_cons.mp h with rfl | h
      · exact Int.le_trans (Int.le_max_right _ _) h0
      · exact foldl_max_ge zs (max x z) y (List.mem_cons_of_mem _ h)
theorem maxL_is {ns : List Int} {m : Int} (h : m ∈ ns) (hm : ∀ y, y ∈ ns → y ≤ m) : m = maxL ns := by
  cases ns with
  | nil => cases h
  | cons x xs => exact Int.le_antisymm (foldl_max_ge xs x m h) (hm _ (foldl_max_mem xs x))
theorem pf__peak (ts g A B) (h : sp__peak ts g A B) : r__peak ad (endsOf A) (aStart N__peak ts) g := by
  obtain ⟨m, kept, x, rfl, hk, hs, hx, hA⟩ := h
  have h1 : m ≤ 256 := hk.2
  have h2 : kept.length + 1 = m := hs.1
  simp only [r__peak, aSeq, aNext, aDrop, aRet, aRetN, aIfS, aNever, aBrk, aCnt, aAsg, gNm, gTp, gCn, gNl, aTest, aAndT, aOrT, aNotT, aAndV, aOrV, aNotV, aOp, aUn, aN, aCall, aCons, aNil, aVar, aC, aIf, aTup, aChain, endsOf, aStart, vI0, vI, vLt, vLe, vGt, vGe, vSub, vAdd, vMul, vDiv, vMod, vAnd, vShr, vPow, vNeg, vEqF, vNeF, flatEq, vIsN, vNotN, vB2, Lz.isNon, vIx, vIn, nIsi, nLen, nAbs, nMax2, nMin2, nInt, nTup, items, iAny, aAll, Lz.iZip, aLc, aTrue, aLst, aApp, iRange1, iRange2, aFor, aSl, aoNone, aoSome, vSl, wipeS, List.map_cons, List.map_nil, List.length_cons, List.length_nil, List.replicate_zero, List.replicate_succ, List.cons_append, List.nil_append, List.append_nil, List.getElem?_cons_zero, List.getElem?_cons_succ, List.set_cons_zero, List.set_cons_succ, Nat.sub_self, Nat.zero_add, Nat.reduceAdd, Nat.reduceSub, Bool.not_true, Bool.not_false, iT, atI0, absI_eq]
  refine ⟨absI x, kept, rfl, by omega, sz (by decide), sz (by rw [List.length_map]; omega), ?_⟩
  have e : T.int (absI x) :: kept.map T.int = (absI x :: kept).map T.int := rfl
  simp only [nBest, items, e, intsOf_map]
  refine ⟨Nat.succ_pos _, fun y hy hm => ?_⟩
  have : y = maxL (absI x :: kept) := maxL_is hy (fun z hz => by simpa using hm z hz)
  subst this
  exact ⟨sz (by decide), g, Sub.refl, hA⟩
theorem pf__mean (ts g A B) (h : sp__mean ts g A B) : r__mean ad (endsOf A) (aStart N__mean ts) g := by
  obtain ⟨m, kept, x, rfl, hk, hs, hx, hA⟩ := h
  have h1 : m ≤ 256 := hk.2
  have h0 : 1 ≤ m := hk.1
  have h2 : kept.length + 1 = m := hs.1
  simp only [r__mean, aSeq, aNext, aDrop, aRet, aRetN, aIfS, aNever, aBrk, aCnt, aAsg, gNm, gTp, gCn, gNl, aTest, aAndT, aOrT, aNotT, aAndV, aOrV, aNotV, aOp, aUn, aN, aCall, aCons, aNil, aVar, aC, aIf, aTup, aChain, endsOf, aStart, vI0, vI, vLt, vLe, vGt, vGe, vSub, vAdd, vMul, vDiv, vMod, vAnd, vShr, vPow, vNeg, vEqF, vNeF, flatEq, vIsN, vNotN, vB2, Lz.isNon, vIx, vIn, nIsi, nLen, nAbs, nMax2, nMin2, nInt, nTup, items, iAny, aAll, Lz.iZip, aLc, aTrue, aLst, aApp, iRange1, iRange2, aFor, aSl, aoNone, aoSome, vSl, wipeS, List.map_cons, List.map_nil, List.length_cons, List.length_nil, List.replicate_zero, List.replicate_succ, List.cons_append, List.nil_append, List.append_nil, List.getElem?_cons_zero, List.getElem?_cons_succ, List.set_cons_zero, List.set_cons_succ, Nat.sub_self, Nat.zero_add, Nat.reduceAdd, Nat.reduceSub, Bool.not_true, Bool.not_false, iT, atI0]
  refine ⟨x, kept, rfl, by omega, ?_⟩
  simp only [nSum, items, intsOf_map]
  exact ⟨_, m, rfl, by omega, by omega, sz (by decide), g, Sub.refl, hA⟩
theorem pf__is_many (ts g A B) (h : sp__is_many ts g A B) : r__is_many ad (endsOf A) (aStart N__is_many ts) g := by
  obtain ⟨m, rfl, h1, h2, hA⟩ := h
  simp only [r__is_many, aSeq, aNext, aDrop, aRet, aRetN, aIfS, aNever, aBrk, aCnt, aAsg, gNm, gTp, gCn, gNl, aTest, aAndT, aOrT, aNotT, aAndV, aOrV, aNotV, aOp, aUn, aN, aCall, aCons, aNil, aVar, aC, aIf, aTup, aChain, endsOf, aStart, vI0, vI, vLt, vLe, vGt, vGe, vSub, vAdd, vMul, vDiv, vMod, vAnd, vShr, vPow, vNeg, vEqF, vNeF, flatEq, vIsN, vNotN, vB2, Lz.isNon, vIx, vIn, nIsi, nLen, nAbs, nMax2, nMin2, nInt, nTup, items, iAny, aAll, Lz.iZip, aLc, aTrue, aLst, aApp, iRange1, iRange2, aFor, aSl, aoNone, aoSome, vSl, wipeS, List.map_cons, List.map_nil, List.length_cons, List.length_nil, List.replicate_zero, List.replicate_succ, List.cons_append, List.nil_append, List.append_nil, List.getElem?_cons_zero, List.getElem?_cons_succ, List.set_cons_zero, List.set_cons_succ, Nat.sub_self, Nat.zero_add, Nat.reduceAdd, Nat.reduceSub, Bool.not_true, Bool.not_false]
  refine ⟨_, "int", _, _, rfl, rfl, g, Sub.refl, ?_⟩
  simp only [inR]
  rw [decide_eq_true (by omega), decide_eq_true (by omega)]
  exact hA
theorem pf__is_weight (ts g A B) (h : sp__is_weight ts g A B) : r__is_weight ad (endsOf A) (aStart N__is_weight ts) g := by
  obtain ⟨m, rfl, h1, h2, hA⟩ := h
  simp only [r__is_weight, aSeq, aNext, aDrop, aRet, aRetN, aIfS, aNever, aBrk, aCnt, aAsg, gNm, gTp, gCn, gNl, aTest, aAndT, aOrT, aNotT, aAndV, aOrV, aNotV, aOp, aUn, aN, aCall, aCons, aNil, aVar, aC, aIf, aTup, aChain, endsOf, aStart, vI0, vI, vLt, vLe, vGt, vGe, vSub, vAdd, vMul, vDiv, vMod, vAnd, vShr, vPow, vNeg, vEqF, vNeF, flatEq, vIsN, vNotN, vB2, Lz.isNon, vIx, vIn, nIsi, nLen, nAbs, nMax2, nMin2, nInt, nTup, items, iAny, aAll, Lz.iZip, aLc, aTrue, aLst, aApp, iRange1, iRange2, aFor, aSl, aoNone, aoSome, vSl, wipeS, List.map_cons, List.map_nil, List.length_cons, List.length_nil, List.replicate_zero, List.replicate_succ, List.cons_append, List.nil_append, List.append_nil, List.getElem?_cons_zero, List.getElem?_cons_succ, List.set_cons_zero, List.set_cons_succ, Nat.sub_self, Nat.zero_add, Nat.reduceAdd, Nat.reduceSub, Bool.not_true, Bool.not_false]
  refine ⟨_, "int", _, _, rfl, rfl, g, Sub.refl, ?_⟩
  simp only [inR]
  rw [decide_eq_true (by omega), decide_eq_true (by omega)]
  exact hA
theorem all_true {us : List T} : (us.all fun _ => true) = true := by simp
theorem pf__are_weights (ts g A B) (h : sp__are_weights ts g A B) : r__are_weights ad (endsOf A) (aStart N__are_weights ts) g := by
  obtain ⟨ws, rfl, hw, hA⟩ := h
  simp only [r__are_weights, aSeq, aNext, aDrop, aRet, aRetN, aIfS, aNever, aBrk, aCnt, aAsg, gNm, gTp, gCn, gNl, aTest, aAndT, aOrT, aNotT, aAndV, aOrV, aNotV, aOp, aUn, aN, aCall, aCons, aNil, aVar, aC, aIf, aTup, aChain, endsOf, aStart, vI0, vI, vLt, vLe, vGt, vGe, vSub, vAdd, vMul, vDiv, vMod, vAnd, vShr, vPow, vNeg, vEqF, vNeF, flatEq, vIsN, vNotN, vB2, Lz.isNon, vIx, vIn, nIsi, nLen, nAbs, nMax2, nMin2, nInt, nTup, items, iAny, aAll, Lz.iZip, aLc, aTrue, aLst, aApp, iRange1, iRange2, aFor, aSl, aoNone, aoSome, vSl, wipeS, List.map_cons, List.map_nil, List.length_cons, List.length_nil, List.replicate_zero, List.replicate_succ, List.cons_append, List.nil_append, List.append_nil, List.getElem?_cons_zero, List.getElem?_cons_succ, List.set_cons_zero, List.set_cons_succ, Nat.sub_self, Nat.zero_add, Nat.reduceAdd, Nat.reduceSub, Bool.not_true, Bool.not_false, tyName, iT, show isTab "tuple" "tuple" = some true from rfl]
  refine all_by (fun _ => true) trivial _ (fun t ht A' hA' => ?_) (by rw [all_true]; exact ⟨g, Sub.refl, hA⟩)
  obtain ⟨x, hx, rfl⟩ := List.mem_map.mp ht
  simp only [aSeq, aNext, aDrop, aRet, aRetN, aIfS, aNever, aBrk, aCnt, aAsg, gNm, gTp, gCn, gNl, aTest, aAndT, aOrT, aNotT, aAndV, aOrV, aNotV, aOp, aUn, aN, aCall, aCons, aNil, aVar, aC, aIf, aTup, aChain, endsOf, aStart, vI0, vI, vLt, vLe, vGt, vGe, vSub, vAdd, vMul, vDiv, vMod, vAnd, vShr, vPow, vNeg, vEqF, vNeF, flatEq, vIsN, vNotN, vB2, Lz.isNon, vIx, vIn, nIsi, nLen, nAbs, nMax2, nMin2, nInt, nTup, items, iAny, aAll, Lz.iZip, aLc, aTrue, aLst, aApp, iRange1, iRange2, aFor, aSl, aoNone, aoSome, vSl, wipeS, List.map_cons, List.map_nil, List.length_cons, List.length_nil, List.replicate_zero, List.replicate_succ, List.cons_append, List.nil_append, List.append_nil, List.getElem?_cons_zero, List.getElem?_cons_succ, List.set_cons_zero, List.set_cons_succ, Nat.sub_self, Nat.zero_add, Nat.reduceAdd, Nat.reduceSub, Bool.not_true, Bool.not_false]
  exact ⟨x, rfl, (hw x hx).1, (hw x hx).2, hA'⟩
theorem pf__is_taps (ts g A B) (h : sp__is_taps ts g A B) : r__is_taps ad (endsOf A) (aStart N__is_taps ts) g := by
  obtain ⟨ws, rfl, hk, hA⟩ := h
  simp only [r__is_taps, aSeq, aNext, aDrop, aRet, aRetN, aIfS, aNever, aBrk, aCnt, aAsg, gNm, gTp, gCn, gNl, aTest, aAndT, aOrT, aNotT, aAndV, aOrV, aNotV, aOp, aUn, aN, aCall, aCons, aNil, aVar, aC, aIf, aTup, aChain, endsOf, aStart, vI0, vI, vLt, vLe, vGt, vGe, vSub, vAdd, vMul, vDiv, vMod, vAnd, vShr, vPow, vNeg, vEqF, vNeF, flatEq, vIsN, vNotN, vB2, Lz.isNon, vIx, vIn, nIsi, nLen, nAbs, nMax2, nMin2, nInt, nTup, items, iAny, aAll, Lz.iZip, aLc, aTrue, aLst, aApp, iRange1, iRange2, aFor, aSl, aoNone, aoSome, vSl, wipeS, List.map_cons, List.map_nil, List.length_cons, List.length_nil, List.replicate_zero, List.replicate_succ, List.cons_append, List.nil_append, List.append_nil, List.getElem?_cons_zero, List.getElem?_cons_succ, List.set_cons_zero, List.set_cons_succ, Nat.sub_self, Nat.zero_add, Nat.reduceAdd, Nat.reduceSub, Bool.not_true, Bool.not_false]
  refine ⟨ws, rfl, hk.2, ?_⟩
  have h1 := hk.1.1
  have h2 := hk.1.2
  simp only [aSeq, aNext, aDrop, aRet, aRetN, aIfS, aNever, aBrk, aCnt, aAsg, gNm, gTp, gCn, gNl, aTest, aAndT, aOrT, aNotT, aAndV, aOrV, aNotV, aOp, aUn, aN, aCall, aCons, aNil, aVar, aC, aIf, aTup, aChain, endsOf, aStart, vI0, vI, vLt, vLe, vGt, vGe, vSub, vAdd, vMul, vDiv, vMod, vAnd, vShr, vPow, vNeg, vEqF, vNeF, flatEq, vIsN, vNotN, vB2, Lz.isNon, vIx, vIn, nIsi, nLen, nAbs, nMax2, nMin2, nInt, nTup, items, iAny, aAll, Lz.iZip, aLc, aTrue, aLst, aApp, iRange1, iRange2, aFor, aSl, aoNone, aoSome, vSl, wipeS, List.map_cons, List.map_nil, List.length_cons, List.length_nil, List.replicate_zero, List.replicate_succ, List.cons_append, List.nil_append, List.append_nil, List.getElem?_cons_zero, List.getElem?_cons_succ, List.set_cons_zero, List.set_cons_succ, Nat.sub_self, Nat.zero_add, Nat.reduceAdd, Nat.reduceSub, Bool.not_true, Bool.not_false, iT, List.length_map]
  rw [decide_eq_true (by omega)]
  simp only []
  rw [decide_eq_true (by omega)]
  exact ⟨g, Sub.refl, hA⟩
theorem pf_knob_words (ts g A B) (h : sp_knob_words ts g A B) : r_knob_words ad (endsOf A) (aStart N_knob_words ts) g := by
  obtain ⟨k, rfl, hA⟩ := h
  simp only [r_knob_words, aSeq, aNext, aDrop, aRet, aRetN, aIfS, aNever, aBrk, aCnt, aAsg, gNm, gTp, gCn, gNl, aTest, aAndT, aOrT, aNotT, aAndV, aOrV, aNotV, aOp, aUn, aN, aCall, aCons, aNil, aVar, aC, aIf, aTup, aChain, endsOf, aStart, vI0, vI, vLt, vLe, vGt, vGe, vSub, vAdd, vMul, vDiv, vMod, vAnd, vShr, vPow, vNeg, vEqF, vNeF, flatEq, vIsN, vNotN, vB2, Lz.isNon, vIx, vIn, nIsi, nLen, nAbs, nMax2, nMin2, nInt, nTup, items, iAny, aAll, Lz.iZip, aLc, aTrue, aLst, aApp, iRange1, iRange2, aFor, aSl, aoNone, aoSome, vSl, wipeS, List.map_cons, List.map_nil, List.length_cons, List.length_nil, List.replicate_zero, List.replicate_succ, List.cons_append, List.nil_append, List.append_nil, List.getElem?_cons_zero, List.getElem?_cons_succ, List.set_cons_zero, List.set_cons_succ, Nat.sub_self, Nat.zero_add, Nat.reduceAdd, Nat.reduceSub, Bool.not_true, Bool.not_false, tyName, show isTab "str" "str" = some true from rfl]
  cases k <;> exact ⟨g, Sub.refl, hA⟩
def Hd__is_knob (ad : Str → Addr) (a : Addr) (asp : ASp) : Prop := (a = ad "_is_many" ∧ asp = sp__is_many) ∨ (a = ad "_is_taps" ∧ asp = sp__is_taps)
theorem pf__is_knob (ts g A B) (h : sp__is_knob ts g A B) : r__is_knob ad (Hd__is_knob ad) (endsOf A) (aStart N__is_knob ts) g := by
  obtain ⟨k, rfl, hk, hA⟩ := h
  simp only [r__is_knob, aSeq, aNext, aDrop, aRet, aRetN, aIfS, aNever, aBrk, aCnt, aAsg, gNm, gTp, gCn, gNl, aTest, aAndT, aOrT, aNotT, aAndV, aOrV, aNotV, aOp, aUn, aN, aCall, aCons, aNil, aVar, aC, aIf, aTup, aChain, endsOf, aStart, vI0, vI, vLt, vLe, vGt, vGe, vSub, vAdd, vMul, vDiv, vMod, vAnd, vShr, vPow, vNeg, vEqF, vNeF, flatEq, vIsN, vNotN, vB2, Lz.isNon, vIx, vIn, nIsi, nLen, nAbs, nMax2, nMin2, nInt, nTup, items, iAny, aAll, Lz.iZip, aLc, aTrue, aLst, aApp, iRange1, iRange2, aFor, aSl, aoNone, aoSome, vSl, wipeS, List.map_cons, List.map_nil, List.length_cons, List.length_nil, List.replicate_zero, List.replicate_succ, List.cons_append, List.nil_append, List.append_nil, List.getElem?_cons_zero, List.getElem?_cons_succ, List.set_cons_zero, List.set_cons_succ, Nat.sub_self, Nat.zero_add, Nat.reduceAdd, Nat.reduceSub, Bool.not_true, Bool.not_false, aKIx, aCallL]
  cases k with
  | peak m => exact ⟨_, .inl ⟨rfl, rfl⟩, m, rfl, hk.1, hk.2, g, Sub.refl, hA⟩
  | mean m => exact ⟨_, .inl ⟨rfl, rfl⟩, m, rfl, hk.1, hk.2, g, Sub.refl, hA⟩
  | taps ws => exact ⟨_, .inr ⟨rfl, rfl⟩, ws, rfl, hk, g, Sub.refl, hA⟩
theorem pf__fits (ts g A B) (h : sp__fits ts g A B) : r__fits ad (endsOf A) (aStart N__fits ts) g := by
  obtain ⟨k, rfl, hk, hA⟩ := h
  simp only [r__fits, aSeq, aNext, aDrop, aRet, aRetN, aIfS, aNever, aBrk, aCnt, aAsg, gNm, gTp, gCn, gNl, aTest, aAndT, aOrT, aNotT, aAndV, aOrV, aNotV, aOp, aUn, aN, aCall, aCons, aNil, aVar, aC, aIf, aTup, aChain, endsOf, aStart, vI0, vI, vLt, vLe, vGt, vGe, vSub, vAdd, vMul, vDiv, vMod, vAnd, vShr, vPow, vNeg, vEqF, vNeF, flatEq, vIsN, vNotN, vB2, Lz.isNon, vIx, vIn, nIsi, nLen, nAbs, nMax2, nMin2, nInt, nTup, items, iAny, aAll, Lz.iZip, aLc, aTrue, aLst, aApp, iRange1, iRange2, aFor, aSl, aoNone, aoSome, vSl, wipeS, List.map_cons, List.map_nil, List.length_cons, List.length_nil, List.replicate_zero, List.replicate_succ, List.cons_append, List.nil_append, List.append_nil, List.getElem?_cons_zero, List.getElem?_cons_succ, List.set_cons_zero, List.set_cons_succ, Nat.sub_self, Nat.zero_add, Nat.reduceAdd, Nat.reduceSub, Bool.not_true, Bool.not_false, tyName, aKIx, show isTab "tuple" "tuple" = some true from rfl]
  simp only [decide_true, Bool.not_true, aSeq, aNext, aDrop, aRet, aRetN, aIfS, aNever, aBrk, aCnt, aAsg, gNm, gTp, gCn, gNl, aTest, aAndT, aOrT, aNotT, aAndV, aOrV, aNotV, aOp, aUn, aN, aCall, aCons, aNil, aVar, aC, aIf, aTup, aChain, endsOf, aStart, vI0, vI, vLt, vLe, vGt, vGe, vSub, vAdd, vMul, vDiv, vMod, vAnd, vShr, vPow, vNeg, vEqF, vNeF, flatEq, vIsN, vNotN, vB2, Lz.isNon, vIx, vIn, nIsi, nLen, nAbs, nMax2, nMin2, nInt, nTup, items, iAny, aAll, Lz.iZip, aLc, aTrue, aLst, aApp, iRange1, iRange2, aFor, aSl, aoNone, aoSome, vSl, wipeS, List.map_cons, List.map_nil, List.length_cons, List.length_nil, List.replicate_zero, List.replicate_succ, List.cons_append, List.nil_append, List.append_nil, List.getElem?_cons_zero, List.getElem?_cons_succ, List.set_cons_zero, List.set_cons_succ, Nat.sub_self, Nat.zero_add, Nat.reduceAdd, Nat.reduceSub, Bool.not_true, Bool.not_false, zipT, List.zipWith_cons_cons, List.zipWith_nil_right]
  intro D hD
  refine lc_map (fun _ => .bl true) (fun _ => trivial) _ [] (sz (by simp)) (fun t ht acc A' hA' => ?_) ?_
  · rw [List.mem_singleton.mp ht]
    simp only [aSeq, aNext, aDrop, aRet, aRetN, aIfS, aNever, aBrk, aCnt, aAsg, gNm, gTp, gCn, gNl, aTest, aAndT, aOrT, aNotT, aAndV, aOrV, aNotV, aOp, aUn, aN, aCall, aCons, aNil, aVar, aC, aIf, aTup, aChain, endsOf, aStart, vI0, vI, vLt, vLe, vGt, vGe, vSub, vAdd, vMul, vDiv, vMod, vAnd, vShr, vPow, vNeg, vEqF, vNeF, flatEq, vIsN, vNotN, vB2, Lz.isNon, vIx, vIn, nIsi, nLen, nAbs, nMax2, nMin2, nInt, nTup, items, iAny, aAll, Lz.iZip, aLc, aTrue, aLst, aApp, iRange1, iRange2, aFor, aSl, aoNone, aoSome, vSl, wipeS, List.map_cons, List.map_nil, List.length_cons, List.length_nil, List.replicate_zero, List.replicate_succ, List.cons_append, List.nil_append, List.append_nil, List.getElem?_cons_zero, List.getElem?_cons_succ, List.set_cons_zero, List.set_cons_succ, Nat.sub_self, Nat.zero_add, Nat.reduceAdd, Nat.reduceSub, Bool.not_true, Bool.not_false]
    exact ⟨trivial, k, rfl, hk, hA'⟩
  · simp only [aSeq, aNext, aDrop, aRet, aRetN, aIfS, aNever, aBrk, aCnt, aAsg, gNm, gTp, gCn, gNl, aTest, aAndT, aOrT, aNotT, aAndV, aOrV, aNotV, aOp, aUn, aN, aCall, aCons, aNil, aVar, aC, aIf, aTup, aChain, endsOf, aStart, vI0, vI, vLt, vLe, vGt, vGe, vSub, vAdd, vMul, vDiv, vMod, vAnd, vShr, vPow, vNeg, vEqF, vNeF, flatEq, vIsN, vNotN, vB2, Lz.isNon, vIx, vIn, nIsi, nLen, nAbs, nMax2, nMin2, nInt, nTup, items, iAny, aAll, Lz.iZip, aLc, aTrue, aLst, aApp, iRange1, iRange2, aFor, aSl, aoNone, aoSome, vSl, wipeS, List.map_cons, List.map_nil, List.length_cons, List.length_nil, List.replicate_zero, List.replicate_succ, List.cons_append, List.nil_append, List.append_nil, List.getElem?_cons_zero, List.getElem?_cons_succ, List.set_cons_zero, List.set_cons_succ, Nat.sub_self, Nat.zero_add, Nat.reduceAdd, Nat.reduceSub, Bool.not_true, Bool.not_false, nAll, set_same, blsOf, Option.map_some, List.all_cons, List.all_nil, id, Bool.and_true, Bool.not_true]
    refine ⟨_, _, rfl, rfl, by rcases (by cases k <;> simp [Knd.word] : k.word = "many" ∨ k.word = "taps") with e | e <;> rw [e] <;> decide +kernel, by decide +kernel, ?_⟩
    cases k <;> exact ⟨g, sub_new Sub.refl hD, hA⟩
theorem pf_is_settled (ts g A B) (h : sp_is_settled ts g A B) : r_is_settled ad (endsOf A) (aStart N_is_settled ts) g := by
  obtain ⟨k, rfl, hk, hA⟩ := h
  simp only [r_is_settled, aSeq, aNext, aDrop, aRet, aRetN, aIfS, aNever, aBrk, aCnt, aAsg, gNm, gTp, gCn, gNl, aTest, aAndT, aOrT, aNotT, aAndV, aOrV, aNotV, aOp, aUn, aN, aCall, aCons, aNil, aVar, aC, aIf, aTup, aChain, endsOf, aStart, vI0, vI, vLt, vLe, vGt, vGe, vSub, vAdd, vMul, vDiv, vMod, vAnd, vShr, vPow, vNeg, vEqF, vNeF, flatEq, vIsN, vNotN, vB2, Lz.isNon, vIx, vIn, nIsi, nLen, nAbs, nMax2, nMin2, nInt, nTup, items, iAny, aAll, Lz.iZip, aLc, aTrue, aLst, aApp, iRange1, iRange2, aFor, aSl, aoNone, aoSome, vSl, wipeS, List.map_cons, List.map_nil, List.length_cons, List.length_nil, List.replicate_zero, List.replicate_succ, List.cons_append, List.nil_append, List.append_nil, List.getElem?_cons_zero, List.getElem?_cons_succ, List.set_cons_zero, List.set_cons_succ, Nat.sub_self, Nat.zero_add, Nat.reduceAdd, Nat.reduceSub, Bool.not_true, Bool.not_false]
  refine ⟨k, rfl, ?_⟩
  have e : decide (k.nm = "voices") = false := by cases k <;> rfl
  simp only [e]
  exact ⟨k, rfl, hk, g, Sub.refl, hA⟩
theorem pf_inlets_by (ts g A B) (h : sp_inlets_by ts g A B) : r_inlets_by ad (endsOf A) (aStart N_inlets_by ts) g := by
  obtain ⟨k, rfl, hA⟩ := h
  simp only [r_inlets_by, aSeq, aNext, aDrop, aRet, aRetN, aIfS, aNever, aBrk, aCnt, aAsg, gNm, gTp, gCn, gNl, aTest, aAndT, aOrT, aNotT, aAndV, aOrV, aNotV, aOp, aUn, aN, aCall, aCons, aNil, aVar, aC, aIf, aTup, aChain, endsOf, aStart, vI0, vI, vLt, vLe, vGt, vGe, vSub, vAdd, vMul, vDiv, vMod, vAnd, vShr, vPow, vNeg, vEqF, vNeF, flatEq, vIsN, vNotN, vB2, Lz.isNon, vIx, vIn, nIsi, nLen, nAbs, nMax2, nMin2, nInt, nTup, items, iAny, aAll, Lz.iZip, aLc, aTrue, aLst, aApp, iRange1, iRange2, aFor, aSl, aoNone, aoSome, vSl, wipeS, List.map_cons, List.map_nil, List.length_cons, List.length_nil, List.replicate_zero, List.replicate_succ, List.cons_append, List.nil_append, List.append_nil, List.getElem?_cons_zero, List.getElem?_cons_succ, List.set_cons_zero, List.set_cons_succ, Nat.sub_self, Nat.zero_add, Nat.reduceAdd, Nat.reduceSub, Bool.not_true, Bool.not_false, aKGet2]
  cases k <;> exact ⟨g, Sub.refl, hA⟩
theorem pf_columns_of (ts g A B) (h : sp_columns_of ts g A B) : r_columns_of ad (endsOf A) (aStart N_columns_of ts) g := by
  obtain ⟨k, rfl, hA⟩ := h
  simp only [r_columns_of, aSeq, aNext, aDrop, aRet, aRetN, aIfS, aNever, aBrk, aCnt, aAsg, gNm, gTp, gCn, gNl, aTest, aAndT, aOrT, aNotT, aAndV, aOrV, aNotV, aOp, aUn, aN, aCall, aCons, aNil, aVar, aC, aIf, aTup, aChain, endsOf, aStart, vI0, vI, vLt, vLe, vGt, vGe, vSub, vAdd, vMul, vDiv, vMod, vAnd, vShr, vPow, vNeg, vEqF, vNeF, flatEq, vIsN, vNotN, vB2, Lz.isNon, vIx, vIn, nIsi, nLen, nAbs, nMax2, nMin2, nInt, nTup, items, iAny, aAll, Lz.iZip, aLc, aTrue, aLst, aApp, iRange1, iRange2, aFor, aSl, aoNone, aoSome, vSl, wipeS, List.map_cons, List.map_nil, List.length_cons, List.length_nil, List.replicate_zero, List.replicate_succ, List.cons_append, List.nil_append, List.append_nil, List.getElem?_cons_zero, List.getElem?_cons_succ, List.set_cons_zero, List.set_cons_succ, Nat.sub_self, Nat.zero_add, Nat.reduceAdd, Nat.reduceSub, Bool.not_true, Bool.not_false]
  have e : decide (k.nm = "feed") = false := by cases k <;> rfl
  simp only [e]
  exact ⟨k, rfl, g, Sub.refl, hA⟩
theorem pf__worths_kept (ts g A B) (h : sp__worths_kept ts g A B) : r__worths_kept ad (endsOf A) (aStart N__worths_kept ts) g := by
  obtain ⟨k, rfl, hk, hA⟩ := h
  simp only [r__worths_kept, aSeq, aNext, aDrop, aRet, aRetN, aIfS, aNever, aBrk, aCnt, aAsg, gNm, gTp, gCn, gNl, aTest, aAndT, aOrT, aNotT, aAndV, aOrV, aNotV, aOp, aUn, aN, aCall, aCons, aNil, aVar, aC, aIf, aTup, aChain, endsOf, aStart, vI0, vI, vLt, vLe, vGt, vGe, vSub, vAdd, vMul, vDiv, vMod, vAnd, vShr, vPow, vNeg, vEqF, vNeF, flatEq, vIsN, vNotN, vB2, Lz.isNon, vIx, vIn, nIsi, nLen, nAbs, nMax2, nMin2, nInt, nTup, items, iAny, aAll, Lz.iZip, aLc, aTrue, aLst, aApp, iRange1, iRange2, aFor, aSl, aoNone, aoSome, vSl, wipeS, List.map_cons, List.map_nil, List.length_cons, List.length_nil, List.replicate_zero, List.replicate_succ, List.cons_append, List.nil_append, List.append_nil, List.getElem?_cons_zero, List.getElem?_cons_succ, List.set_cons_zero, List.set_cons_succ, Nat.sub_self, Nat.zero_add, Nat.reduceAdd, Nat.reduceSub, Bool.not_true, Bool.not_false, atI0]
  cases k with
  | peak m => exact ⟨sz (by decide), rfl, rfl, g, Sub.refl, hA⟩
  | mean m => exact ⟨sz (by decide), rfl, rfl, g, Sub.refl, hA⟩
  | taps ws =>
    simp only [Knd.nm, Knd.knob, Knd.wd, iT, items, List.length_map] at hA ⊢
    exact ⟨g, Sub.refl, hA⟩
theorem flat_rep (n : Nat) (x : T) : (List.replicate n [x]).flatten = List.replicate n x := by
  induction n with
  | zero => rfl
  | succ n ih => rw [List.replicate_succ, List.flatten_cons, ih, List.replicate_succ]; rfl
theorem Knd.wd_le {k : Knd} (h : k.ok) : 1 ≤ k.wd ∧ k.wd ≤ 256 := by
  cases k with
  | peak m => exact h
  | mean m => exact h
  | taps ws => exact ⟨h.1.1, Nat.le_trans h.1.2 (by decide)⟩
theorem pf_start_of (ts g A B) (h : sp_start_of ts g A B) : r_start_of ad (endsOf A) (aStart N_start_of ts) g := by
  obtain ⟨k, rfl, hk, hA⟩ := h
  simp only [r_start_of, aSeq, aNext, aDrop, aRet, aRetN, aIfS, aNever, aBrk, aCnt, aAsg, gNm, gTp, gCn, gNl, aTest, aAndT, aOrT, aNotT, aAndV, aOrV, aNotV, aOp, aUn, aN, aCall, aCons, aNil, aVar, aC, aIf, aTup, aChain, endsOf, aStart, vI0, vI, vLt, vLe, vGt, vGe, vSub, vAdd, vMul, vDiv, vMod, vAnd, vShr, vPow, vNeg, vEqF, vNeF, flatEq, vIsN, vNotN, vB2, Lz.isNon, vIx, vIn, nIsi, nLen, nAbs, nMax2, nMin2, nInt, nTup, items, iAny, aAll, Lz.iZip, aLc, aTrue, aLst, aApp, iRange1, iRange2, aFor, aSl, aoNone, aoSome, vSl, wipeS, List.map_cons, List.map_nil, List.length_cons, List.length_nil, List.replicate_zero, List.replicate_succ, List.cons_append, List.nil_append, List.append_nil, List.getElem?_cons_zero, List.getElem?_cons_succ, List.set_cons_zero, List.set_cons_succ, Nat.sub_self, Nat.zero_add, Nat.reduceAdd, Nat.reduceSub, Bool.not_true, Bool.not_false]
  refine ⟨k, rfl, hk, _, rfl, ?_⟩
  exact ⟨k, rfl, hk, g, Sub.refl, hA⟩
theorem pf_start_by (ts g A B) (h : sp_start_by ts g A B) : r_start_by ad (endsOf A) (aStart N_start_by ts) g := by
  obtain ⟨k, rfl, hk, hA⟩ := h
  have hw := Knd.wd_le hk
  simp only [r_start_by, aSeq, aNext, aDrop, aRet, aRetN, aIfS, aNever, aBrk, aCnt, aAsg, gNm, gTp, gCn, gNl, aTest, aAndT, aOrT, aNotT, aAndV, aOrV, aNotV, aOp, aUn, aN, aCall, aCons, aNil, aVar, aC, aIf, aTup, aChain, endsOf, aStart, vI0, vI, vLt, vLe, vGt, vGe, vSub, vAdd, vMul, vDiv, vMod, vAnd, vShr, vPow, vNeg, vEqF, vNeF, flatEq, vIsN, vNotN, vB2, Lz.isNon, vIx, vIn, nIsi, nLen, nAbs, nMax2, nMin2, nInt, nTup, items, iAny, aAll, Lz.iZip, aLc, aTrue, aLst, aApp, iRange1, iRange2, aFor, aSl, aoNone, aoSome, vSl, wipeS, List.map_cons, List.map_nil, List.length_cons, List.length_nil, List.replicate_zero, List.replicate_succ, List.cons_append, List.nil_append, List.append_nil, List.getElem?_cons_zero, List.getElem?_cons_succ, List.set_cons_zero, List.set_cons_succ, Nat.sub_self, Nat.zero_add, Nat.reduceAdd, Nat.reduceSub, Bool.not_true, Bool.not_false]
  have e1 : ([T.str "clock", T.str "noise"].any fun y => eqT y (T.str k.nm)) = false := by cases k <;> rfl
  have e2 : decide (k.nm = "voices") = false := by cases k <;> rfl
  refine ⟨sz (by decide), rfl, rfl, ?_⟩
  simp only [e1, e2, Bool.xor_false, aSeq, aNext, aDrop, aRet, aRetN, aIfS, aNever, aBrk, aCnt, aAsg, gNm, gTp, gCn, gNl, aTest, aAndT, aOrT, aNotT, aAndV, aOrV, aNotV, aOp, aUn, aN, aCall, aCons, aNil, aVar, aC, aIf, aTup, aChain, endsOf, aStart, vI0, vI, vLt, vLe, vGt, vGe, vSub, vAdd, vMul, vDiv, vMod, vAnd, vShr, vPow, vNeg, vEqF, vNeF, flatEq, vIsN, vNotN, vB2, Lz.isNon, vIx, vIn, nIsi, nLen, nAbs, nMax2, nMin2, nInt, nTup, items, iAny, aAll, Lz.iZip, aLc, aTrue, aLst, aApp, iRange1, iRange2, aFor, aSl, aoNone, aoSome, vSl, wipeS, List.map_cons, List.map_nil, List.length_cons, List.length_nil, List.replicate_zero, List.replicate_succ, List.cons_append, List.nil_append, List.append_nil, List.getElem?_cons_zero, List.getElem?_cons_succ, List.set_cons_zero, List.set_cons_succ, Nat.sub_self, Nat.zero_add, Nat.reduceAdd, Nat.reduceSub, Bool.not_true, Bool.not_false]
  refine ⟨k, rfl, hk, ?_⟩
  refine ⟨sz (by decide), ⟨by omega, by omega⟩, by simp only [List.length_cons, List.length_nil]; omega, g, Sub.refl, ?_⟩
  rw [flat_rep, show ((k.wd : Int) - 1).toNat = k.wd - 1 by omega, ← List.map_replicate]
  exact hA
theorem pf_is_state (ts g A B) (h : sp_is_state ts g A B) : r_is_state ad (endsOf A) (aStart N_is_state ts) g := by
  obtain ⟨k, kept, rfl, hk, hs, hA⟩ := h
  have hw := Knd.wd_le hk
  have hl : kept.length + 1 = k.wd := hs.1
  simp only [r_is_state, aSeq, aNext, aDrop, aRet, aRetN, aIfS, aNever, aBrk, aCnt, aAsg, gNm, gTp, gCn, gNl, aTest, aAndT, aOrT, aNotT, aAndV, aOrV, aNotV, aOp, aUn, aN, aCall, aCons, aNil, aVar, aC, aIf, aTup, aChain, endsOf, aStart, vI0, vI, vLt, vLe, vGt, vGe, vSub, vAdd, vMul, vDiv, vMod, vAnd, vShr, vPow, vNeg, vEqF, vNeF, flatEq, vIsN, vNotN, vB2, Lz.isNon, vIx, vIn, nIsi, nLen, nAbs, nMax2, nMin2, nInt, nTup, items, iAny, aAll, Lz.iZip, aLc, aTrue, aLst, aApp, iRange1, iRange2, aFor, aSl, aoNone, aoSome, vSl, wipeS, List.map_cons, List.map_nil, List.length_cons, List.length_nil, List.replicate_zero, List.replicate_succ, List.cons_append, List.nil_append, List.append_nil, List.getElem?_cons_zero, List.getElem?_cons_succ, List.set_cons_zero, List.set_cons_succ, Nat.sub_self, Nat.zero_add, Nat.reduceAdd, Nat.reduceSub, Bool.not_true, Bool.not_false, tyName, iT, show isTab "tuple" "tuple" = some true from rfl]
  refine ⟨k, rfl, hk, _, rfl, ?_⟩
  have e1 : ([T.str "smooth", T.str "latch"].any fun y => eqT y (T.str k.nm)) = false := by cases k <;> rfl
  have e2 : decide (k.nm = "voices") = false := by cases k <;> rfl
  refine ⟨sz (by decide), rfl, rfl, ?_⟩
  simp only [e1, e2, Bool.xor_false, aSeq, aNext, aDrop, aRet, aRetN, aIfS, aNever, aBrk, aCnt, aAsg, gNm, gTp, gCn, gNl, aTest, aAndT, aOrT, aNotT, aAndV, aOrV, aNotV, aOp, aUn, aN, aCall, aCons, aNil, aVar, aC, aIf, aTup, aChain, endsOf, aStart, vI0, vI, vLt, vLe, vGt, vGe, vSub, vAdd, vMul, vDiv, vMod, vAnd, vShr, vPow, vNeg, vEqF, vNeF, flatEq, vIsN, vNotN, vB2, Lz.isNon, vIx, vIn, nIsi, nLen, nAbs, nMax2, nMin2, nInt, nTup, items, iAny, aAll, Lz.iZip, aLc, aTrue, aLst, aApp, iRange1, iRange2, aFor, aSl, aoNone, aoSome, vSl, wipeS, List.map_cons, List.map_nil, List.length_cons, List.length_nil, List.replicate_zero, List.replicate_succ, List.cons_append, List.nil_append, List.append_nil, List.getElem?_cons_zero, List.getElem?_cons_succ, List.set_cons_zero, List.set_cons_succ, Nat.sub_self, Nat.zero_add, Nat.reduceAdd, Nat.reduceSub, Bool.not_true, Bool.not_false]
  refine ⟨k, rfl, hk, ?_⟩
  simp only [aSeq, aNext, aDrop, aRet, aRetN, aIfS, aNever, aBrk, aCnt, aAsg, gNm, gTp, gCn, gNl, aTest, aAndT, aOrT, aNotT, aAndV, aOrV, aNotV, aOp, aUn, aN, aCall, aCons, aNil, aVar, aC, aIf, aTup, aChain, endsOf, aStart, vI0, vI, vLt, vLe, vGt, vGe, vSub, vAdd, vMul, vDiv, vMod, vAnd, vShr, vPow, vNeg, vEqF, vNeF, flatEq, vIsN, vNotN, vB2, Lz.isNon, vIx, vIn, nIsi, nLen, nAbs, nMax2, nMin2, nInt, nTup, items, iAny, aAll, Lz.iZip, aLc, aTrue, aLst, aApp, iRange1, iRange2, aFor, aSl, aoNone, aoSome, vSl, wipeS, List.map_cons, List.map_nil, List.length_cons, List.length_nil, List.replicate_zero, List.replicate_succ, List.cons_append, List.nil_append, List.append_nil, List.getElem?_cons_zero, List.getElem?_cons_succ, List.set_cons_zero, List.set_cons_succ, Nat.sub_self, Nat.zero_add, Nat.reduceAdd, Nat.reduceSub, Bool.not_true, Bool.not_false, List.length_map]
  rw [decide_eq_true (show (kept.length : Int) = (k.wd : Int) - 1 by omega)]
  simp only [aSeq, aNext, aDrop, aRet, aRetN, aIfS, aNever, aBrk, aCnt, aAsg, gNm, gTp, gCn, gNl, aTest, aAndT, aOrT, aNotT, aAndV, aOrV, aNotV, aOp, aUn, aN, aCall, aCons, aNil, aVar, aC, aIf, aTup, aChain, endsOf, aStart, vI0, vI, vLt, vLe, vGt, vGe, vSub, vAdd, vMul, vDiv, vMod, vAnd, vShr, vPow, vNeg, vEqF, vNeF, flatEq, vIsN, vNotN, vB2, Lz.isNon, vIx, vIn, nIsi, nLen, nAbs, nMax2, nMin2, nInt, nTup, items, iAny, aAll, Lz.iZip, aLc, aTrue, aLst, aApp, iRange1, iRange2, aFor, aSl, aoNone, aoSome, vSl, wipeS, List.map_cons, List.map_nil, List.length_cons, List.length_nil, List.replicate_zero, List.replicate_succ, List.cons_append, List.nil_append, List.append_nil, List.getElem?_cons_zero, List.getElem?_cons_succ, List.set_cons_zero, List.set_cons_succ, Nat.sub_self, Nat.zero_add, Nat.reduceAdd, Nat.reduceSub, Bool.not_true, Bool.not_false]
  refine all_by (fun _ => true) trivial _ (fun t ht A' hA' => ?_) ?_
  · obtain ⟨x, hx, rfl⟩ := List.mem_map.mp ht
    simp only [aSeq, aNext, aDrop, aRet, aRetN, aIfS, aNever, aBrk, aCnt, aAsg, gNm, gTp, gCn, gNl, aTest, aAndT, aOrT, aNotT, aAndV, aOrV, aNotV, aOp, aUn, aN, aCall, aCons, aNil, aVar, aC, aIf, aTup, aChain, endsOf, aStart, vI0, vI, vLt, vLe, vGt, vGe, vSub, vAdd, vMul, vDiv, vMod, vAnd, vShr, vPow, vNeg, vEqF, vNeF, flatEq, vIsN, vNotN, vB2, Lz.isNon, vIx, vIn, nIsi, nLen, nAbs, nMax2, nMin2, nInt, nTup, items, iAny, aAll, Lz.iZip, aLc, aTrue, aLst, aApp, iRange1, iRange2, aFor, aSl, aoNone, aoSome, vSl, wipeS, List.map_cons, List.map_nil, List.length_cons, List.length_nil, List.replicate_zero, List.replicate_succ, List.cons_append, List.nil_append, List.append_nil, List.getElem?_cons_zero, List.getElem?_cons_succ, List.set_cons_zero, List.set_cons_succ, Nat.sub_self, Nat.zero_add, Nat.reduceAdd, Nat.reduceSub, Bool.not_true, Bool.not_false]
    refine ⟨_, "int", rfl, rfl, ?_⟩
    have := hs.2.1 x hx
    simp only [inR]
    rw [decide_eq_true this.1, decide_eq_true this.2]
    exact hA'
  · rw [all_true]
    simp only [aSeq, aNext, aDrop, aRet, aRetN, aIfS, aNever, aBrk, aCnt, aAsg, gNm, gTp, gCn, gNl, aTest, aAndT, aOrT, aNotT, aAndV, aOrV, aNotV, aOp, aUn, aN, aCall, aCons, aNil, aVar, aC, aIf, aTup, aChain, endsOf, aStart, vI0, vI, vLt, vLe, vGt, vGe, vSub, vAdd, vMul, vDiv, vMod, vAnd, vShr, vPow, vNeg, vEqF, vNeF, flatEq, vIsN, vNotN, vB2, Lz.isNon, vIx, vIn, nIsi, nLen, nAbs, nMax2, nMin2, nInt, nTup, items, iAny, aAll, Lz.iZip, aLc, aTrue, aLst, aApp, iRange1, iRange2, aFor, aSl, aoNone, aoSome, vSl, wipeS, List.map_cons, List.map_nil, List.length_cons, List.length_nil, List.replicate_zero, List.replicate_succ, List.cons_append, List.nil_append, List.append_nil, List.getElem?_cons_zero, List.getElem?_cons_succ, List.set_cons_zero, List.set_cons_succ, Nat.sub_self, Nat.zero_add, Nat.reduceAdd, Nat.reduceSub, Bool.not_true, Bool.not_false]
    cases k with
    | peak m =>
      refine all_by (fun _ => true) trivial _ (fun t ht A' hA' => ?_) ?_
      · obtain ⟨x, hx, rfl⟩ := List.mem_map.mp ht
        simp only [aSeq, aNext, aDrop, aRet, aRetN, aIfS, aNever, aBrk, aCnt, aAsg, gNm, gTp, gCn, gNl, aTest, aAndT, aOrT, aNotT, aAndV, aOrV, aNotV, aOp, aUn, aN, aCall, aCons, aNil, aVar, aC, aIf, aTup, aChain, endsOf, aStart, vI0, vI, vLt, vLe, vGt, vGe, vSub, vAdd, vMul, vDiv, vMod, vAnd, vShr, vPow, vNeg, vEqF, vNeF, flatEq, vIsN, vNotN, vB2, Lz.isNon, vIx, vIn, nIsi, nLen, nAbs, nMax2, nMin2, nInt, nTup, items, iAny, aAll, Lz.iZip, aLc, aTrue, aLst, aApp, iRange1, iRange2, aFor, aSl, aoNone, aoSome, vSl, wipeS, List.map_cons, List.map_nil, List.length_cons, List.length_nil, List.replicate_zero, List.replicate_succ, List.cons_append, List.nil_append, List.append_nil, List.getElem?_cons_zero, List.getElem?_cons_succ, List.set_cons_zero, List.set_cons_succ, Nat.sub_self, Nat.zero_add, Nat.reduceAdd, Nat.reduceSub, Bool.not_true, Bool.not_false]
        rw [decide_eq_true (hs.2.2 rfl x hx)]
        exact hA'
      · rw [all_true]
        exact ⟨g, Sub.refl, hA⟩
    | mean m => exact ⟨g, Sub.refl, hA⟩
    | taps ws => exact ⟨g, Sub.refl, hA⟩
theorem pf__are_columns (ts g A B) (h : sp__are_columns ts g A B) : r__are_columns ad (endsOf A) (aStart N__are_columns ts) g := by
  obtain ⟨xs, rfl, hx, hA⟩ := h
  simp only [r__are_columns, aSeq, aNext, aDrop, aRet, aRetN, aIfS, aNever, aBrk, aCnt, aAsg, gNm, gTp, gCn, gNl, aTest, aAndT, aOrT, aNotT, aAndV, aOrV, aNotV, aOp, aUn, aN, aCall, aCons, aNil, aVar, aC, aIf, aTup, aChain, endsOf, aStart, vI0, vI, vLt, vLe, vGt, vGe, vSub, vAdd, vMul, vDiv, vMod, vAnd, vShr, vPow, vNeg, vEqF, vNeF, flatEq, vIsN, vNotN, vB2, Lz.isNon, vIx, vIn, nIsi, nLen, nAbs, nMax2, nMin2, nInt, nTup, items, iAny, aAll, Lz.iZip, aLc, aTrue, aLst, aApp, iRange1, iRange2, aFor, aSl, aoNone, aoSome, vSl, wipeS, List.map_cons, List.map_nil, List.length_cons, List.length_nil, List.replicate_zero, List.replicate_succ, List.cons_append, List.nil_append, List.append_nil, List.getElem?_cons_zero, List.getElem?_cons_succ, List.set_cons_zero, List.set_cons_succ, Nat.sub_self, Nat.zero_add, Nat.reduceAdd, Nat.reduceSub, Bool.not_true, Bool.not_false, tyName, iT, show isTab "tuple" "tuple" = some true from rfl]
  simp only [atI0, show decide (((1 : Nat) : Int) = 1) = true from rfl, aSeq, aNext, aDrop, aRet, aRetN, aIfS, aNever, aBrk, aCnt, aAsg, gNm, gTp, gCn, gNl, aTest, aAndT, aOrT, aNotT, aAndV, aOrV, aNotV, aOp, aUn, aN, aCall, aCons, aNil, aVar, aC, aIf, aTup, aChain, endsOf, aStart, vI0, vI, vLt, vLe, vGt, vGe, vSub, vAdd, vMul, vDiv, vMod, vAnd, vShr, vPow, vNeg, vEqF, vNeF, flatEq, vIsN, vNotN, vB2, Lz.isNon, vIx, vIn, nIsi, nLen, nAbs, nMax2, nMin2, nInt, nTup, items, iAny, aAll, Lz.iZip, aLc, aTrue, aLst, aApp, iRange1, iRange2, aFor, aSl, aoNone, aoSome, vSl, wipeS, List.map_cons, List.map_nil, List.length_cons, List.length_nil, List.replicate_zero, List.replicate_succ, List.cons_append, List.nil_append, List.append_nil, List.getElem?_cons_zero, List.getElem?_cons_succ, List.set_cons_zero, List.set_cons_succ, Nat.sub_self, Nat.zero_add, Nat.reduceAdd, Nat.reduceSub, Bool.not_true, Bool.not_false]
  refine all_by (fun _ => true) trivial _ (fun t ht A' hA' => ?_) ?_
  · rw [List.mem_singleton.mp ht]
    simp only [aSeq, aNext, aDrop, aRet, aRetN, aIfS, aNever, aBrk, aCnt, aAsg, gNm, gTp, gCn, gNl, aTest, aAndT, aOrT, aNotT, aAndV, aOrV, aNotV, aOp, aUn, aN, aCall, aCons, aNil, aVar, aC, aIf, aTup, aChain, endsOf, aStart, vI0, vI, vLt, vLe, vGt, vGe, vSub, vAdd, vMul, vDiv, vMod, vAnd, vShr, vPow, vNeg, vEqF, vNeF, flatEq, vIsN, vNotN, vB2, Lz.isNon, vIx, vIn, nIsi, nLen, nAbs, nMax2, nMin2, nInt, nTup, items, iAny, aAll, Lz.iZip, aLc, aTrue, aLst, aApp, iRange1, iRange2, aFor, aSl, aoNone, aoSome, vSl, wipeS, List.map_cons, List.map_nil, List.length_cons, List.length_nil, List.replicate_zero, List.replicate_succ, List.cons_append, List.nil_append, List.append_nil, List.getElem?_cons_zero, List.getElem?_cons_succ, List.set_cons_zero, List.set_cons_succ, Nat.sub_self, Nat.zero_add, Nat.reduceAdd, Nat.reduceSub, Bool.not_true, Bool.not_false]
    refine ⟨_, rfl, fun u hu => ?_, ?_⟩
    · obtain ⟨x, _, rfl⟩ := List.mem_map.mp hu
      exact ⟨"int", rfl⟩
    · have e : ((xs.map T.int).all fun u => inR u (-1048575) 1048575) = true := by
        rw [List.all_eq_true]
        intro u hu
        obtain ⟨x, hm, rfl⟩ := List.mem_map.mp hu
        have := hx x hm
        simp only [inR]
        rw [decide_eq_true this.1, decide_eq_true this.2]
        rfl
      rw [e]
      exact hA'
  · rw [all_true]
    simp only [aSeq, aNext, aDrop, aRet, aRetN, aIfS, aNever, aBrk, aCnt, aAsg, gNm, gTp, gCn, gNl, aTest, aAndT, aOrT, aNotT, aAndV, aOrV, aNotV, aOp, aUn, aN, aCall, aCons, aNil, aVar, aC, aIf, aTup, aChain, endsOf, aStart, vI0, vI, vLt, vLe, vGt, vGe, vSub, vAdd, vMul, vDiv, vMod, vAnd, vShr, vPow, vNeg, vEqF, vNeF, flatEq, vIsN, vNotN, vB2, Lz.isNon, vIx, vIn, nIsi, nLen, nAbs, nMax2, nMin2, nInt, nTup, items, iAny, aAll, Lz.iZip, aLc, aTrue, aLst, aApp, iRange1, iRange2, aFor, aSl, aoNone, aoSome, vSl, wipeS, List.map_cons, List.map_nil, List.length_cons, List.length_nil, List.replicate_zero, List.replicate_succ, List.cons_append, List.nil_append, List.append_nil, List.getElem?_cons_zero, List.getElem?_cons_succ, List.set_cons_zero, List.set_cons_succ, Nat.sub_self, Nat.zero_add, Nat.reduceAdd, Nat.reduceSub, Bool.not_true, Bool.not_false]
    refine all_by (fun _ => true) trivial _ (fun t ht A' hA' => ?_) ?_
    · rw [List.mem_singleton.mp ht]
      simp only [aSeq, aNext, aDrop, aRet, aRetN, aIfS, aNever, aBrk, aCnt, aAsg, gNm, gTp, gCn, gNl, aTest, aAndT, aOrT, aNotT, aAndV, aOrV, aNotV, aOp, aUn, aN, aCall, aCons, aNil, aVar, aC, aIf, aTup, aChain, endsOf, aStart, vI0, vI, vLt, vLe, vGt, vGe, vSub, vAdd, vMul, vDiv, vMod, vAnd, vShr, vPow, vNeg, vEqF, vNeF, flatEq, vIsN, vNotN, vB2, Lz.isNon, vIx, vIn, nIsi, nLen, nAbs, nMax2, nMin2, nInt, nTup, items, iAny, aAll, Lz.iZip, aLc, aTrue, aLst, aApp, iRange1, iRange2, aFor, aSl, aoNone, aoSome, vSl, wipeS, List.map_cons, List.map_nil, List.length_cons, List.length_nil, List.replicate_zero, List.replicate_succ, List.cons_append, List.nil_append, List.append_nil, List.getElem?_cons_zero, List.getElem?_cons_succ, List.set_cons_zero, List.set_cons_succ, Nat.sub_self, Nat.zero_add, Nat.reduceAdd, Nat.reduceSub, Bool.not_true, Bool.not_false, atI0, decide_true]
      exact hA'
    · rw [all_true]
      exact ⟨g, Sub.refl, hA⟩
def Hd_step_of (ad : Str → Addr) (a : Addr) (asp : ASp) : Prop := (a = ad "_peak" ∧ asp = sp__peak) ∨ (a = ad "_mean" ∧ asp = sp__mean) ∨ (a = ad "_taps" ∧ asp = sp__taps)
theorem pf_step_of (ts g A B) (h : sp_step_of ts g A B) : r_step_of ad (Hd_step_of ad) (endsOf A) (aStart N_step_of ts) g := by
  obtain ⟨k, kept, x, rfl, hk, hs, hx, hA⟩ := h
  have e2 : decide (k.nm = "voices") = false := by cases k <;> rfl
  simp only [r_step_of, aSeq, aNext, aDrop, aRet, aRetN, aIfS, aNever, aBrk, aCnt, aAsg, gNm, gTp, gCn, gNl, aTest, aAndT, aOrT, aNotT, aAndV, aOrV, aNotV, aOp, aUn, aN, aCall, aCons, aNil, aVar, aC, aIf, aTup, aChain, endsOf, aStart, vI0, vI, vLt, vLe, vGt, vGe, vSub, vAdd, vMul, vDiv, vMod, vAnd, vShr, vPow, vNeg, vEqF, vNeF, flatEq, vIsN, vNotN, vB2, Lz.isNon, vIx, vIn, nIsi, nLen, nAbs, nMax2, nMin2, nInt, nTup, items, iAny, aAll, Lz.iZip, aLc, aTrue, aLst, aApp, iRange1, iRange2, aFor, aSl, aoNone, aoSome, vSl, wipeS, List.map_cons, List.map_nil, List.length_cons, List.length_nil, List.replicate_zero, List.replicate_succ, List.cons_append, List.nil_append, List.append_nil, List.getElem?_cons_zero, List.getElem?_cons_succ, List.set_cons_zero, List.set_cons_succ, Nat.sub_self, Nat.zero_add, Nat.reduceAdd, Nat.reduceSub, Bool.not_true, Bool.not_false, aKIx, aKIn, aCallL, e2]
  cases k with
  | peak m => exact ⟨_, .inl ⟨rfl, rfl⟩, m, kept, x, rfl, hk, hs, hx, g, Sub.refl, hA⟩
  | mean m => exact ⟨_, .inr (.inl ⟨rfl, rfl⟩), m, kept, x, rfl, hk, hs, hx, g, Sub.refl, hA⟩
  | taps ws => exact ⟨_, .inr (.inr ⟨rfl, rfl⟩), ws, kept, x, rfl, hk, hs, hx, g, Sub.refl, hA⟩
theorem rangeT_succ (lo : Int) (n : Nat) : Lz.rangeT lo (n + 1) = .int lo :: Lz.rangeT (lo + 1) n := by
  unfold Lz.rangeT
  rw [List.range_succ_eq_map, List.map_cons, List.map_map]
  congr 1
  · simp
  · apply List.map_congr_left
    intro i _
    simp only [Function.comp]
    congr 1
    omega
theorem atI_nat {α : Type} {xs : List α} {i : Nat} (h : i < xs.length) : L2.atI xs (i : Int) = some xs[i] := by
  unfold L2.atI ixN
  rw [if_pos (by omega), if_pos (by omega)]
  simp [h]
theorem toDs_ints : ∀ (xs : List Int), toDs (xs.map T.int) = some (xs.map PyData.int)
  | [] => rfl
  | x :: xs => by rw [List.map_cons, toDs, toDs_ints xs]; rfl
theorem lay_ints : ∀ (xs : List Int), PyData.canLayAll0 (xs.map PyData.int) = true ∧ PyData.depthAll (xs.map PyData.int) = 0
  | [] => ⟨rfl, rfl⟩
  | x :: xs => by
    obtain ⟨h1, h2⟩ := lay_ints xs
    rw [List.map_cons]
    constructor
    · simp only [PyData.canLayAll0, PyData.canLay0, h1]; rfl
    · simp only [PyData.depthAll, PyData.depth, h2]; rfl
theorem shaped_cols (xs : List Int) : SeqAt.shaped (.tuple [.tuple (xs.map PyData.int)]) = true := by
  obtain ⟨h1, h2⟩ := lay_ints xs
  unfold SeqAt.shaped
  simp only [PyData.canLay0, PyData.canLayAll0, PyData.depth, PyData.depthAll, h1, h2]
  rfl
theorem Knd.st_keep {k : Knd} {kept : List Int} {x : Int} (hk : k.ok) (hs : k.st kept) (hx : Wo x) : k.st (k.keep kept x) := by
  have len : ∀ y : Int, ((y :: kept).take kept.length).length = kept.length := fun y => by rw [List.length_take, List.length_cons]; omega
  have mem : ∀ (y z : Int), z ∈ (y :: kept).take kept.length → z = y ∨ z ∈ kept := fun y z hz => List.mem_cons.mp (List.mem_of_mem_take hz)
  cases k with
  | peak m =>
    refine ⟨by show ((absI x :: kept).take kept.length).length + 1 = _; rw [len]; exact hs.1, fun z hz => ?_, fun _ z hz => ?_⟩
    · rcases mem _ z hz with rfl | h
      · exact hx.abs
      · exact hs.2.1 z h
    · rcases mem _ z hz with rfl | h
      · unfold absI; split <;> omega
      · exact hs.2.2 rfl z h
  | mean m =>
    refine ⟨by show ((x :: kept).take kept.length).length + 1 = _; rw [len]; exact hs.1, fun z hz => ?_, fun h => by cases h⟩
    rcases mem _ z hz with rfl | h
    · exact hx
    · exact hs.2.1 z h
  | taps ws =>
    refine ⟨by show ((x :: kept).take kept.length).length + 1 = _; rw [len]; exact hs.1, fun z hz => ?_, fun h => by cases h⟩
    rcases mem _ z hz with rfl | h
    · exact hx
    · exact hs.2.1 z h
def ixT (i : Int) : T → T
  | .tup us => (L2.atI us i).getD .non
  | _ => .non
theorem pf_block_of (ts g A B) (h : sp_block_of ts g A B) : r_block_of ad (endsOf A) (aStart N_block_of ts) g := by
  obtain ⟨k, kept0, xs, rfl, hk, hs0, hx, hl, hA⟩ := h
  simp only [r_block_of, aSeq, aNext, aDrop, aRet, aRetN, aIfS, aNever, aBrk, aCnt, aAsg, gNm, gTp, gCn, gNl, aTest, aAndT, aOrT, aNotT, aAndV, aOrV, aNotV, aOp, aUn, aN, aCall, aCons, aNil, aVar, aC, aIf, aTup, aChain, endsOf, aStart, vI0, vI, vLt, vLe, vGt, vGe, vSub, vAdd, vMul, vDiv, vMod, vAnd, vShr, vPow, vNeg, vEqF, vNeF, flatEq, vIsN, vNotN, vB2, Lz.isNon, vIx, vIn, nIsi, nLen, nAbs, nMax2, nMin2, nInt, nTup, items, iAny, aAll, Lz.iZip, aLc, aTrue, aLst, aApp, iRange1, iRange2, aFor, aSl, aoNone, aoSome, vSl, wipeS, List.map_cons, List.map_nil, List.length_cons, List.length_nil, List.replicate_zero, List.replicate_succ, List.cons_append, List.nil_append, List.append_nil, List.getElem?_cons_zero, List.getElem?_cons_succ, List.set_cons_zero, List.set_cons_succ, Nat.sub_self, Nat.zero_add, Nat.reduceAdd, Nat.reduceSub, Bool.not_true, Bool.not_false, atI0]
  refine ⟨k, rfl, hk, _, rfl, k, kept0, rfl, hk, hs0, _, rfl, k, rfl, xs, rfl, hx, _, rfl, _, "int", _, _, rfl, rfl, ?_⟩
  simp only [inR]
  rw [decide_eq_true (by omega), decide_eq_true (by omega)]
  simp only [Bool.and_true, aSeq, aNext, aDrop, aRet, aRetN, aIfS, aNever, aBrk, aCnt, aAsg, gNm, gTp, gCn, gNl, aTest, aAndT, aOrT, aNotT, aAndV, aOrV, aNotV, aOp, aUn, aN, aCall, aCons, aNil, aVar, aC, aIf, aTup, aChain, endsOf, aStart, vI0, vI, vLt, vLe, vGt, vGe, vSub, vAdd, vMul, vDiv, vMod, vAnd, vShr, vPow, vNeg, vEqF, vNeF, flatEq, vIsN, vNotN, vB2, Lz.isNon, vIx, vIn, nIsi, nLen, nAbs, nMax2, nMin2, nInt, nTup, items, iAny, aAll, Lz.iZip, aLc, aTrue, aLst, aApp, iRange1, iRange2, aFor, aSl, aoNone, aoSome, vSl, wipeS, List.map_cons, List.map_nil, List.length_cons, List.length_nil, List.replicate_zero, List.replicate_succ, List.cons_append, List.nil_append, List.append_nil, List.getElem?_cons_zero, List.getElem?_cons_succ, List.set_cons_zero, List.set_cons_succ, Nat.sub_self, Nat.zero_add, Nat.reduceAdd, Nat.reduceSub, Bool.not_true, Bool.not_false, iT]
  refine ⟨sz (by decide), .tuple [.tuple (xs.map PyData.int)], .tuple [], ?_, rfl, shaped_cols xs, by decide +kernel, ?_⟩
  · simp only [toD, toDs, toDs_ints, Option.map_some]
  simp only [PyData.eqv, PyData.eqvAll, aSeq, aNext, aDrop, aRet, aRetN, aIfS, aNever, aBrk, aCnt, aAsg, gNm, gTp, gCn, gNl, aTest, aAndT, aOrT, aNotT, aAndV, aOrV, aNotV, aOp, aUn, aN, aCall, aCons, aNil, aVar, aC, aIf, aTup, aChain, endsOf, aStart, vI0, vI, vLt, vLe, vGt, vGe, vSub, vAdd, vMul, vDiv, vMod, vAnd, vShr, vPow, vNeg, vEqF, vNeF, flatEq, vIsN, vNotN, vB2, Lz.isNon, vIx, vIn, nIsi, nLen, nAbs, nMax2, nMin2, nInt, nTup, items, iAny, aAll, Lz.iZip, aLc, aTrue, aLst, aApp, iRange1, iRange2, aFor, aSl, aoNone, aoSome, vSl, wipeS, List.map_cons, List.map_nil, List.length_cons, List.length_nil, List.replicate_zero, List.replicate_succ, List.cons_append, List.nil_append, List.append_nil, List.getElem?_cons_zero, List.getElem?_cons_succ, List.set_cons_zero, List.set_cons_succ, Nat.sub_self, Nat.zero_add, Nat.reduceAdd, Nat.reduceSub, Bool.not_true, Bool.not_false, List.length_map, decide_true]
  refine ⟨_, rfl, sz (by decide), fun p hp => ⟨⟨by omega, by omega⟩, ?_⟩⟩
  refine loop_by (fun rest s g2 => ∃ (i : Nat) (kept told : List Int) (a6 a7 a8 : Option T), rest = Lz.rangeT i (xs.length - i) ∧ i ≤ xs.length ∧
      s = [some (T.str k.nm), some (T.tup [k.knob]), some (iT kept), some (T.tup [T.tup (List.map T.int xs)]), some (T.int xs.length), some (T.ref p), a6, a7, a8] ∧
      Lz.Sub (Lz.set g p (.lst (told.map T.int))) g2 ∧ k.st kept ∧ told.length = i ∧ (k.run kept (xs.drop i)).1 = (k.run kept0 xs).1 ∧ told ++ (k.run kept (xs.drop i)).2 = (k.run kept0 xs).2) ?_ ?_ _ _ _
    ⟨0, kept0, [], none, none, none, by rw [Nat.sub_zero]; simp, Nat.zero_le _, rfl, Sub.refl, hs0, rfl, rfl, rfl⟩
  · rintro s g2 ⟨i, kept, told, a6, a7, a8, hr, hi, rfl, hsub, hst, hlen, h1, h2⟩
    have hi2 : i = xs.length := by
      have := congrArg List.length hr
      simp [Lz.rangeT] at this
      omega
    subst hi2
    rw [List.drop_length] at h1 h2
    have e1 : kept = (k.run kept0 xs).1 := h1
    have e2 : told = (k.run kept0 xs).2 := by rw [← h2]; exact (List.append_nil _).symm
    refine ⟨trivial, ?_⟩
    simp only [aSeq, aNext, aDrop, aRet, aRetN, aIfS, aNever, aBrk, aCnt, aAsg, gNm, gTp, gCn, gNl, aTest, aAndT, aOrT, aNotT, aAndV, aOrV, aNotV, aOp, aUn, aN, aCall, aCons, aNil, aVar, aC, aIf, aTup, aChain, endsOf, aStart, vI0, vI, vLt, vLe, vGt, vGe, vSub, vAdd, vMul, vDiv, vMod, vAnd, vShr, vPow, vNeg, vEqF, vNeF, flatEq, vIsN, vNotN, vB2, Lz.isNon, vIx, vIn, nIsi, nLen, nAbs, nMax2, nMin2, nInt, nTup, items, iAny, aAll, Lz.iZip, aLc, aTrue, aLst, aApp, iRange1, iRange2, aFor, aSl, aoNone, aoSome, vSl, wipeS, List.map_cons, List.map_nil, List.length_cons, List.length_nil, List.replicate_zero, List.replicate_succ, List.cons_append, List.nil_append, List.append_nil, List.getElem?_cons_zero, List.getElem?_cons_succ, List.set_cons_zero, List.set_cons_succ, Nat.sub_self, Nat.zero_add, Nat.reduceAdd, Nat.reduceSub, Bool.not_true, Bool.not_false, hsub p _ set_same]
    refine ⟨sz (by decide), g, ?_, ?_⟩
    · exact (Sub.set Sub.refl hp).trans hsub
    · rw [e1, e2]
      exact hA
  · rintro t ts s g2 R hR ⟨i, kept, told, a6, a7, a8, hr, hi, rfl, hsub, hst, hlen, h1, h2⟩
    have hi2 : i < xs.length := by
      have := congrArg List.length hr
      simp [Lz.rangeT] at this
      omega
    rw [show xs.length - i = (xs.length - (i + 1)) + 1 by omega, rangeT_succ] at hr
    obtain ⟨rfl, rfl⟩ := List.cons.inj hr
    refine ⟨trivial, ?_⟩
    simp only [aSeq, aNext, aDrop, aRet, aRetN, aIfS, aNever, aBrk, aCnt, aAsg, gNm, gTp, gCn, gNl, aTest, aAndT, aOrT, aNotT, aAndV, aOrV, aNotV, aOp, aUn, aN, aCall, aCons, aNil, aVar, aC, aIf, aTup, aChain, endsOf, aStart, vI0, vI, vLt, vLe, vGt, vGe, vSub, vAdd, vMul, vDiv, vMod, vAnd, vShr, vPow, vNeg, vEqF, vNeF, flatEq, vIsN, vNotN, vB2, Lz.isNon, vIx, vIn, nIsi, nLen, nAbs, nMax2, nMin2, nInt, nTup, items, iAny, aAll, Lz.iZip, aLc, aTrue, aLst, aApp, iRange1, iRange2, aFor, aSl, aoNone, aoSome, vSl, wipeS, List.map_cons, List.map_nil, List.length_cons, List.length_nil, List.replicate_zero, List.replicate_succ, List.cons_append, List.nil_append, List.append_nil, List.getElem?_cons_zero, List.getElem?_cons_succ, List.set_cons_zero, List.set_cons_succ, Nat.sub_self, Nat.zero_add, Nat.reduceAdd, Nat.reduceSub, Bool.not_true, Bool.not_false]
    intro D hD
    have hDp : D ≠ p := fun e => by
      have := hsub p _ set_same
      rw [← e, hD] at this
      cases this
    refine lc_map (ixT i) (fun _ => trivial) _ [] (sz (by simp)) (fun t ht acc A' hA' => ?_) ?_
    · rw [List.mem_singleton.mp ht] at hA' ⊢
      simp only [aSeq, aNext, aDrop, aRet, aRetN, aIfS, aNever, aBrk, aCnt, aAsg, gNm, gTp, gCn, gNl, aTest, aAndT, aOrT, aNotT, aAndV, aOrV, aNotV, aOp, aUn, aN, aCall, aCons, aNil, aVar, aC, aIf, aTup, aChain, endsOf, aStart, vI0, vI, vLt, vLe, vGt, vGe, vSub, vAdd, vMul, vDiv, vMod, vAnd, vShr, vPow, vNeg, vEqF, vNeF, flatEq, vIsN, vNotN, vB2, Lz.isNon, vIx, vIn, nIsi, nLen, nAbs, nMax2, nMin2, nInt, nTup, items, iAny, aAll, Lz.iZip, aLc, aTrue, aLst, aApp, iRange1, iRange2, aFor, aSl, aoNone, aoSome, vSl, wipeS, List.map_cons, List.map_nil, List.length_cons, List.length_nil, List.replicate_zero, List.replicate_succ, List.cons_append, List.nil_append, List.append_nil, List.getElem?_cons_zero, List.getElem?_cons_succ, List.set_cons_zero, List.set_cons_succ, Nat.sub_self, Nat.zero_add, Nat.reduceAdd, Nat.reduceSub, Bool.not_true, Bool.not_false, ixT] at hA' ⊢
      rw [atI_nat (by rw [List.length_map]; exact hi2)] at hA' ⊢
      exact hA'
    · have ex : ixT i (.tup (xs.map T.int)) = .int xs[i] := by
        have e := atI_nat (xs := xs.map T.int) (i := i) (by rw [List.length_map]; exact hi2)
        show (L2.atI (xs.map T.int) (i : Int)).getD .non = _
        rw [e]
        simp
      simp only [aSeq, aNext, aDrop, aRet, aRetN, aIfS, aNever, aBrk, aCnt, aAsg, gNm, gTp, gCn, gNl, aTest, aAndT, aOrT, aNotT, aAndV, aOrV, aNotV, aOp, aUn, aN, aCall, aCons, aNil, aVar, aC, aIf, aTup, aChain, endsOf, aStart, vI0, vI, vLt, vLe, vGt, vGe, vSub, vAdd, vMul, vDiv, vMod, vAnd, vShr, vPow, vNeg, vEqF, vNeF, flatEq, vIsN, vNotN, vB2, Lz.isNon, vIx, vIn, nIsi, nLen, nAbs, nMax2, nMin2, nInt, nTup, items, iAny, aAll, Lz.iZip, aLc, aTrue, aLst, aApp, iRange1, iRange2, aFor, aSl, aoNone, aoSome, vSl, wipeS, List.map_cons, List.map_nil, List.length_cons, List.length_nil, List.replicate_zero, List.replicate_succ, List.cons_append, List.nil_append, List.append_nil, List.getElem?_cons_zero, List.getElem?_cons_succ, List.set_cons_zero, List.set_cons_succ, Nat.sub_self, Nat.zero_add, Nat.reduceAdd, Nat.reduceSub, Bool.not_true, Bool.not_false, set_same, ex]
      have hxi : Wo xs[i] := hx _ (List.getElem_mem hi2)
      refine ⟨k, kept, xs[i], rfl, hk, hst, hxi, rfl, ?_⟩
      have hp2 : Lz.set g2 D (O.lst [T.int xs[i]]) p = some (.lst (told.map T.int)) := by
        rw [set_ne (Ne.symm hDp)]
        exact hsub p _ set_same
      simp only [aSeq, aNext, aDrop, aRet, aRetN, aIfS, aNever, aBrk, aCnt, aAsg, gNm, gTp, gCn, gNl, aTest, aAndT, aOrT, aNotT, aAndV, aOrV, aNotV, aOp, aUn, aN, aCall, aCons, aNil, aVar, aC, aIf, aTup, aChain, endsOf, aStart, vI0, vI, vLt, vLe, vGt, vGe, vSub, vAdd, vMul, vDiv, vMod, vAnd, vShr, vPow, vNeg, vEqF, vNeF, flatEq, vIsN, vNotN, vB2, Lz.isNon, vIx, vIn, nIsi, nLen, nAbs, nMax2, nMin2, nInt, nTup, items, iAny, aAll, Lz.iZip, aLc, aTrue, aLst, aApp, iRange1, iRange2, aFor, aSl, aoNone, aoSome, vSl, wipeS, List.map_cons, List.map_nil, List.length_cons, List.length_nil, List.replicate_zero, List.replicate_succ, List.cons_append, List.nil_append, List.append_nil, List.getElem?_cons_zero, List.getElem?_cons_succ, List.set_cons_zero, List.set_cons_succ, Nat.sub_self, Nat.zero_add, Nat.reduceAdd, Nat.reduceSub, Bool.not_true, Bool.not_false, hp2]
      refine ⟨by rw [List.length_map]; exact Nat.lt_of_lt_of_le (show told.length < 1000000 by omega) (sz (Nat.le_refl _)), ?_⟩
      have hd : xs.drop i = xs[i] :: xs.drop (i + 1) := List.drop_eq_getElem_cons hi2
      rw [hd] at h1 h2
      refine hR _ _ ⟨i + 1, k.keep kept xs[i], told ++ [k.tell kept xs[i]], _, _, _, rfl, hi2, rfl, ?_, Knd.st_keep hk hst hxi, by simp [hlen], h1, ?_⟩
      · rw [List.map_append, show Lz.set g p (O.lst (told.map T.int ++ [k.tell kept xs[i]].map T.int)) = Lz.set (Lz.set g p (.lst (told.map T.int))) p (O.lst (told.map T.int ++ [T.int (k.tell kept xs[i])])) from by rw [set_set]; rfl]
        exact sub_put (sub_new hsub hD)
      · rw [List.append_assoc]
        exact h2
end Tx

set_option Elab.async false
set_option linter.all false
set_option maxRecDepth 100000
set_option maxHeartbeats 4000000
namespace Tx
open PySem PySem.Spec PyProof.Rows L2 Lz
variable {ad : Str → Addr}
theorem ixN0 {n : Nat} : L2.ixN (n + 1) 0 = some 0 := by
  unfold ixN
  rw [if_pos (by decide), if_pos (by omega)]
  rfl
theorem ixN1 {n : Nat} : L2.ixN (n + 2) 1 = some 1 := by
  unfold ixN
  rw [if_pos (by decide), if_pos (by omega)]
  rfl
theorem atI1 {α : Type} (x y : α) (xs : List α) : L2.atI (x :: y :: xs) 1 = some y := by
  unfold L2.atI
  rw [List.length_cons, List.length_cons, ixN1]
  rfl
theorem pf__law_take (ts g A B) (h : sp__law_take ts g A B) : r__law_take ad (endsOf A) (aStart N__law_take ts) g := by
  obtain ⟨p, lim, rfl, ⟨a, b, hp⟩, h1, h2, hA⟩ := h
  have hlog : lim.natAbs.log2 < 9000 := Nat.lt_of_lt_of_le ((Nat.log2_lt (k := 64) (by omega)).mpr (by omega)) (by decide)
  simp only [r__law_take, aSeq, aNext, aDrop, aRet, aRetN, aIfS, aNever, aBrk, aCnt, aAsg, gNm, gTp, gCn, gNl, aTest, aAndT, aOrT, aNotT, aAndV, aOrV, aNotV, aOp, aUn, aN, aCall, aCons, aNil, aVar, aC, aIf, aTup, aChain, endsOf, aStart, vI0, vI, vLt, vLe, vGt, vGe, vSub, vAdd, vMul, vDiv, vMod, vAnd, vShr, vPow, vNeg, vEqF, vNeF, flatEq, vIsN, vNotN, vB2, Lz.isNon, vIx, vIn, nIsi, nLen, nAbs, nMax2, nMin2, nInt, nTup, items, iAny, aAll, Lz.iZip, aLc, aTrue, aLst, aApp, iRange1, iRange2, aFor, aSl, aoNone, aoSome, vSl, wipeS, List.map_cons, List.map_nil, List.length_cons, List.length_nil, List.replicate_zero, List.replicate_succ, List.cons_append, List.nil_append, List.append_nil, List.getElem?_cons_zero, List.getElem?_cons_succ, List.set_cons_zero, List.set_cons_succ, Nat.sub_self, Nat.zero_add, Nat.reduceAdd, Nat.reduceSub, Bool.not_true, Bool.not_false, hp, atI0, atI1]
  cases hd : decide (0 < a) with
  | true =>
    have ha : 0 < a := of_decide_eq_true hd
    simp only []
    refine ⟨by omega, ⟨by omega, hlog⟩, ?_⟩
    simp only [gSb, aSeq, aNext, aDrop, aRet, aRetN, aIfS, aNever, aBrk, aCnt, aAsg, gNm, gTp, gCn, gNl, aTest, aAndT, aOrT, aNotT, aAndV, aOrV, aNotV, aOp, aUn, aN, aCall, aCons, aNil, aVar, aC, aIf, aTup, aChain, endsOf, aStart, vI0, vI, vLt, vLe, vGt, vGe, vSub, vAdd, vMul, vDiv, vMod, vAnd, vShr, vPow, vNeg, vEqF, vNeF, flatEq, vIsN, vNotN, vB2, Lz.isNon, vIx, vIn, nIsi, nLen, nAbs, nMax2, nMin2, nInt, nTup, items, iAny, aAll, Lz.iZip, aLc, aTrue, aLst, aApp, iRange1, iRange2, aFor, aSl, aoNone, aoSome, vSl, wipeS, List.map_cons, List.map_nil, List.length_cons, List.length_nil, List.replicate_zero, List.replicate_succ, List.cons_append, List.nil_append, List.append_nil, List.getElem?_cons_zero, List.getElem?_cons_succ, List.set_cons_zero, List.set_cons_succ, Nat.sub_self, Nat.zero_add, Nat.reduceAdd, Nat.reduceSub, Bool.not_true, Bool.not_false, hp, ixN0]
    exact ⟨_, Sub.refl, hA _ (Int.emod_nonneg _ (by omega)) (Int.emod_lt_of_pos _ (by omega)) _ _⟩
  | false =>
    simp only []
    refine ⟨.inl (.inr ⟨by decide, by decide⟩), by decide, .inl (.inr ⟨by decide, by decide⟩), by decide, ?_⟩
    simp only [gSb, aSeq, aNext, aDrop, aRet, aRetN, aIfS, aNever, aBrk, aCnt, aAsg, gNm, gTp, gCn, gNl, aTest, aAndT, aOrT, aNotT, aAndV, aOrV, aNotV, aOp, aUn, aN, aCall, aCons, aNil, aVar, aC, aIf, aTup, aChain, endsOf, aStart, vI0, vI, vLt, vLe, vGt, vGe, vSub, vAdd, vMul, vDiv, vMod, vAnd, vShr, vPow, vNeg, vEqF, vNeF, flatEq, vIsN, vNotN, vB2, Lz.isNon, vIx, vIn, nIsi, nLen, nAbs, nMax2, nMin2, nInt, nTup, items, iAny, aAll, Lz.iZip, aLc, aTrue, aLst, aApp, iRange1, iRange2, aFor, aSl, aoNone, aoSome, vSl, wipeS, List.map_cons, List.map_nil, List.length_cons, List.length_nil, List.replicate_zero, List.replicate_succ, List.cons_append, List.nil_append, List.append_nil, List.getElem?_cons_zero, List.getElem?_cons_succ, List.set_cons_zero, List.set_cons_succ, Nat.sub_self, Nat.zero_add, Nat.reduceAdd, Nat.reduceSub, Bool.not_true, Bool.not_false, hp, ixN1]
    refine ⟨.inl (.inr ⟨by decide, by decide⟩), by omega, ?_⟩
    exact ⟨_, Sub.refl, hA _ (Int.emod_nonneg _ (by omega)) (Int.emod_lt_of_pos _ (by omega)) _ _⟩
theorem Pot.set (g : G) (p : Addr) (a b : Int) : Pot (Lz.set g p (.lst [.int a, .int b])) p := ⟨a, b, set_same⟩
theorem pot_loop {C : G → Prop} {b : AS} {D : AEnds} {g : G} (t0 : T) (ns : List Int) (hC : C g) (hD : ∀ a b a3 a4, D.nx [some t0, some (.int a), some (.int b), a3, a4] g)
    (hb : b = (aSeq (aAsg (aN nAbs (aCons (aN nInt (aCons (aVar 3) aNil)) aNil)) (gNm 4))
  (aSeq (aIfS (aAndT (aTest (aOp vEqF (aVar 1) (aC (.int 0)))) (aTest (aOp vGe (aVar 4) (aOp vPow (aC (.int 10)) (aC (.int 18)))))) (aAsg (aVar 4) (gNm 1)) aNext)
  (aAsg (aOp vMod (aN nInt (aCons (aOp vAdd (aOp vAdd (aOp vAdd (aOp vMul (aVar 2) (aC (.int 39373))) (aOp vMul (aVar 4) (aC (.int 2)))) (aN nInt (aCons (aOp vLt (aVar 3) (aC (.int 0))) aNil))) (aC (.int 83))) aNil)) (aC (.int 2147482819))) (gNm 2))))) :
    aLoop C (gNm 3) b D (ns.map T.int) [some t0, some (.int 0), some (.int 45007), none, none] g := by
  subst hb
  refine loop_by (fun rest s g2 => ∃ (ms : List Int) (a b : Int) (a3 a4 : Option T), rest = ms.map T.int ∧ s = [some t0, some (.int a), some (.int b), a3, a4] ∧ g2 = g) ?_ ?_ _ _ _ ⟨ns, 0, 45007, none, none, rfl, rfl, rfl⟩
  · rintro s g2 ⟨ms, a, b, a3, a4, hr, rfl, rfl⟩
    exact ⟨hC, hD a b a3 a4⟩
  · rintro t ts s g2 R hR ⟨ms, a, b, a3, a4, hr, rfl, rfl⟩
    cases ms with
    | nil => cases hr
    | cons x ms =>
      obtain ⟨rfl, rfl⟩ := List.cons.inj hr
      refine ⟨hC, ?_⟩
      simp only [aSeq, aNext, aDrop, aRet, aRetN, aIfS, aNever, aBrk, aCnt, aAsg, gNm, gTp, gCn, gNl, aTest, aAndT, aOrT, aNotT, aAndV, aOrV, aNotV, aOp, aUn, aN, aCall, aCons, aNil, aVar, aC, aIf, aTup, aChain, endsOf, aStart, vI0, vI, vLt, vLe, vGt, vGe, vSub, vAdd, vMul, vDiv, vMod, vAnd, vShr, vPow, vNeg, vEqF, vNeF, flatEq, vIsN, vNotN, vB2, Lz.isNon, vIx, vIn, nIsi, nLen, nAbs, nMax2, nMin2, nInt, nTup, items, iAny, aAll, Lz.iZip, aLc, aTrue, aLst, aApp, iRange1, iRange2, aFor, aSl, aoNone, aoSome, vSl, wipeS, List.map_cons, List.map_nil, List.length_cons, List.length_nil, List.replicate_zero, List.replicate_succ, List.cons_append, List.nil_append, List.append_nil, List.getElem?_cons_zero, List.getElem?_cons_succ, List.set_cons_zero, List.set_cons_succ, Nat.sub_self, Nat.zero_add, Nat.reduceAdd, Nat.reduceSub, Bool.not_true, Bool.not_false, absI_eq]
      have rest : ∀ a' : Int, R [some t0, some (.int a'), some (.int ((b * 39373 + absI x * 2 + (if decide (x < 0) = true then 1 else 0) + 83) % 2147482819)), some (.int x), some (.int (absI x))] g2 := fun a' =>
        hR _ _ ⟨ms, a', _, _, _, rfl, rfl, rfl⟩
      have mul : CMulB b 39373 ∧ CMulB (absI x) 2 := ⟨.inl (.inr ⟨by decide, by decide⟩), .inl (.inr ⟨by decide, by decide⟩)⟩
      cases hd : decide (a = 0) with
      | true =>
        simp only []
        refine ⟨⟨by decide, by decide, by decide⟩, ?_⟩
        split
        · exact ⟨mul.1, mul.2, by decide, rest _⟩
        · exact ⟨mul.1, mul.2, by decide, rest _⟩
      | false =>
        simp only []
        exact ⟨mul.1, mul.2, by decide, rest _⟩
theorem pf__law_pot (ts g A B) (h : sp__law_pot ts g A B) : r__law_pot ad (endsOf A) (aStart N__law_pot ts) g := by
  obtain ⟨t, ns, rfl, ht, hA⟩ := h
  have nx : ∀ a b a3 a4, aRet (aLst (aCons (aVar 1) (aCons (aVar 2) aNil))) (endsOf A) [some t, some (.int a), some (.int b), a3, a4] g := fun a b a3 a4 => by
    simp only [aSeq, aNext, aDrop, aRet, aRetN, aIfS, aNever, aBrk, aCnt, aAsg, gNm, gTp, gCn, gNl, aTest, aAndT, aOrT, aNotT, aAndV, aOrV, aNotV, aOp, aUn, aN, aCall, aCons, aNil, aVar, aC, aIf, aTup, aChain, endsOf, aStart, vI0, vI, vLt, vLe, vGt, vGe, vSub, vAdd, vMul, vDiv, vMod, vAnd, vShr, vPow, vNeg, vEqF, vNeF, flatEq, vIsN, vNotN, vB2, Lz.isNon, vIx, vIn, nIsi, nLen, nAbs, nMax2, nMin2, nInt, nTup, items, iAny, aAll, Lz.iZip, aLc, aTrue, aLst, aApp, iRange1, iRange2, aFor, aSl, aoNone, aoSome, vSl, wipeS, List.map_cons, List.map_nil, List.length_cons, List.length_nil, List.replicate_zero, List.replicate_succ, List.cons_append, List.nil_append, List.append_nil, List.getElem?_cons_zero, List.getElem?_cons_succ, List.set_cons_zero, List.set_cons_succ, Nat.sub_self, Nat.zero_add, Nat.reduceAdd, Nat.reduceSub, Bool.not_true, Bool.not_false]
    exact ⟨sz (by decide), fun p hp => ⟨_, Sub.refl, hA p hp a b⟩⟩
  rcases ht with rfl | ⟨q, rfl, hq⟩
  · exact pot_loop _ ns trivial nx rfl
  · show (match g q with
      | some (.lst ts) => _
      | none => False)
    rw [hq]
    exact pot_loop _ ns hq nx rfl
theorem pf__law_worth (ts g A B) (h : sp__law_worth ts g A B) : r__law_worth ad (endsOf A) (aStart N__law_worth ts) g := by
  obtain ⟨p, wide, rfl, hp, h1, h2, hA⟩ := h
  simp only [r__law_worth, aSeq, aNext, aDrop, aRet, aRetN, aIfS, aNever, aBrk, aCnt, aAsg, gNm, gTp, gCn, gNl, aTest, aAndT, aOrT, aNotT, aAndV, aOrV, aNotV, aOp, aUn, aN, aCall, aCons, aNil, aVar, aC, aIf, aTup, aChain, endsOf, aStart, vI0, vI, vLt, vLe, vGt, vGe, vSub, vAdd, vMul, vDiv, vMod, vAnd, vShr, vPow, vNeg, vEqF, vNeF, flatEq, vIsN, vNotN, vB2, Lz.isNon, vIx, vIn, nIsi, nLen, nAbs, nMax2, nMin2, nInt, nTup, items, iAny, aAll, Lz.iZip, aLc, aTrue, aLst, aApp, iRange1, iRange2, aFor, aSl, aoNone, aoSome, vSl, wipeS, List.map_cons, List.map_nil, List.length_cons, List.length_nil, List.replicate_zero, List.replicate_succ, List.cons_append, List.nil_append, List.append_nil, List.getElem?_cons_zero, List.getElem?_cons_succ, List.set_cons_zero, List.set_cons_succ, Nat.sub_self, Nat.zero_add, Nat.reduceAdd, Nat.reduceSub, Bool.not_true, Bool.not_false]
  refine ⟨p, 60, rfl, hp, by decide, by decide, fun r h3 h4 a b => ?_⟩
  simp only [aSeq, aNext, aDrop, aRet, aRetN, aIfS, aNever, aBrk, aCnt, aAsg, gNm, gTp, gCn, gNl, aTest, aAndT, aOrT, aNotT, aAndV, aOrV, aNotV, aOp, aUn, aN, aCall, aCons, aNil, aVar, aC, aIf, aTup, aChain, endsOf, aStart, vI0, vI, vLt, vLe, vGt, vGe, vSub, vAdd, vMul, vDiv, vMod, vAnd, vShr, vPow, vNeg, vEqF, vNeF, flatEq, vIsN, vNotN, vB2, Lz.isNon, vIx, vIn, nIsi, nLen, nAbs, nMax2, nMin2, nInt, nTup, items, iAny, aAll, Lz.iZip, aLc, aTrue, aLst, aApp, iRange1, iRange2, aFor, aSl, aoNone, aoSome, vSl, wipeS, List.map_cons, List.map_nil, List.length_cons, List.length_nil, List.replicate_zero, List.replicate_succ, List.cons_append, List.nil_append, List.append_nil, List.getElem?_cons_zero, List.getElem?_cons_succ, List.set_cons_zero, List.set_cons_succ, Nat.sub_self, Nat.zero_add, Nat.reduceAdd, Nat.reduceSub, Bool.not_true, Bool.not_false]
  cases hd : decide (r = 0) with
  | true =>
    simp only []
    refine ⟨p, 2, rfl, Pot.set _ _ _ _, by decide, by decide, fun r2 h5 h6 a2 b2 => ⟨.inl (.inl ⟨by decide, by decide⟩), ?_⟩⟩
    rw [set_set]
    exact ⟨_, Sub.refl, hA _ ⟨by omega, by omega⟩ _ _⟩
  | false =>
    simp only []
    refine ⟨.inl (.inl ⟨by decide, by decide⟩), p, _, rfl, Pot.set _ _ _ _, by omega, by omega, fun r2 h5 h6 a2 b2 => ?_⟩
    rw [set_set]
    exact ⟨_, Sub.refl, hA _ ⟨by omega, by omega⟩ _ _⟩
theorem pf__law_halfup (ts g A B) (h : sp__law_halfup ts g A B) : r__law_halfup ad (endsOf A) (aStart N__law_halfup ts) g := by
  obtain ⟨n, m, rfl, h1, h2, hA⟩ := h
  simp only [r__law_halfup, aSeq, aNext, aDrop, aRet, aRetN, aIfS, aNever, aBrk, aCnt, aAsg, gNm, gTp, gCn, gNl, aTest, aAndT, aOrT, aNotT, aAndV, aOrV, aNotV, aOp, aUn, aN, aCall, aCons, aNil, aVar, aC, aIf, aTup, aChain, endsOf, aStart, vI0, vI, vLt, vLe, vGt, vGe, vSub, vAdd, vMul, vDiv, vMod, vAnd, vShr, vPow, vNeg, vEqF, vNeF, flatEq, vIsN, vNotN, vB2, Lz.isNon, vIx, vIn, nIsi, nLen, nAbs, nMax2, nMin2, nInt, nTup, items, iAny, aAll, Lz.iZip, aLc, aTrue, aLst, aApp, iRange1, iRange2, aFor, aSl, aoNone, aoSome, vSl, wipeS, List.map_cons, List.map_nil, List.length_cons, List.length_nil, List.replicate_zero, List.replicate_succ, List.cons_append, List.nil_append, List.append_nil, List.getElem?_cons_zero, List.getElem?_cons_succ, List.set_cons_zero, List.set_cons_succ, Nat.sub_self, Nat.zero_add, Nat.reduceAdd, Nat.reduceSub, Bool.not_true, Bool.not_false]
  refine ⟨.inl (.inl ⟨by decide, by decide⟩), .inl (.inl ⟨by decide, by decide⟩), ⟨by omega, ?_⟩, g, Sub.refl, hA⟩
  exact Nat.lt_of_lt_of_le ((Nat.log2_lt (k := 64) (by omega)).mpr (by omega)) (by decide)
theorem pf__law_many (ts g A B) (h : sp__law_many ts g A B) : r__law_many ad (endsOf A) (aStart N__law_many ts) g := by
  obtain ⟨p, rfl, hp, hA⟩ := h
  simp only [r__law_many, aSeq, aNext, aDrop, aRet, aRetN, aIfS, aNever, aBrk, aCnt, aAsg, gNm, gTp, gCn, gNl, aTest, aAndT, aOrT, aNotT, aAndV, aOrV, aNotV, aOp, aUn, aN, aCall, aCons, aNil, aVar, aC, aIf, aTup, aChain, endsOf, aStart, vI0, vI, vLt, vLe, vGt, vGe, vSub, vAdd, vMul, vDiv, vMod, vAnd, vShr, vPow, vNeg, vEqF, vNeF, flatEq, vIsN, vNotN, vB2, Lz.isNon, vIx, vIn, nIsi, nLen, nAbs, nMax2, nMin2, nInt, nTup, items, iAny, aAll, Lz.iZip, aLc, aTrue, aLst, aApp, iRange1, iRange2, aFor, aSl, aoNone, aoSome, vSl, wipeS, List.map_cons, List.map_nil, List.length_cons, List.length_nil, List.replicate_zero, List.replicate_succ, List.cons_append, List.nil_append, List.append_nil, List.getElem?_cons_zero, List.getElem?_cons_succ, List.set_cons_zero, List.set_cons_succ, Nat.sub_self, Nat.zero_add, Nat.reduceAdd, Nat.reduceSub, Bool.not_true, Bool.not_false]
  refine ⟨p, 10, rfl, hp, by decide, by decide, fun r h3 h4 a b => ?_⟩
  simp only [aSeq, aNext, aDrop, aRet, aRetN, aIfS, aNever, aBrk, aCnt, aAsg, gNm, gTp, gCn, gNl, aTest, aAndT, aOrT, aNotT, aAndV, aOrV, aNotV, aOp, aUn, aN, aCall, aCons, aNil, aVar, aC, aIf, aTup, aChain, endsOf, aStart, vI0, vI, vLt, vLe, vGt, vGe, vSub, vAdd, vMul, vDiv, vMod, vAnd, vShr, vPow, vNeg, vEqF, vNeF, flatEq, vIsN, vNotN, vB2, Lz.isNon, vIx, vIn, nIsi, nLen, nAbs, nMax2, nMin2, nInt, nTup, items, iAny, aAll, Lz.iZip, aLc, aTrue, aLst, aApp, iRange1, iRange2, aFor, aSl, aoNone, aoSome, vSl, wipeS, List.map_cons, List.map_nil, List.length_cons, List.length_nil, List.replicate_zero, List.replicate_succ, List.cons_append, List.nil_append, List.append_nil, List.getElem?_cons_zero, List.getElem?_cons_succ, List.set_cons_zero, List.set_cons_succ, Nat.sub_self, Nat.zero_add, Nat.reduceAdd, Nat.reduceSub, Bool.not_true, Bool.not_false]
  have fin : ∀ (m : Nat) (a2 b2 : Int), 1 ≤ m → m ≤ 128 → ∃ g', Lz.Sub g' (Lz.set (Lz.set g p (.lst [.int a, .int b])) p (.lst [.int a2, .int b2])) ∧ A (.int m) g' := fun m a2 b2 q1 q2 => by
    rw [set_set]
    exact ⟨_, Sub.refl, hA m q1 q2 _ _⟩
  cases hd : decide (r = 0) with
  | true =>
    simp only []
    refine ⟨sz (by decide), p, 3, rfl, Pot.set _ _ _ _, by decide, by decide, fun r2 h5 h6 a2 b2 => ?_⟩
    have : r2 = 0 ∨ r2 = 1 ∨ r2 = 2 := by omega
    rcases this with rfl | rfl | rfl
    · exact fin 16 a2 b2 (by decide) (by decide)
    · exact fin 128 a2 b2 (by decide) (by decide)
    · exact fin 128 a2 b2 (by decide) (by decide)
  | false =>
    simp only []
    cases hd2 : decide (r < 4) with
    | true =>
      simp only []
      refine ⟨sz (by decide), p, 4, rfl, Pot.set _ _ _ _, by decide, by decide, fun r2 h5 h6 a2 b2 => ?_⟩
      have : r2 = 0 ∨ r2 = 1 ∨ r2 = 2 ∨ r2 = 3 := by omega
      rcases this with rfl | rfl | rfl | rfl
      · exact fin 1 a2 b2 (by decide) (by decide)
      · exact fin 2 a2 b2 (by decide) (by decide)
      · exact fin 4 a2 b2 (by decide) (by decide)
      · exact fin 8 a2 b2 (by decide) (by decide)
    | false =>
      simp only []
      refine ⟨p, 7, rfl, Pot.set _ _ _ _, by decide, by decide, fun r2 h5 h6 a2 b2 => ?_⟩
      have := fin (1 + r2.toNat) a2 b2 (by omega) (by omega)
      rw [show ((1 + r2.toNat : Nat) : Int) = 1 + r2 by omega] at this
      exact this
theorem pf__law_from_start (ts g A B) (h : sp__law_from_start ts g A B) : r__law_from_start ad (endsOf A) (aStart N__law_from_start ts) g := by
  obtain ⟨k, xs, rfl, hk, hx, hl, hA⟩ := h
  have hw := Knd.wd_le hk
  simp only [r__law_from_start, aSeq, aNext, aDrop, aRet, aRetN, aIfS, aNever, aBrk, aCnt, aAsg, gNm, gTp, gCn, gNl, aTest, aAndT, aOrT, aNotT, aAndV, aOrV, aNotV, aOp, aUn, aN, aCall, aCons, aNil, aVar, aC, aIf, aTup, aChain, endsOf, aStart, vI0, vI, vLt, vLe, vGt, vGe, vSub, vAdd, vMul, vDiv, vMod, vAnd, vShr, vPow, vNeg, vEqF, vNeF, flatEq, vIsN, vNotN, vB2, Lz.isNon, vIx, vIn, nIsi, nLen, nAbs, nMax2, nMin2, nInt, nTup, items, iAny, aAll, Lz.iZip, aLc, aTrue, aLst, aApp, iRange1, iRange2, aFor, aSl, aoNone, aoSome, vSl, wipeS, List.map_cons, List.map_nil, List.length_cons, List.length_nil, List.replicate_zero, List.replicate_succ, List.cons_append, List.nil_append, List.append_nil, List.getElem?_cons_zero, List.getElem?_cons_succ, List.set_cons_zero, List.set_cons_succ, Nat.sub_self, Nat.zero_add, Nat.reduceAdd, Nat.reduceSub, Bool.not_true, Bool.not_false]
  refine ⟨k, rfl, hk, ?_⟩
  simp only [aSeq, aNext, aDrop, aRet, aRetN, aIfS, aNever, aBrk, aCnt, aAsg, gNm, gTp, gCn, gNl, aTest, aAndT, aOrT, aNotT, aAndV, aOrV, aNotV, aOp, aUn, aN, aCall, aCons, aNil, aVar, aC, aIf, aTup, aChain, endsOf, aStart, vI0, vI, vLt, vLe, vGt, vGe, vSub, vAdd, vMul, vDiv, vMod, vAnd, vShr, vPow, vNeg, vEqF, vNeF, flatEq, vIsN, vNotN, vB2, Lz.isNon, vIx, vIn, nIsi, nLen, nAbs, nMax2, nMin2, nInt, nTup, items, iAny, aAll, Lz.iZip, aLc, aTrue, aLst, aApp, iRange1, iRange2, aFor, aSl, aoNone, aoSome, vSl, wipeS, List.map_cons, List.map_nil, List.length_cons, List.length_nil, List.replicate_zero, List.replicate_succ, List.cons_append, List.nil_append, List.append_nil, List.getElem?_cons_zero, List.getElem?_cons_succ, List.set_cons_zero, List.set_cons_succ, Nat.sub_self, Nat.zero_add, Nat.reduceAdd, Nat.reduceSub, Bool.not_true, Bool.not_false, iT, List.length_map]
  refine ⟨sz (by decide), k, _, xs, rfl, hk, ⟨by rw [List.length_replicate]; omega, fun x hx => ?_, fun _ x hx => ?_⟩, hx, hl, g, Sub.refl, hA⟩
  · rw [List.eq_of_mem_replicate hx]; exact ⟨by decide, by decide⟩
  · rw [List.eq_of_mem_replicate hx]; exact Int.le_refl _
theorem pf_same (n : Nat) (spr : ASp) (hr : ∀ m, n = m + 1 → spr = sp_same m) (ts g A B) (h : sp_same n ts g A B) : r__law_same ad spr (endsOf A) (aStart N__law_same ts) g := by
  obtain ⟨t, rfl, ht, hA⟩ := h
  have int : ∀ i : Int, t = .int i → r__law_same ad spr (endsOf A) (aStart N__law_same [t, t]) g := fun i e => by
    subst e
    simp only [r__law_same, aSeq, aNext, aDrop, aRet, aRetN, aIfS, aNever, aBrk, aCnt, aAsg, gNm, gTp, gCn, gNl, aTest, aAndT, aOrT, aNotT, aAndV, aOrV, aNotV, aOp, aUn, aN, aCall, aCons, aNil, aVar, aC, aIf, aTup, aChain, endsOf, aStart, vI0, vI, vLt, vLe, vGt, vGe, vSub, vAdd, vMul, vDiv, vMod, vAnd, vShr, vPow, vNeg, vEqF, vNeF, flatEq, vIsN, vNotN, vB2, Lz.isNon, vIx, vIn, nIsi, nLen, nAbs, nMax2, nMin2, nInt, nTup, items, iAny, aAll, Lz.iZip, aLc, aTrue, aLst, aApp, iRange1, iRange2, aFor, aSl, aoNone, aoSome, vSl, wipeS, List.map_cons, List.map_nil, List.length_cons, List.length_nil, List.replicate_zero, List.replicate_succ, List.cons_append, List.nil_append, List.append_nil, List.getElem?_cons_zero, List.getElem?_cons_succ, List.set_cons_zero, List.set_cons_succ, Nat.sub_self, Nat.zero_add, Nat.reduceAdd, Nat.reduceSub, Bool.not_true, Bool.not_false, tyName, show isTab "int" "bool" = some false from rfl, show isTab "int" "int" = some true from rfl, show isTab "tuple" "bool" = some false from rfl, show isTab "tuple" "int" = some false from rfl, show isTab "tuple" "str" = some false from rfl, show isTab "tuple" "list" = some false from rfl, show isTab "tuple" "tuple" = some true from rfl]
    simp only [decide_true]
    exact ⟨g, Sub.refl, hA⟩
  cases n with
  | zero =>
    obtain ⟨i, e⟩ := ht
    exact int i e
  | succ n =>
    rcases ht with ⟨i, e⟩ | ⟨us, rfl, hl, hu⟩
    · exact int i e
    · rw [hr n rfl]
      simp only [r__law_same, aSeq, aNext, aDrop, aRet, aRetN, aIfS, aNever, aBrk, aCnt, aAsg, gNm, gTp, gCn, gNl, aTest, aAndT, aOrT, aNotT, aAndV, aOrV, aNotV, aOp, aUn, aN, aCall, aCons, aNil, aVar, aC, aIf, aTup, aChain, endsOf, aStart, vI0, vI, vLt, vLe, vGt, vGe, vSub, vAdd, vMul, vDiv, vMod, vAnd, vShr, vPow, vNeg, vEqF, vNeF, flatEq, vIsN, vNotN, vB2, Lz.isNon, vIx, vIn, nIsi, nLen, nAbs, nMax2, nMin2, nInt, nTup, items, iAny, aAll, Lz.iZip, aLc, aTrue, aLst, aApp, iRange1, iRange2, aFor, aSl, aoNone, aoSome, vSl, wipeS, List.map_cons, List.map_nil, List.length_cons, List.length_nil, List.replicate_zero, List.replicate_succ, List.cons_append, List.nil_append, List.append_nil, List.getElem?_cons_zero, List.getElem?_cons_succ, List.set_cons_zero, List.set_cons_succ, Nat.sub_self, Nat.zero_add, Nat.reduceAdd, Nat.reduceSub, Bool.not_true, Bool.not_false, tyName, show isTab "int" "bool" = some false from rfl, show isTab "int" "int" = some true from rfl, show isTab "tuple" "bool" = some false from rfl, show isTab "tuple" "int" = some false from rfl, show isTab "tuple" "str" = some false from rfl, show isTab "tuple" "list" = some false from rfl, show isTab "tuple" "tuple" = some true from rfl]
      simp only [decide_true, aSeq, aNext, aDrop, aRet, aRetN, aIfS, aNever, aBrk, aCnt, aAsg, gNm, gTp, gCn, gNl, aTest, aAndT, aOrT, aNotT, aAndV, aOrV, aNotV, aOp, aUn, aN, aCall, aCons, aNil, aVar, aC, aIf, aTup, aChain, endsOf, aStart, vI0, vI, vLt, vLe, vGt, vGe, vSub, vAdd, vMul, vDiv, vMod, vAnd, vShr, vPow, vNeg, vEqF, vNeF, flatEq, vIsN, vNotN, vB2, Lz.isNon, vIx, vIn, nIsi, nLen, nAbs, nMax2, nMin2, nInt, nTup, items, iAny, aAll, Lz.iZip, aLc, aTrue, aLst, aApp, iRange1, iRange2, aFor, aSl, aoNone, aoSome, vSl, wipeS, List.map_cons, List.map_nil, List.length_cons, List.length_nil, List.replicate_zero, List.replicate_succ, List.cons_append, List.nil_append, List.append_nil, List.getElem?_cons_zero, List.getElem?_cons_succ, List.set_cons_zero, List.set_cons_succ, Nat.sub_self, Nat.zero_add, Nat.reduceAdd, Nat.reduceSub, Bool.not_true, Bool.not_false]
      refine ⟨⟨by omega, by omega⟩, ?_⟩
      refine loop_by (fun rest s g2 => ∃ (i : Nat) (a2 : Option T), rest = Lz.rangeT i (us.length - i) ∧ i ≤ us.length ∧ s = [some (.tup us), some (.tup us), a2] ∧ g2 = g) ?_ ?_ _ _ _ ⟨0, none, by rw [Nat.sub_zero]; simp, Nat.zero_le _, rfl, rfl⟩
      · rintro s g2 ⟨i, a2, hr2, hi, rfl, rfl⟩
        refine ⟨trivial, ?_⟩
        simp only [aSeq, aNext, aDrop, aRet, aRetN, aIfS, aNever, aBrk, aCnt, aAsg, gNm, gTp, gCn, gNl, aTest, aAndT, aOrT, aNotT, aAndV, aOrV, aNotV, aOp, aUn, aN, aCall, aCons, aNil, aVar, aC, aIf, aTup, aChain, endsOf, aStart, vI0, vI, vLt, vLe, vGt, vGe, vSub, vAdd, vMul, vDiv, vMod, vAnd, vShr, vPow, vNeg, vEqF, vNeF, flatEq, vIsN, vNotN, vB2, Lz.isNon, vIx, vIn, nIsi, nLen, nAbs, nMax2, nMin2, nInt, nTup, items, iAny, aAll, Lz.iZip, aLc, aTrue, aLst, aApp, iRange1, iRange2, aFor, aSl, aoNone, aoSome, vSl, wipeS, List.map_cons, List.map_nil, List.length_cons, List.length_nil, List.replicate_zero, List.replicate_succ, List.cons_append, List.nil_append, List.append_nil, List.getElem?_cons_zero, List.getElem?_cons_succ, List.set_cons_zero, List.set_cons_succ, Nat.sub_self, Nat.zero_add, Nat.reduceAdd, Nat.reduceSub, Bool.not_true, Bool.not_false]
        exact ⟨g2, Sub.refl, hA⟩
      · rintro t ts s g2 R hR ⟨i, a2, hr2, hi, rfl, rfl⟩
        have hi2 : i < us.length := by
          have := congrArg List.length hr2
          simp [Lz.rangeT] at this
          omega
        rw [show us.length - i = (us.length - (i + 1)) + 1 by omega, rangeT_succ] at hr2
        obtain ⟨rfl, rfl⟩ := List.cons.inj hr2
        refine ⟨trivial, ?_⟩
        simp only [aSeq, aNext, aDrop, aRet, aRetN, aIfS, aNever, aBrk, aCnt, aAsg, gNm, gTp, gCn, gNl, aTest, aAndT, aOrT, aNotT, aAndV, aOrV, aNotV, aOp, aUn, aN, aCall, aCons, aNil, aVar, aC, aIf, aTup, aChain, endsOf, aStart, vI0, vI, vLt, vLe, vGt, vGe, vSub, vAdd, vMul, vDiv, vMod, vAnd, vShr, vPow, vNeg, vEqF, vNeF, flatEq, vIsN, vNotN, vB2, Lz.isNon, vIx, vIn, nIsi, nLen, nAbs, nMax2, nMin2, nInt, nTup, items, iAny, aAll, Lz.iZip, aLc, aTrue, aLst, aApp, iRange1, iRange2, aFor, aSl, aoNone, aoSome, vSl, wipeS, List.map_cons, List.map_nil, List.length_cons, List.length_nil, List.replicate_zero, List.replicate_succ, List.cons_append, List.nil_append, List.append_nil, List.getElem?_cons_zero, List.getElem?_cons_succ, List.set_cons_zero, List.set_cons_succ, Nat.sub_self, Nat.zero_add, Nat.reduceAdd, Nat.reduceSub, Bool.not_true, Bool.not_false, atI_nat hi2]
        refine ⟨us[i], rfl, hu _ (List.getElem_mem hi2), ?_⟩
        exact hR _ _ ⟨i + 1, _, rfl, hi2, rfl, rfl⟩
theorem minL_is {ns : List Int} {m : Int} (h : m ∈ ns) (hm : ∀ y, y ∈ ns → m ≤ y) : m = minL ns := by
  have mem : ∀ (xs : List Int) (x : Int), xs.foldl min x ∈ x :: xs := by
    intro xs
    induction xs with
    | nil => intro x; exact List.mem_singleton.mpr rfl
    | cons y ys ih =>
      intro x
      rw [List.foldl_cons]
      rcases List.mem_cons.mp (ih (min x y)) with h | h
      · rw [h]
        by_cases hh : x ≤ y
        · rw [Int.min_eq_left hh]; simp
        · rw [Int.min_eq_right (by omega)]; simp
      · exact List.mem_cons_of_mem _ (List.mem_cons_of_mem _ h)
  have le : ∀ (xs : List Int) (x : Int), ∀ y ∈ x :: xs, xs.foldl min x ≤ y := by
    intro xs
    induction xs with
    | nil => intro x y h; rw [List.mem_singleton.mp h]; exact Int.le_refl _
    | cons z zs ih =>
      intro x y h
      rw [List.foldl_cons]
      have h0 := ih (min x z) (min x z) List.mem_cons_self
      rcases List.mem_cons.mp h with rfl | h
      · exact Int.le_trans h0 (Int.min_le_left _ _)
      · rcases List.mem_cons.mp h with rfl | h
        · exact Int.le_trans h0 (Int.min_le_right _ _)
        · exact ih (min x z) y (List.mem_cons_of_mem _ h)
  cases ns with
  | nil => cases h
  | cons x xs => exact Int.le_antisymm (hm _ (mem xs x)) (le xs x m h)
theorem cutT_from (ts : List T) (n : Nat) (h : n ≤ ts.length) : cutT ts (some (n : Int)) none = ts.drop n := by
  unfold cutT
  rw [HT.sIx_none, HT.sIx_nat, Nat.min_eq_left h, List.take_of_length_le (by rw [List.length_drop]; omega)]
theorem cutT_mid (ts : List T) (n m : Nat) (h : n ≤ ts.length) (h2 : m ≤ ts.length) : cutT ts (some (n : Int)) (some (m : Int)) = (ts.drop n).take (m - n) := by
  unfold cutT
  rw [HT.sIx_nat, HT.sIx_nat, Nat.min_eq_left h, Nat.min_eq_left h2]
theorem max_said {ns : List Int} {P : Int → Prop} (h : P (maxL ns)) (h0 : 0 < ns.length) : 0 < ns.length ∧ ∀ m, m ∈ ns → (∀ y, y ∈ ns → if true = true then y ≤ m else m ≤ y) → P m :=
  ⟨h0, fun m hm hb => by rw [maxL_is hm fun y hy => by simpa using hb y hy]; exact h⟩
theorem min_said {ns : List Int} {P : Int → Prop} (h : P (minL ns)) (h0 : 0 < ns.length) : 0 < ns.length ∧ ∀ m, m ∈ ns → (∀ y, y ∈ ns → if false = true then y ≤ m else m ≤ y) → P m :=
  ⟨h0, fun m hm hb => by rw [minL_is hm fun y hy => by simpa using hb y hy]; exact h⟩
theorem pf__law_windows (ts g A B) (h : sp__law_windows ts g A B) : r__law_windows ad (endsOf A) (aStart N__law_windows ts) g := by
  obtain ⟨pk, m, pe, ps, e, s, rfl, he, hs, hm, h1, h2, hA⟩ := h
  simp only [r__law_windows, aSeq, aNext, aDrop, aRet, aRetN, aIfS, aNever, aBrk, aCnt, aAsg, gNm, gTp, gCn, gNl, aTest, aAndT, aOrT, aNotT, aAndV, aOrV, aNotV, aOp, aUn, aN, aCall, aCons, aNil, aVar, aC, aIf, aTup, aChain, endsOf, aStart, vI0, vI, vLt, vLe, vGt, vGe, vSub, vAdd, vMul, vDiv, vMod, vAnd, vShr, vPow, vNeg, vEqF, vNeF, flatEq, vIsN, vNotN, vB2, Lz.isNon, vIx, vIn, nIsi, nLen, nAbs, nMax2, nMin2, nInt, nTup, items, iAny, aAll, Lz.iZip, aLc, aTrue, aLst, aApp, iRange1, iRange2, aFor, aSl, aoNone, aoSome, vSl, wipeS, List.map_cons, List.map_nil, List.length_cons, List.length_nil, List.replicate_zero, List.replicate_succ, List.cons_append, List.nil_append, List.append_nil, List.getElem?_cons_zero, List.getElem?_cons_succ, List.set_cons_zero, List.set_cons_succ, Nat.sub_self, Nat.zero_add, Nat.reduceAdd, Nat.reduceSub, Bool.not_true, Bool.not_false, he, hs]
  refine ⟨sz (by rw [List.length_map, List.length_map]; omega), fun q hq => ⟨sz (by decide), fun p hp => ?_⟩⟩
  have hqps : q ≠ ps := fun e => by rw [e, hs] at hq; cases hq
  have hqpe : q ≠ pe := fun e => by rw [e, he] at hq; cases hq
  have hpq : p ≠ q := fun e => by rw [e, set_same] at hp; cases hp
  rw [set_ne hpq] at hp
  have hpps : p ≠ ps := fun e => by rw [e, hs] at hp; cases hp
  have hppe : p ≠ pe := fun e => by rw [e, he] at hp; cases hp
  simp only [aSeq, aNext, aDrop, aRet, aRetN, aIfS, aNever, aBrk, aCnt, aAsg, gNm, gTp, gCn, gNl, aTest, aAndT, aOrT, aNotT, aAndV, aOrV, aNotV, aOp, aUn, aN, aCall, aCons, aNil, aVar, aC, aIf, aTup, aChain, endsOf, aStart, vI0, vI, vLt, vLe, vGt, vGe, vSub, vAdd, vMul, vDiv, vMod, vAnd, vShr, vPow, vNeg, vEqF, vNeF, flatEq, vIsN, vNotN, vB2, Lz.isNon, vIx, vIn, nIsi, nLen, nAbs, nMax2, nMin2, nInt, nTup, items, iAny, aAll, Lz.iZip, aLc, aTrue, aLst, aApp, iRange1, iRange2, aFor, aSl, aoNone, aoSome, vSl, wipeS, List.map_cons, List.map_nil, List.length_cons, List.length_nil, List.replicate_zero, List.replicate_succ, List.cons_append, List.nil_append, List.append_nil, List.getElem?_cons_zero, List.getElem?_cons_succ, List.set_cons_zero, List.set_cons_succ, Nat.sub_self, Nat.zero_add, Nat.reduceAdd, Nat.reduceSub, Bool.not_true, Bool.not_false, set_ne (Ne.symm hqps), set_ne (Ne.symm hpps), hs, List.length_map]
  refine ⟨⟨by omega, by omega⟩, ?_⟩
  have hrow : e.map T.int ++ s.map T.int = (e ++ s).map T.int := List.map_append.symm
  have hlen : (e ++ s).length = e.length + s.length := List.length_append
  rw [hrow]
  have kpk : decide (kn pk = "peak") = pk := by cases pk <;> rfl
  refine loop_by (fun rest st g2 => ∃ (i : Nat) (a6 a7 : Option T), rest = Lz.rangeT i (s.length - i) ∧ i ≤ s.length ∧
      st = [some (.str (kn pk)), some (.int m), some (.ref pe), some (.ref ps), some (.ref q), some (.ref p), a6, a7, none, none] ∧
      Lz.Sub (Lz.set (Lz.set g q (.lst ((e ++ s).map T.int))) p (.lst (((List.range i).map (winAt pk m (e ++ s))).map T.int))) g2) ?_ ?_ _ _ _ ⟨0, none, none, by rw [Nat.sub_zero]; simp, Nat.zero_le _, rfl, Sub.refl⟩
  · rintro st g2 ⟨i, a6, a7, hr, hi, rfl, hsub⟩
    have hi2 : i = s.length := by
      have := congrArg List.length hr
      simp [Lz.rangeT] at this
      omega
    subst hi2
    have gq : g2 q = some (.lst ((e ++ s).map T.int)) := hsub q _ (by rw [set_ne (Ne.symm hpq)]; exact set_same)
    have gp : g2 p = some (.lst ((lawTold pk m (e ++ s) s.length).map T.int)) := hsub p _ set_same
    have back : Lz.Sub g g2 := ((Sub.set Sub.refl hq).trans (Sub.set Sub.refl (by rw [set_ne hpq]; exact hp))).trans hsub
    refine ⟨trivial, ?_⟩
    simp only [aSeq, aNext, aDrop, aRet, aRetN, aIfS, aNever, aBrk, aCnt, aAsg, gNm, gTp, gCn, gNl, aTest, aAndT, aOrT, aNotT, aAndV, aOrV, aNotV, aOp, aUn, aN, aCall, aCons, aNil, aVar, aC, aIf, aTup, aChain, endsOf, aStart, vI0, vI, vLt, vLe, vGt, vGe, vSub, vAdd, vMul, vDiv, vMod, vAnd, vShr, vPow, vNeg, vEqF, vNeF, flatEq, vIsN, vNotN, vB2, Lz.isNon, vIx, vIn, nIsi, nLen, nAbs, nMax2, nMin2, nInt, nTup, items, iAny, aAll, Lz.iZip, aLc, aTrue, aLst, aApp, iRange1, iRange2, aFor, aSl, aoNone, aoSome, vSl, wipeS, List.map_cons, List.map_nil, List.length_cons, List.length_nil, List.replicate_zero, List.replicate_succ, List.cons_append, List.nil_append, List.append_nil, List.getElem?_cons_zero, List.getElem?_cons_succ, List.set_cons_zero, List.set_cons_succ, Nat.sub_self, Nat.zero_add, Nat.reduceAdd, Nat.reduceSub, Bool.not_true, Bool.not_false, gq, List.length_map]
    have ecut : cutT ((e ++ s).map T.int) (some (((e ++ s).length : Int) + 1 - m)) none = ((e ++ s).drop ((e ++ s).length + 1 - m)).map T.int := by
      rw [show (((e ++ s).length : Int) + 1 - m) = (((e ++ s).length + 1 - m : Nat) : Int) by rw [hlen]; omega, cutT_from _ _ (by rw [List.length_map, hlen]; omega), List.map_drop]
    rw [ecut]
    intro d hd
    have hdp : d ≠ p := fun z => by rw [z, gp] at hd; cases hd
    rw [kpk]
    cases pk with
    | true =>
      simp only [aSeq, aNext, aDrop, aRet, aRetN, aIfS, aNever, aBrk, aCnt, aAsg, gNm, gTp, gCn, gNl, aTest, aAndT, aOrT, aNotT, aAndV, aOrV, aNotV, aOp, aUn, aN, aCall, aCons, aNil, aVar, aC, aIf, aTup, aChain, endsOf, aStart, vI0, vI, vLt, vLe, vGt, vGe, vSub, vAdd, vMul, vDiv, vMod, vAnd, vShr, vPow, vNeg, vEqF, vNeF, flatEq, vIsN, vNotN, vB2, Lz.isNon, vIx, vIn, nIsi, nLen, nAbs, nMax2, nMin2, nInt, nTup, items, iAny, aAll, Lz.iZip, aLc, aTrue, aLst, aApp, iRange1, iRange2, aFor, aSl, aoNone, aoSome, vSl, wipeS, List.map_cons, List.map_nil, List.length_cons, List.length_nil, List.replicate_zero, List.replicate_succ, List.cons_append, List.nil_append, List.append_nil, List.getElem?_cons_zero, List.getElem?_cons_succ, List.set_cons_zero, List.set_cons_succ, Nat.sub_self, Nat.zero_add, Nat.reduceAdd, Nat.reduceSub, Bool.not_true, Bool.not_false, set_same]
      intro c hc
      have hcd : c ≠ d := fun z => by rw [z, set_same] at hc; cases hc
      rw [set_ne hcd] at hc
      have hcp : c ≠ p := fun z => by rw [z, gp] at hc; cases hc
      refine lc_map (fun t => match t with | .int x => .int (absI x) | _ => .non) (fun acc => by rw [set_ne (Ne.symm hcd)]; exact set_same) _ [] ?_ (fun t ht acc A' hA' => ?_) ?_
      · rw [List.length_nil, Nat.zero_add, List.length_map, List.length_drop]
        exact sz (by omega)
      · obtain ⟨x, hx, rfl⟩ := List.mem_map.mp ht
        simp only [aSeq, aNext, aDrop, aRet, aRetN, aIfS, aNever, aBrk, aCnt, aAsg, gNm, gTp, gCn, gNl, aTest, aAndT, aOrT, aNotT, aAndV, aOrV, aNotV, aOp, aUn, aN, aCall, aCons, aNil, aVar, aC, aIf, aTup, aChain, endsOf, aStart, vI0, vI, vLt, vLe, vGt, vGe, vSub, vAdd, vMul, vDiv, vMod, vAnd, vShr, vPow, vNeg, vEqF, vNeF, flatEq, vIsN, vNotN, vB2, Lz.isNon, vIx, vIn, nIsi, nLen, nAbs, nMax2, nMin2, nInt, nTup, items, iAny, aAll, Lz.iZip, aLc, aTrue, aLst, aApp, iRange1, iRange2, aFor, aSl, aoNone, aoSome, vSl, wipeS, List.map_cons, List.map_nil, List.length_cons, List.length_nil, List.replicate_zero, List.replicate_succ, List.cons_append, List.nil_append, List.append_nil, List.getElem?_cons_zero, List.getElem?_cons_succ, List.set_cons_zero, List.set_cons_succ, Nat.sub_self, Nat.zero_add, Nat.reduceAdd, Nat.reduceSub, Bool.not_true, Bool.not_false, absI_eq]
        exact hA'
      · have e1 : (((e ++ s).drop ((e ++ s).length + 1 - m)).map T.int).map (fun t => match t with | .int x => .int (absI x) | _ => .non) = (((e ++ s).drop ((e ++ s).length + 1 - m)).map absI).map T.int := by
          rw [List.map_map, List.map_map]
          rfl
        rw [List.nil_append, e1]
        simp only [aSeq, aNext, aDrop, aRet, aRetN, aIfS, aNever, aBrk, aCnt, aAsg, gNm, gTp, gCn, gNl, aTest, aAndT, aOrT, aNotT, aAndV, aOrV, aNotV, aOp, aUn, aN, aCall, aCons, aNil, aVar, aC, aIf, aTup, aChain, endsOf, aStart, vI0, vI, vLt, vLe, vGt, vGe, vSub, vAdd, vMul, vDiv, vMod, vAnd, vShr, vPow, vNeg, vEqF, vNeF, flatEq, vIsN, vNotN, vB2, Lz.isNon, vIx, vIn, nIsi, nLen, nAbs, nMax2, nMin2, nInt, nTup, items, iAny, aAll, Lz.iZip, aLc, aTrue, aLst, aApp, iRange1, iRange2, aFor, aSl, aoNone, aoSome, vSl, wipeS, List.map_cons, List.map_nil, List.length_cons, List.length_nil, List.replicate_zero, List.replicate_succ, List.cons_append, List.nil_append, List.append_nil, List.getElem?_cons_zero, List.getElem?_cons_succ, List.set_cons_zero, List.set_cons_succ, Nat.sub_self, Nat.zero_add, Nat.reduceAdd, Nat.reduceSub, Bool.not_true, Bool.not_false, aTupRev, set_same, set_ne (Ne.symm hcp), set_ne (Ne.symm hdp), gp]
        refine ⟨sz (by decide), g, (sub_new (sub_new back hd) (by rw [set_ne hcd]; exact hc)), ?_⟩
        rw [← List.map_reverse]
        exact hA
    | false =>
      simp only [aSeq, aNext, aDrop, aRet, aRetN, aIfS, aNever, aBrk, aCnt, aAsg, gNm, gTp, gCn, gNl, aTest, aAndT, aOrT, aNotT, aAndV, aOrV, aNotV, aOp, aUn, aN, aCall, aCons, aNil, aVar, aC, aIf, aTup, aChain, endsOf, aStart, vI0, vI, vLt, vLe, vGt, vGe, vSub, vAdd, vMul, vDiv, vMod, vAnd, vShr, vPow, vNeg, vEqF, vNeF, flatEq, vIsN, vNotN, vB2, Lz.isNon, vIx, vIn, nIsi, nLen, nAbs, nMax2, nMin2, nInt, nTup, items, iAny, aAll, Lz.iZip, aLc, aTrue, aLst, aApp, iRange1, iRange2, aFor, aSl, aoNone, aoSome, vSl, wipeS, List.map_cons, List.map_nil, List.length_cons, List.length_nil, List.replicate_zero, List.replicate_succ, List.cons_append, List.nil_append, List.append_nil, List.getElem?_cons_zero, List.getElem?_cons_succ, List.set_cons_zero, List.set_cons_succ, Nat.sub_self, Nat.zero_add, Nat.reduceAdd, Nat.reduceSub, Bool.not_true, Bool.not_false, aTupRev, set_same, set_ne (Ne.symm hdp), gp]
      refine ⟨sz (by decide), g, sub_new back hd, ?_⟩
      rw [← List.map_reverse]
      exact hA
  · rintro t ts st g2 R hR ⟨i, a6, a7, hr, hi, rfl, hsub⟩
    have hi2 : i < s.length := by
      have := congrArg List.length hr
      simp [Lz.rangeT] at this
      omega
    rw [show s.length - i = (s.length - (i + 1)) + 1 by omega, rangeT_succ] at hr
    obtain ⟨rfl, rfl⟩ := List.cons.inj hr
    have gq : g2 q = some (.lst ((e ++ s).map T.int)) := hsub q _ (by rw [set_ne (Ne.symm hpq)]; exact set_same)
    have gp : g2 p = some (.lst (((List.range i).map (winAt pk m (e ++ s))).map T.int)) := hsub p _ set_same
    have back : Lz.Sub g g2 := ((Sub.set Sub.refl hq).trans (Sub.set Sub.refl (by rw [set_ne hpq]; exact hp))).trans hsub
    have ge : g2 pe = some (.lst (e.map T.int)) := back pe _ he
    refine ⟨trivial, ?_⟩
    simp only [aSeq, aNext, aDrop, aRet, aRetN, aIfS, aNever, aBrk, aCnt, aAsg, gNm, gTp, gCn, gNl, aTest, aAndT, aOrT, aNotT, aAndV, aOrV, aNotV, aOp, aUn, aN, aCall, aCons, aNil, aVar, aC, aIf, aTup, aChain, endsOf, aStart, vI0, vI, vLt, vLe, vGt, vGe, vSub, vAdd, vMul, vDiv, vMod, vAnd, vShr, vPow, vNeg, vEqF, vNeF, flatEq, vIsN, vNotN, vB2, Lz.isNon, vIx, vIn, nIsi, nLen, nAbs, nMax2, nMin2, nInt, nTup, items, iAny, aAll, Lz.iZip, aLc, aTrue, aLst, aApp, iRange1, iRange2, aFor, aSl, aoNone, aoSome, vSl, wipeS, List.map_cons, List.map_nil, List.length_cons, List.length_nil, List.replicate_zero, List.replicate_succ, List.cons_append, List.nil_append, List.append_nil, List.getElem?_cons_zero, List.getElem?_cons_succ, List.set_cons_zero, List.set_cons_succ, Nat.sub_self, Nat.zero_add, Nat.reduceAdd, Nat.reduceSub, Bool.not_true, Bool.not_false, gq, ge, List.length_map]
    have ecut : cutT ((e ++ s).map T.int) (some ((e.length : Int) + i + 1 - m)) (some ((e.length : Int) + i + 1)) = (((e ++ s).drop i).take m).map T.int := by
      rw [show ((e.length : Int) + i + 1 - m) = ((i : Nat) : Int) by omega, show ((e.length : Int) + i + 1) = ((i + m : Nat) : Int) by omega, cutT_mid _ _ _ (by rw [List.length_map, hlen]; omega) (by rw [List.length_map, hlen]; omega), show i + m - i = m by omega, List.map_take, List.map_drop]
    rw [ecut]
    intro d hd
    have hdp : d ≠ p := fun z => by rw [z, gp] at hd; cases hd
    have wl : 0 < (((e ++ s).drop i).take m).length := by rw [List.length_take, List.length_drop, hlen]; omega
    rw [kpk]
    have step : ∀ w : Int, w = winAt pk m (e ++ s) i → R [some (.str (kn pk)), some (.int m), some (.ref pe), some (.ref ps), some (.ref q), some (.ref p), some (.int i), some (.ref d), none, none]
        (Lz.set (Lz.set g2 d (.lst ((((e ++ s).drop i).take m).map T.int))) p (.lst (((List.range i).map (winAt pk m (e ++ s))).map T.int ++ [T.int w]))) := fun w hw => by
      refine hR _ _ ⟨i + 1, _, _, rfl, hi2, rfl, ?_⟩
      have el : ((List.range (i + 1)).map (winAt pk m (e ++ s))).map T.int = ((List.range i).map (winAt pk m (e ++ s))).map T.int ++ [T.int (winAt pk m (e ++ s) i)] := by rw [List.range_succ]; simp
      rw [hw, el]
      have z := sub_put (p := p) (o := .lst (((List.range i).map (winAt pk m (e ++ s))).map T.int ++ [T.int (winAt pk m (e ++ s) i)])) (sub_new (p := d) (o := .lst ((((e ++ s).drop i).take m).map T.int)) hsub hd)
      rw [set_set] at z
      exact z
    have ln : ((List.range i).map (winAt pk m (e ++ s))).length < sizeLine := by
      rw [List.length_map, List.length_range]
      exact Nat.lt_of_lt_of_le (show i < 1000000 by omega) (sz (Nat.le_refl _))
    cases pk with
    | true =>
      simp only [aSeq, aNext, aDrop, aRet, aRetN, aIfS, aNever, aBrk, aCnt, aAsg, gNm, gTp, gCn, gNl, aTest, aAndT, aOrT, aNotT, aAndV, aOrV, aNotV, aOp, aUn, aN, aCall, aCons, aNil, aVar, aC, aIf, aTup, aChain, endsOf, aStart, vI0, vI, vLt, vLe, vGt, vGe, vSub, vAdd, vMul, vDiv, vMod, vAnd, vShr, vPow, vNeg, vEqF, vNeF, flatEq, vIsN, vNotN, vB2, Lz.isNon, vIx, vIn, nIsi, nLen, nAbs, nMax2, nMin2, nInt, nTup, items, iAny, aAll, Lz.iZip, aLc, aTrue, aLst, aApp, iRange1, iRange2, aFor, aSl, aoNone, aoSome, vSl, wipeS, List.map_cons, List.map_nil, List.length_cons, List.length_nil, List.replicate_zero, List.replicate_succ, List.cons_append, List.nil_append, List.append_nil, List.getElem?_cons_zero, List.getElem?_cons_succ, List.set_cons_zero, List.set_cons_succ, Nat.sub_self, Nat.zero_add, Nat.reduceAdd, Nat.reduceSub, Bool.not_true, Bool.not_false, nBest, set_ne (Ne.symm hdp), gp, set_same, intsOf_map]
      refine max_said (P := fun M => _) ?_ wl
      refine min_said (P := fun M => _) ?_ wl
      refine ⟨by rw [List.length_map]; exact ln, ?_⟩
      exact step _ rfl
    | false =>
      simp only [aSeq, aNext, aDrop, aRet, aRetN, aIfS, aNever, aBrk, aCnt, aAsg, gNm, gTp, gCn, gNl, aTest, aAndT, aOrT, aNotT, aAndV, aOrV, aNotV, aOp, aUn, aN, aCall, aCons, aNil, aVar, aC, aIf, aTup, aChain, endsOf, aStart, vI0, vI, vLt, vLe, vGt, vGe, vSub, vAdd, vMul, vDiv, vMod, vAnd, vShr, vPow, vNeg, vEqF, vNeF, flatEq, vIsN, vNotN, vB2, Lz.isNon, vIx, vIn, nIsi, nLen, nAbs, nMax2, nMin2, nInt, nTup, items, iAny, aAll, Lz.iZip, aLc, aTrue, aLst, aApp, iRange1, iRange2, aFor, aSl, aoNone, aoSome, vSl, wipeS, List.map_cons, List.map_nil, List.length_cons, List.length_nil, List.replicate_zero, List.replicate_succ, List.cons_append, List.nil_append, List.append_nil, List.getElem?_cons_zero, List.getElem?_cons_succ, List.set_cons_zero, List.set_cons_succ, Nat.sub_self, Nat.zero_add, Nat.reduceAdd, Nat.reduceSub, Bool.not_true, Bool.not_false, nSum, set_ne (Ne.symm hdp), gp, set_same, intsOf_map]
      refine ⟨_, _, rfl, by omega, by omega, ?_⟩
      simp only [aSeq, aNext, aDrop, aRet, aRetN, aIfS, aNever, aBrk, aCnt, aAsg, gNm, gTp, gCn, gNl, aTest, aAndT, aOrT, aNotT, aAndV, aOrV, aNotV, aOp, aUn, aN, aCall, aCons, aNil, aVar, aC, aIf, aTup, aChain, endsOf, aStart, vI0, vI, vLt, vLe, vGt, vGe, vSub, vAdd, vMul, vDiv, vMod, vAnd, vShr, vPow, vNeg, vEqF, vNeF, flatEq, vIsN, vNotN, vB2, Lz.isNon, vIx, vIn, nIsi, nLen, nAbs, nMax2, nMin2, nInt, nTup, items, iAny, aAll, Lz.iZip, aLc, aTrue, aLst, aApp, iRange1, iRange2, aFor, aSl, aoNone, aoSome, vSl, wipeS, List.map_cons, List.map_nil, List.length_cons, List.length_nil, List.replicate_zero, List.replicate_succ, List.cons_append, List.nil_append, List.append_nil, List.getElem?_cons_zero, List.getElem?_cons_succ, List.set_cons_zero, List.set_cons_succ, Nat.sub_self, Nat.zero_add, Nat.reduceAdd, Nat.reduceSub, Bool.not_true, Bool.not_false, set_ne (Ne.symm hdp), gp]
      refine ⟨by rw [List.length_map]; exact ln, ?_⟩
      exact step _ rfl
end Tx

set_option Elab.async false
set_option linter.all false
set_option maxRecDepth 100000
set_option maxHeartbeats 4000000
namespace Tx
open PySem PySem.Spec PyProof.Rows L2 Lz
/-! ### the mathematics of windows -/
def kOf (pk : Bool) (m : Nat) : Knd := if pk then .peak m else .mean m
def keptOf (pk : Bool) (e : List Int) : List Int := (if pk then e.map absI else e).reverse
theorem maxL_mem {ns : List Int} (h : ns ≠ []) : maxL ns ∈ ns := by
  cases ns with
  | nil => exact absurd rfl h
  | cons x xs => exact foldl_max_mem xs x
theorem maxL_ge {ns : List Int} {y : Int} (h : y ∈ ns) : y ≤ maxL ns := by
  cases ns with
  | nil => cases h
  | cons x xs => exact foldl_max_ge xs x y h
theorem minL_neg : ∀ (ns : List Int), minL ns = -(maxL (ns.map fun x => -x)) := by
  have go : ∀ (xs : List Int) (x : Int), xs.foldl min x = -((xs.map fun x => -x).foldl max (-x)) := by
    intro xs
    induction xs with
    | nil => intro x; simp
    | cons y ys ih =>
      intro x
      rw [List.foldl_cons, List.map_cons, List.foldl_cons, ih]
      congr 2
      omega
  intro ns
  cases ns with
  | nil => rfl
  | cons x xs => exact go xs x
theorem minL_mem {ns : List Int} (h : ns ≠ []) : minL ns ∈ ns := by
  rw [minL_neg]
  have := maxL_mem (ns := ns.map fun x => -x) (by simpa using h)
  obtain ⟨x, hx, e⟩ := List.mem_map.mp this
  rw [← e, Int.neg_neg]
  exact hx
theorem minL_le {ns : List Int} {y : Int} (h : y ∈ ns) : minL ns ≤ y := by
  rw [minL_neg]
  have := maxL_ge (ns := ns.map fun x => -x) (y := -y) (List.mem_map.mpr ⟨y, h, rfl⟩)
  omega
theorem absI_nn (x : Int) : 0 ≤ absI x := by unfold absI; split <;> omega
theorem absI_ge (x : Int) : x ≤ absI x ∧ -x ≤ absI x := by unfold absI; split <;> omega
theorem absI_of_nn {x : Int} (h : 0 ≤ x) : absI x = x := by unfold absI; split <;> omega
/-- the greatest abs of a window, said in the two ways -/
theorem peak_win {w ns : List Int} (hw : w ≠ []) (h : ∀ z, z ∈ ns ↔ ∃ y ∈ w, absI y = z) : (if -(minL w) > maxL w then -(minL w) else maxL w) = maxL ns := by
  have a1 := maxL_mem hw
  have a2 := minL_mem hw
  have a3 : minL w ≤ maxL w := minL_le a1
  refine maxL_is ?_ fun z hz => ?_
  · rw [h]
    by_cases hh : -(minL w) > maxL w
    · rw [if_pos hh]
      refine ⟨_, a2, ?_⟩
      unfold absI
      rw [if_pos (by omega)]
    · rw [if_neg hh]
      refine ⟨_, a1, ?_⟩
      unfold absI
      rw [if_neg (by omega)]
  · obtain ⟨y, hy, rfl⟩ := (h z).mp hz
    have b1 := maxL_ge hy
    have b2 := minL_le hy
    unfold absI
    split <;> split <;> omega
theorem sum_rev (xs : List Int) : xs.reverse.sum = xs.sum := by
  induction xs with
  | nil => rfl
  | cons x xs ih => rw [List.reverse_cons, List.sum_append, ih]; simp; omega
theorem keep_of (pk : Bool) (e : List Int) (x : Int) (m : Nat) : (kOf pk m).keep (keptOf pk e) x = keptOf pk ((e ++ [x]).drop 1) := by
  have key : ∀ (l : List Int) (y : Int), (y :: l.reverse).take l.length = ((l ++ [y]).drop 1).reverse := fun l y => by
    have e1 : y :: l.reverse = (l ++ [y]).reverse := by simp
    rw [e1, List.take_reverse]
    congr 2
    simp
  cases pk with
  | true =>
    show (absI x :: (e.map absI).reverse).take ((e.map absI).reverse).length = (((e ++ [x]).drop 1).map absI).reverse
    rw [List.length_reverse, key, List.map_drop, List.map_append]
    rfl
  | false =>
    show (x :: e.reverse).take e.reverse.length = ((e ++ [x]).drop 1).reverse
    rw [List.length_reverse, key]
theorem tell_of (pk : Bool) (e xs : List Int) (x : Int) (m : Nat) (hm : e.length + 1 = m) : (kOf pk m).tell (keptOf pk e) x = winAt pk m (e ++ x :: xs) 0 := by
  have hw : ((e ++ x :: xs).drop 0).take m = e ++ [x] := by
    rw [List.drop_zero, show e ++ x :: xs = (e ++ [x]) ++ xs by simp, List.take_left' (by simp [hm])]
  unfold winAt
  rw [hw]
  cases pk with
  | true =>
    simp only [if_true]
    rw [peak_win (w := e ++ [x]) (ns := absI x :: (e.map absI).reverse) (by simp)]
    · rfl
    · intro z
      simp only [List.mem_cons, List.mem_reverse, List.mem_map, List.mem_append, List.not_mem_nil, or_false]
      constructor
      · rintro (rfl | ⟨y, hy, rfl⟩)
        · exact ⟨x, .inr rfl, rfl⟩
        · exact ⟨y, .inl hy, rfl⟩
      · rintro ⟨y, hy | rfl, rfl⟩
        · exact .inr ⟨y, hy, rfl⟩
        · exact .inl rfl
  | false =>
    simp only [Bool.false_eq_true, if_false]
    show halfup (x + e.reverse.sum) m = _
    rw [sum_rev, List.sum_append]
    congr 1
    simp
    omega
theorem run_law (pk : Bool) (m : Nat) : ∀ (s e : List Int), e.length + 1 = m → (kOf pk m).run (keptOf pk e) s = (lawLast pk m (e ++ s), lawTold pk m (e ++ s) s.length)
  | [], e, hm => by
    unfold Knd.run lawLast lawTold keptOf
    rw [List.append_nil, show e.length + 1 - m = 0 by omega]
    rfl
  | x :: xs, e, hm => by
    have hl : ((e ++ [x]).drop 1).length + 1 = m := by rw [List.length_drop, List.length_append, List.length_singleton]; omega
    have ih := run_law pk m xs ((e ++ [x]).drop 1) hl
    have hrow : (e ++ [x]).drop 1 ++ xs = (e ++ x :: xs).drop 1 := by
      rw [show e ++ x :: xs = (e ++ [x]) ++ xs by simp]
      exact (List.drop_append_of_le_length (by rw [List.length_append, List.length_singleton]; omega)).symm
    unfold Knd.run
    rw [keep_of, ih, tell_of pk e xs x m hm, hrow]
    refine Prod.ext ?_ ?_
    · show lawLast pk m ((e ++ x :: xs).drop 1) = lawLast pk m (e ++ x :: xs)
      unfold lawLast
      rw [List.drop_drop, List.length_drop]
      have : 1 + ((e ++ x :: xs).length - 1 + 1 - m) = (e ++ x :: xs).length + 1 - m := by
        rw [List.length_append, List.length_cons]; omega
      rw [this]
    · show winAt pk m (e ++ x :: xs) 0 :: lawTold pk m ((e ++ x :: xs).drop 1) xs.length = lawTold pk m (e ++ x :: xs) (x :: xs).length
      unfold lawTold
      rw [List.length_cons, List.range_succ_eq_map, List.map_cons, List.map_map]
      congr 1
      apply List.map_congr_left
      intro k _
      simp only [Function.comp, winAt, List.drop_drop]
      rw [show 1 + k = k.succ by omega]
theorem run_append (k : Knd) : ∀ (a b kept : List Int), k.run kept (a ++ b) = ((k.run (k.run kept a).1 b).1, (k.run kept a).2 ++ (k.run (k.run kept a).1 b).2)
  | [], b, kept => rfl
  | x :: a, b, kept => by
    have ih := run_append k a b (k.keep kept x)
    have e : k.run kept (x :: a ++ b) = ((k.run (k.keep kept x) (a ++ b)).1, k.tell kept x :: (k.run (k.keep kept x) (a ++ b)).2) := rfl
    rw [e, ih]
    rfl
theorem run_len (k : Knd) : ∀ (xs kept : List Int), (k.run kept xs).2.length = xs.length
  | [], kept => rfl
  | x :: xs, kept => by
    show (_ :: _).length = _
    rw [List.length_cons, run_len k xs, List.length_cons]
theorem run_st {k : Knd} (hk : k.ok) : ∀ (xs kept : List Int), k.st kept → (∀ x ∈ xs, Wo x) → k.st (k.run kept xs).1
  | [], kept, hs, hx => hs
  | x :: xs, kept, hs, hx => run_st hk xs _ (Knd.st_keep hk hs (hx x List.mem_cons_self)) fun y hy => hx y (List.mem_cons_of_mem _ hy)
theorem st_of (pk : Bool) {m : Nat} {e : List Int} (hm : e.length + 1 = m) (he : ∀ x ∈ e, Wo x) : (kOf pk m).st (keptOf pk e) := by
  cases pk with
  | true =>
    refine ⟨by show ((e.map absI).reverse).length + 1 = m; rw [List.length_reverse, List.length_map]; exact hm, fun x hx => ?_, fun _ x hx => ?_⟩
    · have hx : x ∈ (e.map absI).reverse := hx
      rw [List.mem_reverse] at hx
      obtain ⟨y, hy, rfl⟩ := List.mem_map.mp hx
      exact (he y hy).abs
    · have hx : x ∈ (e.map absI).reverse := hx
      rw [List.mem_reverse] at hx
      obtain ⟨y, hy, rfl⟩ := List.mem_map.mp hx
      exact absI_nn y
  | false =>
    refine ⟨by show (e.reverse).length + 1 = m; rw [List.length_reverse]; exact hm, fun x hx => ?_, fun h => by cases h⟩
    have hx : x ∈ e.reverse := hx
    rw [List.mem_reverse] at hx
    exact he x hx
theorem kept_zero (pk : Bool) (n : Nat) : keptOf pk (List.replicate n 0) = List.replicate n 0 := by
  cases pk with
  | true =>
    show ((List.replicate n 0).map absI).reverse = _
    rw [List.map_replicate, List.reverse_replicate]
    rfl
  | false => exact List.reverse_replicate
/-! ### a peak of a peak -/
theorem maxL_cons_le {a : Int} {l : List Int} {z : Int} (h : ∀ y ∈ a :: l, y ≤ z) : maxL (a :: l) ≤ z := h _ (maxL_mem (by simp))
theorem take_take' (l : List Int) (n : Nat) : (l.take n).length = min n l.length := List.length_take
/-- the windows of m of R, the first n - 1 -/
def wins (m n : Nat) (R : List Int) : List Int := (List.range (n - 1)).map fun j => maxL ((R.drop j).take m)
theorem peak_peak {m n : Nat} (hm : 1 ≤ m) (hn : 1 ≤ n) : ∀ (s R : List Int), R.length + 2 = m + n → (∀ x ∈ R, 0 ≤ x) →
    ((Knd.peak n).run (wins m n R) ((Knd.peak m).run (R.take (m - 1)) s).2).2 = ((Knd.peak (m + n - 1)).run R s).2
  | [], R, hR, h0 => rfl
  | x :: s, R, hR, h0 => by
    have hk1 : (Knd.peak m).keep (R.take (m - 1)) x = ((absI x :: R).take R.length).take (m - 1) := by
      show (absI x :: R.take (m - 1)).take (R.take (m - 1)).length = _
      rw [List.take_take, List.length_take]
      cases m with
      | zero => omega
      | succ m =>
        rw [Nat.add_sub_cancel, Nat.min_eq_left (show m ≤ R.length by omega)]
        cases m with
        | zero => rfl
        | succ m => rw [List.take_succ_cons, List.take_succ_cons, List.take_take, Nat.min_eq_left (by omega)]
    have ht : (Knd.peak m).tell (R.take (m - 1)) x = maxL (((absI x :: R).drop 0).take m) := by
      show maxL (absI x :: R.take (m - 1)) = _
      rw [List.drop_zero]
      cases m with
      | zero => omega
      | succ m => rw [List.take_succ_cons, Nat.add_sub_cancel]
    have nn : 0 ≤ maxL (((absI x :: R).drop 0).take m) := by
      rw [← ht]
      exact Int.le_trans (absI_nn x) (maxL_ge List.mem_cons_self)
    have hwl : (wins m n R).length = n - 1 := by unfold wins; rw [List.length_map, List.length_range]
    have shift : ∀ j, maxL (((absI x :: R).drop (j + 1)).take m) = maxL ((R.drop j).take m) := fun j => by rw [List.drop_succ_cons]
    have hk2 : (Knd.peak n).keep (wins m n R) (maxL (((absI x :: R).drop 0).take m)) = wins m n ((absI x :: R).take R.length) := by
      show (absI _ :: wins m n R).take (wins m n R).length = _
      rw [absI_of_nn nn, hwl]
      have full : (maxL (((absI x :: R).drop 0).take m)) :: wins m n R = (List.range (n - 1 + 1)).map fun j => maxL (((absI x :: R).drop j).take m) := by
        rw [List.range_succ_eq_map, List.map_cons, List.map_map]
        rfl
      rw [full, ← List.map_take, List.take_range, Nat.min_eq_left (by omega)]
      unfold wins
      apply List.map_congr_left
      intro j hj
      have hj := List.mem_range.mp hj
      rw [List.drop_take, List.take_take, Nat.min_eq_left (by omega)]
    have ht2 : (Knd.peak n).tell (wins m n R) (maxL (((absI x :: R).drop 0).take m)) = (Knd.peak (m + n - 1)).tell R x := by
      show maxL (absI _ :: wins m n R) = maxL (absI x :: R)
      rw [absI_of_nn nn]
      have full : (maxL (((absI x :: R).drop 0).take m)) :: wins m n R = (List.range (n - 1 + 1)).map fun j => maxL (((absI x :: R).drop j).take m) := by
        rw [List.range_succ_eq_map, List.map_cons, List.map_map]
        rfl
      rw [full]
      have ne : ∀ j, j < n - 1 + 1 → ((absI x :: R).drop j).take m ≠ [] := fun j hj e => by
        have := congrArg List.length e
        rw [List.length_take, List.length_drop, List.length_cons, List.length_nil] at this
        omega
      refine maxL_is ?_ fun y hy => ?_
      · have := maxL_mem (ns := (List.range (n - 1 + 1)).map fun j => maxL (((absI x :: R).drop j).take m)) (by simp)
        obtain ⟨j, hj, e⟩ := List.mem_map.mp this
        rw [← e]
        exact List.mem_of_mem_drop (List.mem_of_mem_take (maxL_mem (ne j (List.mem_range.mp hj))))
      · obtain ⟨i, hi, rfl⟩ := List.getElem_of_mem hy
        rw [List.length_cons] at hi
        have hj : min i (n - 1) < n - 1 + 1 := by omega
        have a : maxL (((absI x :: R).drop (min i (n - 1))).take m) ≤ maxL ((List.range (n - 1 + 1)).map fun j => maxL (((absI x :: R).drop j).take m)) :=
          maxL_ge (List.mem_map.mpr ⟨_, List.mem_range.mpr hj, rfl⟩)
        refine Int.le_trans (maxL_ge ?_) a
        have hlen : i - min i (n - 1) < (((absI x :: R).drop (min i (n - 1))).take m).length := by
          rw [List.length_take, List.length_drop, List.length_cons]
          omega
        have e : (((absI x :: R).drop (min i (n - 1))).take m)[i - min i (n - 1)] = (absI x :: R)[i] := by
          rw [List.getElem_take, List.getElem_drop]
          congr 1
          omega
        rw [← e]
        exact List.getElem_mem hlen
    have hR' : ((absI x :: R).take R.length).length + 2 = m + n := by rw [List.length_take, List.length_cons]; omega
    have h0' : ∀ y ∈ (absI x :: R).take R.length, 0 ≤ y := fun y hy => by
      rcases List.mem_cons.mp (List.mem_of_mem_take hy) with rfl | h
      · exact absI_nn x
      · exact h0 y h
    have ih := peak_peak hm hn s _ hR' h0'
    show (Knd.peak n).tell (wins m n R) ((Knd.peak m).tell (R.take (m - 1)) x) :: ((Knd.peak n).run ((Knd.peak n).keep (wins m n R) ((Knd.peak m).tell (R.take (m - 1)) x)) ((Knd.peak m).run ((Knd.peak m).keep (R.take (m - 1)) x) s).2).2 = _
    rw [ht, hk1, hk2, ht2, ih]
    rfl
theorem maxL_zeros : ∀ (n : Nat), 0 < n → maxL (List.replicate n 0) = 0 := fun n h => by
  have : maxL (List.replicate n 0) ∈ List.replicate n (0 : Int) := maxL_mem (by intro e; have := congrArg List.length e; simp at this; omega)
  exact List.eq_of_mem_replicate this
theorem peak_peak0 {m n : Nat} (hm : 1 ≤ m) (hn : 1 ≤ n) (s : List Int) :
    ((Knd.peak n).run (List.replicate (n - 1) 0) ((Knd.peak m).run (List.replicate (m - 1) 0) s).2).2 = ((Knd.peak (m + n - 1)).run (List.replicate (m + n - 1 - 1) 0) s).2 := by
  have h := peak_peak hm hn s (List.replicate (m + n - 2) 0) (by rw [List.length_replicate]; omega) fun x hx => by rw [List.eq_of_mem_replicate hx]; exact Int.le_refl _
  have e1 : wins m n (List.replicate (m + n - 2) 0) = List.replicate (n - 1) 0 := by
    unfold wins
    apply List.ext_getElem
    · simp
    · intro i h1 h2
      rw [List.length_map, List.length_range] at h1
      rw [List.getElem_map, List.getElem_range, List.drop_replicate, List.take_replicate, maxL_zeros _ (by omega), List.getElem_replicate]
  rw [e1, List.take_replicate, Nat.min_eq_left (show m - 1 ≤ m + n - 2 by omega)] at h
  rw [h, show m + n - 1 - 1 = m + n - 2 by omega]
/-! ### means -/
theorem halfup_mul (c n m : Int) (hc : 0 < c) : halfup (c * n) (c * m) = halfup n m := by
  unfold halfup
  rw [show 2 * (c * n) + c * m = c * (2 * n + m) by rw [Int.mul_add, Int.mul_left_comm], show 2 * (c * m) = c * (2 * m) by rw [Int.mul_left_comm]]
  exact Int.mul_ediv_mul_of_pos _ _ hc
theorem halfup_in {n m t : Int} (hm : 0 < m) (h1 : -(t * m) ≤ n) (h2 : n ≤ t * m) : -t ≤ halfup n m ∧ halfup n m ≤ t := by
  unfold halfup
  constructor
  · rw [Int.le_ediv_iff_mul_le (by omega)]
    rw [show -t * (2 * m) = 2 * (-(t * m)) by rw [Int.neg_mul, Int.mul_left_comm, Int.mul_neg]]
    omega
  · have : (2 * n + m) / (2 * m) < t + 1 := by
      rw [Int.ediv_lt_iff_lt_mul (by omega)]
      rw [show (t + 1) * (2 * m) = 2 * (t * m) + 2 * m by rw [Int.add_mul, Int.mul_left_comm, Int.one_mul]]
      omega
    omega
theorem sum_in {t : Int} : ∀ (xs : List Int), (∀ x ∈ xs, -t ≤ x ∧ x ≤ t) → -(t * xs.length) ≤ xs.sum ∧ xs.sum ≤ t * xs.length
  | [], h => by simp
  | x :: xs, h => by
    have ih := sum_in xs fun y hy => h y (List.mem_cons_of_mem _ hy)
    have h0 := h x List.mem_cons_self
    rw [List.sum_cons, List.length_cons, show t * ((xs.length + 1 : Nat) : Int) = t * xs.length + t by rw [Int.natCast_add, Int.mul_add]; simp]
    omega
theorem dot_const (c : Int) : ∀ (xs : List Int), dot (List.replicate xs.length c) xs = c * xs.sum
  | [] => by simp [dot]
  | x :: xs => by
    have ih := dot_const c xs
    unfold dot at ih ⊢
    rw [List.length_cons, List.replicate_succ, List.zipWith_cons_cons, List.sum_cons, ih, List.sum_cons, Int.mul_add]
theorem taps_mean {m : Nat} {c : Int} (hm : 1 ≤ m) (hc : 0 < c) (hcm : c * m = 4096) : ∀ (s kept : List Int), kept.length + 1 = m → (∀ x ∈ kept, Wo x) → (∀ x ∈ s, Wo x) →
    (Knd.taps (List.replicate m c)).run kept s = (Knd.mean m).run kept s
  | [], kept, hl, hk, hs => rfl
  | x :: s, kept, hl, hk, hs => by
    have hx := hs x List.mem_cons_self
    have hk' : ∀ y ∈ (x :: kept).take kept.length, Wo y := fun y hy => by
      rcases List.mem_cons.mp (List.mem_of_mem_take hy) with rfl | h
      · exact hx
      · exact hk y h
    have ih := taps_mean hm hc hcm s ((x :: kept).take kept.length) (by rw [List.length_take, List.length_cons]; omega) hk' fun y hy => hs y (List.mem_cons_of_mem _ hy)
    have ht : (Knd.taps (List.replicate m c)).tell kept x = (Knd.mean m).tell kept x := by
      show clipI (halfup (dot (List.replicate m c) (x :: kept)) 4096) = halfup (x + kept.sum) m
      have e : dot (List.replicate m c) (x :: kept) = c * (x + kept.sum) := by
        rw [← hl, show kept.length + 1 = (x :: kept).length from rfl, dot_const, List.sum_cons]
      rw [e, ← hcm, halfup_mul _ _ _ hc]
      have b := sum_in (t := 1048575) (x :: kept) fun y hy => by
        rcases List.mem_cons.mp hy with rfl | h
        · exact hx
        · exact hk y h
      rw [List.sum_cons, List.length_cons, hl] at b
      have h := halfup_in (n := x + kept.sum) (m := m) (t := 1048575) (by omega) b.1 b.2
      unfold clipI
      omega
    show ((((Knd.taps (List.replicate m c)).run ((x :: kept).take kept.length) s).1), _ :: ((Knd.taps (List.replicate m c)).run ((x :: kept).take kept.length) s).2) = _
    rw [ih, ht]
    rfl
theorem halfup_zero {m : Nat} (hm : 1 ≤ m) : halfup 0 m = 0 := by
  unfold halfup
  exact Int.ediv_eq_zero_of_lt (by omega) (by omega)
theorem mean_zeros {m : Nat} (hm : 1 ≤ m) : ∀ (n : Nat), (Knd.mean m).run (List.replicate (m - 1) 0) (List.replicate n 0) = (List.replicate (m - 1) 0, List.replicate n 0)
  | 0 => rfl
  | n + 1 => by
    have ih := mean_zeros hm n
    have e1 : (Knd.mean m).keep (List.replicate (m - 1) 0) 0 = List.replicate (m - 1) 0 := by
      show ((0 : Int) :: List.replicate (m - 1) 0).take (List.replicate (m - 1) (0 : Int)).length = _
      rw [← List.replicate_succ, List.length_replicate, List.take_replicate, Nat.min_eq_left (by omega)]
    have e2 : (Knd.mean m).tell (List.replicate (m - 1) 0) 0 = 0 := by
      show halfup (0 + (List.replicate (m - 1) (0 : Int)).sum) m = 0
      rw [show (List.replicate (m - 1) (0 : Int)).sum = 0 by simp, Int.add_zero]
      exact halfup_zero hm
    show (((Knd.mean m).run ((Knd.mean m).keep (List.replicate (m - 1) 0) 0) (List.replicate n 0)).1, (Knd.mean m).tell (List.replicate (m - 1) 0) 0 :: ((Knd.mean m).run ((Knd.mean m).keep (List.replicate (m - 1) 0) 0) (List.replicate n 0)).2) = _
    rw [e1, e2, ih]
    rfl
/-- over noughts and s, no wider than them: the window's beginning is noughts -/
theorem win_zeros (M : Nat) (s : List Int) (k : Nat) (hk : k < s.length) (hM : s.length ≤ M) : (((List.replicate (M - 1) 0 ++ s).drop k).take M) = List.replicate (M - 1 - k) 0 ++ s.take (k + 1) := by
  rw [List.drop_append, List.drop_replicate, List.length_replicate, show k - (M - 1) = 0 by omega, List.drop_zero, List.take_append, List.take_replicate, Nat.min_eq_right (by omega), List.length_replicate, show M - (M - 1 - k) = k + 1 by omega]
theorem mean_all {s : List Int} (hs : 1 ≤ s.length) : (Knd.mean s.length).run (List.replicate (s.length - 1) 0) s = ((s.drop 1).reverse, (List.range s.length).map fun k => halfup ((s.take (k + 1)).sum) s.length) := by
  have h := run_law false s.length s (List.replicate (s.length - 1) 0) (by rw [List.length_replicate]; omega)
  rw [kept_zero] at h
  have h : (Knd.mean s.length).run (List.replicate (s.length - 1) 0) s = _ := h
  rw [h]
  refine Prod.ext ?_ ?_
  · show lawLast false s.length _ = _
    unfold lawLast
    rw [List.length_append, List.length_replicate, show s.length - 1 + s.length + 1 - s.length = (s.length - 1) + 1 by omega, ← List.drop_drop, List.drop_left' (by simp)]
    rfl
  · show lawTold false s.length _ _ = _
    unfold lawTold
    apply List.map_congr_left
    intro k hk
    have hk := List.mem_range.mp hk
    unfold winAt
    rw [win_zeros _ _ _ hk (Nat.le_refl _), List.sum_append]
    simp
theorem map_abs_zeros (n : Nat) : (List.replicate n (0 : Int)).map absI = List.replicate n 0 := by rw [List.map_replicate]; rfl
theorem peak_all {s : List Int} (hs : 1 ≤ s.length) (more : Nat) : (Knd.peak (s.length + more)).run (List.replicate (s.length + more - 1) 0) s =
    (((s.map absI).drop (if more = 0 then 1 else 0)).reverse ++ List.replicate (more - 1) 0, (List.range s.length).map fun k => maxL ((s.map absI).take (k + 1))) := by
  have h := run_law true (s.length + more) s (List.replicate (s.length + more - 1) 0) (by rw [List.length_replicate]; omega)
  rw [kept_zero] at h
  have h : (Knd.peak (s.length + more)).run (List.replicate (s.length + more - 1) 0) s = _ := h
  rw [h]
  refine Prod.ext ?_ ?_
  · show lawLast true (s.length + more) _ = _
    unfold lawLast
    rw [List.length_append, List.length_replicate, show s.length + more - 1 + s.length + 1 - (s.length + more) = s.length by omega]
    simp only [if_true]
    by_cases hm : more = 0
    · subst hm
      have e : (List.replicate (s.length - 1) (0 : Int) ++ s).drop s.length = s.drop 1 := by
        rw [List.drop_append, List.drop_replicate, List.length_replicate, show s.length - 1 - s.length = 0 by omega, show s.length - (s.length - 1) = 1 by omega]; rfl
      rw [if_pos rfl, show s.length + 0 - 1 = s.length - 1 by omega, e]
      simp
    · have e : (List.replicate (s.length + more - 1) (0 : Int) ++ s).drop s.length = List.replicate (more - 1) 0 ++ s := by
        rw [List.drop_append, List.drop_replicate, List.length_replicate, show s.length + more - 1 - s.length = more - 1 by omega, show s.length - (s.length + more - 1) = 0 by omega]; rfl
      rw [if_neg hm, List.drop_zero, e, List.map_append, map_abs_zeros, List.reverse_append, List.reverse_replicate]
  · show lawTold true (s.length + more) _ _ = _
    unfold lawTold
    apply List.map_congr_left
    intro k hk
    have hk := List.mem_range.mp hk
    unfold winAt
    simp only [if_true]
    rw [win_zeros _ _ _ hk (by omega)]
    have ne : s.take (k + 1) ≠ [] := fun e => by
      have := congrArg List.length e
      rw [List.length_take, List.length_nil] at this
      omega
    rw [peak_win (ns := (List.replicate (s.length + more - 1 - k) 0 ++ s.take (k + 1)).map absI) (by simp [ne]) fun z => by simp only [List.mem_map]]
    rw [List.map_append, map_abs_zeros, ← List.map_take]
    refine (maxL_is ?_ fun y hy => ?_).symm
    · exact List.mem_append_right _ (maxL_mem (by simpa using ne))
    · rcases List.mem_append.mp hy with h | h
      · rw [List.eq_of_mem_replicate h]
        have := maxL_mem (ns := (s.take (k + 1)).map absI) (by simpa using ne)
        obtain ⟨x, _, e⟩ := List.mem_map.mp this
        rw [← e]
        exact absI_nn x
      · exact maxL_ge h
/-! ### a constant -/
theorem keep_const {n : Nat} (w : Int) : ((w :: List.replicate n w).take (List.replicate n w).length) = List.replicate n w := by
  rw [← List.replicate_succ, List.length_replicate, List.take_replicate, Nat.min_eq_left (by omega)]
theorem sum_const (n : Nat) (w : Int) : (List.replicate n w).sum = n * w := by
  induction n with
  | zero => simp
  | succ n ih => rw [List.replicate_succ, List.sum_cons, ih, Int.natCast_add, Int.add_mul]; simp; omega
theorem mean_const {m : Nat} (hm : 1 ≤ m) (w : Int) : (Knd.mean m).run (List.replicate (m - 1) w) [w, w, w] = (List.replicate (m - 1) w, [w, w, w]) := by
  have t : halfup (w + (List.replicate (m - 1) w).sum) m = w := by
    rw [sum_const, show w + ((m - 1 : Nat) : Int) * w = w * m by
      rw [show ((m - 1 : Nat) : Int) = (m : Int) - 1 by omega, Int.sub_mul, Int.mul_comm w]; omega]
    unfold halfup
    rw [show 2 * (w * m) + (m : Int) = m + w * (2 * m) by rw [Int.mul_left_comm]; omega, Int.add_mul_ediv_right _ _ (by omega), Int.ediv_eq_zero_of_lt (by omega) (by omega), Int.zero_add]
  simp only [Knd.run, Knd.keep, Knd.tell, keep_const, t]
theorem maxL_const (n : Nat) (w : Int) : maxL (w :: List.replicate n w) = w := by
  have : maxL (w :: List.replicate n w) ∈ List.replicate (n + 1) w := maxL_mem (by simp)
  exact List.eq_of_mem_replicate this
theorem absI_neg (w : Int) : absI (-w) = absI w := by unfold absI; split <;> split <;> omega
theorem peak_const {m : Nat} (w : Int) : (Knd.peak m).run (List.replicate (m - 1) (absI w)) [w, -w, w] = (List.replicate (m - 1) (absI w), [absI w, absI w, absI w]) := by
  simp only [Knd.run, Knd.keep, Knd.tell, absI_neg, keep_const, maxL_const]
end Tx

set_option Elab.async false
set_option linter.all false
set_option maxRecDepth 100000
set_option maxHeartbeats 4000000
namespace Tx
open PySem PySem.Spec PyProof.Rows L2 Lz
variable {ad : Str → Addr}
theorem sameOk_two {a b : List Int} (ha : a.length ≤ 1000) (hb : b.length ≤ 1000) : sameOk 2 (.tup [iT a, iT b]) := by
  have one : ∀ {l : List Int}, l.length ≤ 1000 → sameOk 1 (iT l) := fun {l} hl => .inr ⟨_, rfl, by rw [List.length_map]; exact hl, fun u hu => by
    obtain ⟨x, _, rfl⟩ := List.mem_map.mp hu
    exact ⟨x, rfl⟩⟩
  refine .inr ⟨_, rfl, by simp, fun u hu => ?_⟩
  rcases List.mem_cons.mp hu with rfl | hu
  · exact one ha
  · rw [List.mem_singleton.mp hu]
    exact one hb
/-- equal pairs are the same -/
theorem same_two {a b : List Int} {t : T} {g : G} {A : T → G → Prop} {B : EX → G → Prop} (e : t = .tup [iT a, iT b]) (ha : a.length ≤ 1000) (hb : b.length ≤ 1000) (h : A (.bl true) g) : sp__law_same [.tup [iT a, iT b], t] g A B :=
  ⟨_, by rw [e], sameOk_two ha hb, h⟩
theorem kOf_nm (pk : Bool) (m : Nat) : (kOf pk m).nm = kn pk := by cases pk <;> rfl
theorem kOf_knob (pk : Bool) (m : Nat) : (kOf pk m).knob = .int m := by cases pk <;> rfl
theorem kOf_ok {pk : Bool} {m : Nat} (h1 : 1 ≤ m) (h2 : m ≤ 256) : (kOf pk m).ok := by cases pk <;> exact ⟨h1, h2⟩
theorem kOf_wd (pk : Bool) (m : Nat) : (kOf pk m).wd = m := by cases pk <;> rfl
theorem lawLast_len (pk : Bool) (m : Nat) (row : List Int) : (lawLast pk m row).length ≤ row.length := by
  unfold lawLast
  rw [List.length_reverse]
  cases pk <;> simp only [Bool.false_eq_true, if_false, if_true, List.length_map, List.length_drop] <;> omega
theorem lawTold_len (pk : Bool) (m : Nat) (row : List Int) (n : Nat) : (lawTold pk m row n).length = n := by unfold lawTold; rw [List.length_map, List.length_range]
theorem Pot.sub {g g2 : G} {p : Addr} (h : Pot g p) (s : Lz.Sub g g2) : Pot g2 p := let ⟨a, b, e⟩ := h; ⟨a, b, s _ _ e⟩
theorem meter_head (rest : AS) (D : AEnds) (g : G) (pk : Bool) (m : Nat) (p pe ps : Addr) (e : List Int) (he : g pe = some (.lst (e.map T.int))) (hl : e.length ≤ 1000)
    (k : ∀ g2 a6, Lz.Sub g g2 → rest D [some (.ref p), some (.str (kn pk)), some (.int m), some (.ref pe), some (.ref ps), some (iT (keptOf pk e)), a6, none, none, none, none] g2) :
    (aSeq (aAsg (aTupRev (aVar 3)) (gNm 5)) (aSeq (aIfS (aTest (aOp vEqF (aVar 1) (aC (.str "peak")))) (aAsg (aN nTup (aCons (aLc (iAny (aVar 5)) (gNm 6) aTrue (aN nAbs (aCons (aVar 6) aNil)) [6]) aNil)) (gNm 5)) aNext) rest))
      D [some (.ref p), some (.str (kn pk)), some (.int m), some (.ref pe), some (.ref ps), none, none, none, none, none, none] g := by
  have kpk : decide (kn pk = "peak") = pk := by cases pk <;> rfl
  simp only [aSeq, aNext, aDrop, aRet, aRetN, aIfS, aNever, aBrk, aCnt, aAsg, gNm, gTp, gCn, gNl, aTest, aAndT, aOrT, aNotT, aAndV, aOrV, aNotV, aOp, aUn, aN, aCall, aCons, aNil, aVar, aC, aIf, aTup, aChain, endsOf, aStart, vI0, vI, vLt, vLe, vGt, vGe, vSub, vAdd, vMul, vDiv, vMod, vAnd, vShr, vPow, vNeg, vEqF, vNeF, flatEq, vIsN, vNotN, vB2, Lz.isNon, vIx, vIn, nIsi, nLen, nAbs, nMax2, nMin2, nInt, nTup, items, iAny, aAll, Lz.iZip, aLc, aTrue, aLst, aApp, iRange1, iRange2, aFor, aSl, aoNone, aoSome, vSl, wipeS, List.map_cons, List.map_nil, List.length_cons, List.length_nil, List.replicate_zero, List.replicate_succ, List.cons_append, List.nil_append, List.append_nil, List.getElem?_cons_zero, List.getElem?_cons_succ, List.set_cons_zero, List.set_cons_succ, Nat.sub_self, Nat.zero_add, Nat.reduceAdd, Nat.reduceSub, Bool.not_true, Bool.not_false, aTupRev, he, kpk]
  cases pk with
  | false =>
    simp only []
    have := k g none Sub.refl
    rw [show iT (keptOf false e) = .tup (e.map T.int).reverse by rw [← List.map_reverse]; rfl] at this
    exact this
  | true =>
    simp only []
    intro D2 hD2
    refine lc_map (fun t => match t with | .int x => .int (absI x) | _ => .non) (fun _ => trivial) _ [] ?_ (fun t ht acc A' hA' => ?_) ?_
    · rw [List.length_nil, Nat.zero_add, List.length_reverse, List.length_map]; exact sz (by omega)
    · rw [← List.map_reverse] at ht
      obtain ⟨x, hx, rfl⟩ := List.mem_map.mp ht
      simp only [aSeq, aNext, aDrop, aRet, aRetN, aIfS, aNever, aBrk, aCnt, aAsg, gNm, gTp, gCn, gNl, aTest, aAndT, aOrT, aNotT, aAndV, aOrV, aNotV, aOp, aUn, aN, aCall, aCons, aNil, aVar, aC, aIf, aTup, aChain, endsOf, aStart, vI0, vI, vLt, vLe, vGt, vGe, vSub, vAdd, vMul, vDiv, vMod, vAnd, vShr, vPow, vNeg, vEqF, vNeF, flatEq, vIsN, vNotN, vB2, Lz.isNon, vIx, vIn, nIsi, nLen, nAbs, nMax2, nMin2, nInt, nTup, items, iAny, aAll, Lz.iZip, aLc, aTrue, aLst, aApp, iRange1, iRange2, aFor, aSl, aoNone, aoSome, vSl, wipeS, List.map_cons, List.map_nil, List.length_cons, List.length_nil, List.replicate_zero, List.replicate_succ, List.cons_append, List.nil_append, List.append_nil, List.getElem?_cons_zero, List.getElem?_cons_succ, List.set_cons_zero, List.set_cons_succ, Nat.sub_self, Nat.zero_add, Nat.reduceAdd, Nat.reduceSub, Bool.not_true, Bool.not_false, absI_eq]
      exact hA'
    · simp only [aSeq, aNext, aDrop, aRet, aRetN, aIfS, aNever, aBrk, aCnt, aAsg, gNm, gTp, gCn, gNl, aTest, aAndT, aOrT, aNotT, aAndV, aOrV, aNotV, aOp, aUn, aN, aCall, aCons, aNil, aVar, aC, aIf, aTup, aChain, endsOf, aStart, vI0, vI, vLt, vLe, vGt, vGe, vSub, vAdd, vMul, vDiv, vMod, vAnd, vShr, vPow, vNeg, vEqF, vNeF, flatEq, vIsN, vNotN, vB2, Lz.isNon, vIx, vIn, nIsi, nLen, nAbs, nMax2, nMin2, nInt, nTup, items, iAny, aAll, Lz.iZip, aLc, aTrue, aLst, aApp, iRange1, iRange2, aFor, aSl, aoNone, aoSome, vSl, wipeS, List.map_cons, List.map_nil, List.length_cons, List.length_nil, List.replicate_zero, List.replicate_succ, List.cons_append, List.nil_append, List.append_nil, List.getElem?_cons_zero, List.getElem?_cons_succ, List.set_cons_zero, List.set_cons_succ, Nat.sub_self, Nat.zero_add, Nat.reduceAdd, Nat.reduceSub, Bool.not_true, Bool.not_false, set_same]
      have := k (Lz.set g D2 (.lst ((e.map T.int).reverse.map fun t => match t with | .int x => .int (absI x) | _ => .non))) none (sub_new Sub.refl hD2)
      rw [show iT (keptOf true e) = .tup ((e.map T.int).reverse.map fun t => match t with | .int x => .int (absI x) | _ => .non) by
        show T.tup (((e.map absI).reverse).map T.int) = _
        rw [← List.map_reverse, ← List.map_reverse, List.map_map, List.map_map]
        rfl] at this
      exact this
theorem pf__law_meter (ts g A B) (h : sp__law_meter ts g A B) : r__law_meter ad (endsOf A) (aStart N__law_meter ts) g := by
  obtain ⟨p, pk, m, pe, ps, e, s, rfl, hp, n1, n2, he, hs, hm, hm2, hwe, hws, hl, hA⟩ := h
  unfold r__law_meter
  refine meter_head _ _ g pk m p pe ps e he (by omega) fun g2 a6 sub2 => ?_
  have he2 := sub2 _ _ he
  have hs2 := sub2 _ _ hs
  have hp2 := hp.sub sub2
  have ok : (kOf pk m).ok := kOf_ok (by omega) (by omega)
  have st := st_of pk hm hwe
  have rl := run_law pk m s e hm
  have both : lawBoth pk m e s = .tup [iT ((kOf pk m).run (keptOf pk e) s).1, iT ((kOf pk m).run (keptOf pk e) s).2] := by rw [rl]; rfl
  have len1 : ((kOf pk m).run (keptOf pk e) s).1.length ≤ 1000 := by rw [rl]; exact Nat.le_trans (lawLast_len _ _ _) (by rw [List.length_append]; omega)
  have len2 : ((kOf pk m).run (keptOf pk e) s).2.length ≤ 1000 := by rw [run_len]; omega
  simp only [aSeq, aNext, aDrop, aRet, aRetN, aIfS, aNever, aBrk, aCnt, aAsg, gNm, gTp, gCn, gNl, aTest, aAndT, aOrT, aNotT, aAndV, aOrV, aNotV, aOp, aUn, aN, aCall, aCons, aNil, aVar, aC, aIf, aTup, aChain, endsOf, aStart, vI0, vI, vLt, vLe, vGt, vGe, vSub, vAdd, vMul, vDiv, vMod, vAnd, vShr, vPow, vNeg, vEqF, vNeF, flatEq, vIsN, vNotN, vB2, Lz.isNon, vIx, vIn, nIsi, nLen, nAbs, nMax2, nMin2, nInt, nTup, items, iAny, aAll, Lz.iZip, aLc, aTrue, aLst, aApp, iRange1, iRange2, aFor, aSl, aoNone, aoSome, vSl, wipeS, List.map_cons, List.map_nil, List.length_cons, List.length_nil, List.replicate_zero, List.replicate_succ, List.cons_append, List.nil_append, List.append_nil, List.getElem?_cons_zero, List.getElem?_cons_succ, List.set_cons_zero, List.set_cons_succ, Nat.sub_self, Nat.zero_add, Nat.reduceAdd, Nat.reduceSub, Bool.not_true, Bool.not_false]
  refine ⟨sz (by decide), kOf pk m, keptOf pk e, by rw [kOf_nm, kOf_knob], ok, st, ?_⟩
  simp only [aSeq, aNext, aDrop, aRet, aRetN, aIfS, aNever, aBrk, aCnt, aAsg, gNm, gTp, gCn, gNl, aTest, aAndT, aOrT, aNotT, aAndV, aOrV, aNotV, aOp, aUn, aN, aCall, aCons, aNil, aVar, aC, aIf, aTup, aChain, endsOf, aStart, vI0, vI, vLt, vLe, vGt, vGe, vSub, vAdd, vMul, vDiv, vMod, vAnd, vShr, vPow, vNeg, vEqF, vNeF, flatEq, vIsN, vNotN, vB2, Lz.isNon, vIx, vIn, nIsi, nLen, nAbs, nMax2, nMin2, nInt, nTup, items, iAny, aAll, Lz.iZip, aLc, aTrue, aLst, aApp, iRange1, iRange2, aFor, aSl, aoNone, aoSome, vSl, wipeS, List.map_cons, List.map_nil, List.length_cons, List.length_nil, List.replicate_zero, List.replicate_succ, List.cons_append, List.nil_append, List.append_nil, List.getElem?_cons_zero, List.getElem?_cons_succ, List.set_cons_zero, List.set_cons_succ, Nat.sub_self, Nat.zero_add, Nat.reduceAdd, Nat.reduceSub, Bool.not_true, Bool.not_false, vB2, decide_true]
  refine ⟨pk, m, pe, ps, e, s, rfl, he2, hs2, hm, by omega, by omega, ?_⟩
  simp only [aSeq, aNext, aDrop, aRet, aRetN, aIfS, aNever, aBrk, aCnt, aAsg, gNm, gTp, gCn, gNl, aTest, aAndT, aOrT, aNotT, aAndV, aOrV, aNotV, aOp, aUn, aN, aCall, aCons, aNil, aVar, aC, aIf, aTup, aChain, endsOf, aStart, vI0, vI, vLt, vLe, vGt, vGe, vSub, vAdd, vMul, vDiv, vMod, vAnd, vShr, vPow, vNeg, vEqF, vNeF, flatEq, vIsN, vNotN, vB2, Lz.isNon, vIx, vIn, nIsi, nLen, nAbs, nMax2, nMin2, nInt, nTup, items, iAny, aAll, Lz.iZip, aLc, aTrue, aLst, aApp, iRange1, iRange2, aFor, aSl, aoNone, aoSome, vSl, wipeS, List.map_cons, List.map_nil, List.length_cons, List.length_nil, List.replicate_zero, List.replicate_succ, List.cons_append, List.nil_append, List.append_nil, List.getElem?_cons_zero, List.getElem?_cons_succ, List.set_cons_zero, List.set_cons_succ, Nat.sub_self, Nat.zero_add, Nat.reduceAdd, Nat.reduceSub, Bool.not_true, Bool.not_false, hs2, List.length_map]
  refine ⟨sz (by decide), sz (by decide), kOf pk m, keptOf pk e, s, by rw [kOf_nm, kOf_knob]; rfl, ok, st, hws, by omega, ?_⟩
  refine same_two both len1 len2 ?_
  simp only [aSeq, aNext, aDrop, aRet, aRetN, aIfS, aNever, aBrk, aCnt, aAsg, gNm, gTp, gCn, gNl, aTest, aAndT, aOrT, aNotT, aAndV, aOrV, aNotV, aOp, aUn, aN, aCall, aCons, aNil, aVar, aC, aIf, aTup, aChain, endsOf, aStart, vI0, vI, vLt, vLe, vGt, vGe, vSub, vAdd, vMul, vDiv, vMod, vAnd, vShr, vPow, vNeg, vEqF, vNeF, flatEq, vIsN, vNotN, vB2, Lz.isNon, vIx, vIn, nIsi, nLen, nAbs, nMax2, nMin2, nInt, nTup, items, iAny, aAll, Lz.iZip, aLc, aTrue, aLst, aApp, iRange1, iRange2, aFor, aSl, aoNone, aoSome, vSl, wipeS, List.map_cons, List.map_nil, List.length_cons, List.length_nil, List.replicate_zero, List.replicate_succ, List.cons_append, List.nil_append, List.append_nil, List.getElem?_cons_zero, List.getElem?_cons_succ, List.set_cons_zero, List.set_cons_succ, Nat.sub_self, Nat.zero_add, Nat.reduceAdd, Nat.reduceSub, Bool.not_true, Bool.not_false, hs2, List.length_map]
  refine ⟨p, _, rfl, hp2, by omega, by omega, fun r h0 h1 a b => ?_⟩
  obtain ⟨c, rfl⟩ : ∃ c : Nat, r = c := ⟨r.toNat, by omega⟩
  have hc : c ≤ s.length := by omega
  have he3 : Lz.set g2 p (.lst [.int a, .int b]) pe = some (.lst (e.map T.int)) := by rw [set_ne (Ne.symm n1)]; exact he2
  have hs3 : Lz.set g2 p (.lst [.int a, .int b]) ps = some (.lst (s.map T.int)) := by rw [set_ne (Ne.symm n2)]; exact hs2
  have sub3 : Lz.Sub (Lz.set g p (.lst [.int a, .int b])) (Lz.set g2 p (.lst [.int a, .int b])) := sub_put sub2
  generalize Lz.set g2 p (.lst [.int a, .int b]) = g3 at he3 hs3 sub3
  simp only [aSeq, aNext, aDrop, aRet, aRetN, aIfS, aNever, aBrk, aCnt, aAsg, gNm, gTp, gCn, gNl, aTest, aAndT, aOrT, aNotT, aAndV, aOrV, aNotV, aOp, aUn, aN, aCall, aCons, aNil, aVar, aC, aIf, aTup, aChain, endsOf, aStart, vI0, vI, vLt, vLe, vGt, vGe, vSub, vAdd, vMul, vDiv, vMod, vAnd, vShr, vPow, vNeg, vEqF, vNeF, flatEq, vIsN, vNotN, vB2, Lz.isNon, vIx, vIn, nIsi, nLen, nAbs, nMax2, nMin2, nInt, nTup, items, iAny, aAll, Lz.iZip, aLc, aTrue, aLst, aApp, iRange1, iRange2, aFor, aSl, aoNone, aoSome, vSl, wipeS, List.map_cons, List.map_nil, List.length_cons, List.length_nil, List.replicate_zero, List.replicate_succ, List.cons_append, List.nil_append, List.append_nil, List.getElem?_cons_zero, List.getElem?_cons_succ, List.set_cons_zero, List.set_cons_succ, Nat.sub_self, Nat.zero_add, Nat.reduceAdd, Nat.reduceSub, Bool.not_true, Bool.not_false, hs3, List.length_map, cutT_nat]
  intro d hd
  rw [← List.map_take]
  have he4 := sub_new (p := d) (o := .lst ((s.take c).map T.int)) Sub.refl hd _ _ he3
  have hs4 := sub_new (p := d) (o := .lst ((s.take c).map T.int)) Sub.refl hd _ _ hs3
  have hd4 : Lz.set g3 d (.lst ((s.take c).map T.int)) d = some (.lst ((s.take c).map T.int)) := set_same
  have sub4 := sub_new (p := d) (o := .lst ((s.take c).map T.int)) sub3 hd
  generalize Lz.set g3 d (.lst ((s.take c).map T.int)) = g4 at he4 hs4 hd4 sub4
  have wtake : ∀ x ∈ s.take c, Wo x := fun x hx => hws x (List.mem_of_mem_take hx)
  have wdrop : ∀ x ∈ s.drop c, Wo x := fun x hx => hws x (List.mem_of_mem_drop hx)
  have ltake : (s.take c).length = c := by rw [List.length_take]; omega
  have rl2 := run_law pk m (s.take c) e hm
  have both2 : lawBoth pk m e (s.take c) = .tup [iT ((kOf pk m).run (keptOf pk e) (s.take c)).1, iT ((kOf pk m).run (keptOf pk e) (s.take c)).2] := by rw [rl2]; rfl
  have len3 : ((kOf pk m).run (keptOf pk e) (s.take c)).1.length ≤ 1000 := by rw [rl2]; exact Nat.le_trans (lawLast_len _ _ _) (by rw [List.length_append]; omega)
  have len4 : ((kOf pk m).run (keptOf pk e) (s.take c)).2.length ≤ 1000 := by rw [run_len]; omega
  have st2 := run_st ok (s.take c) _ st wtake
  refine ⟨pk, m, pe, d, e, s.take c, rfl, he4, hd4, hm, by omega, by omega, ?_⟩
  simp only [aSeq, aNext, aDrop, aRet, aRetN, aIfS, aNever, aBrk, aCnt, aAsg, gNm, gTp, gCn, gNl, aTest, aAndT, aOrT, aNotT, aAndV, aOrV, aNotV, aOp, aUn, aN, aCall, aCons, aNil, aVar, aC, aIf, aTup, aChain, endsOf, aStart, vI0, vI, vLt, vLe, vGt, vGe, vSub, vAdd, vMul, vDiv, vMod, vAnd, vShr, vPow, vNeg, vEqF, vNeF, flatEq, vIsN, vNotN, vB2, Lz.isNon, vIx, vIn, nIsi, nLen, nAbs, nMax2, nMin2, nInt, nTup, items, iAny, aAll, Lz.iZip, aLc, aTrue, aLst, aApp, iRange1, iRange2, aFor, aSl, aoNone, aoSome, vSl, wipeS, List.map_cons, List.map_nil, List.length_cons, List.length_nil, List.replicate_zero, List.replicate_succ, List.cons_append, List.nil_append, List.append_nil, List.getElem?_cons_zero, List.getElem?_cons_succ, List.set_cons_zero, List.set_cons_succ, Nat.sub_self, Nat.zero_add, Nat.reduceAdd, Nat.reduceSub, Bool.not_true, Bool.not_false, hs4, cutT_nat]
  refine ⟨sz (by decide), fun d2 hd2 => ?_⟩
  rw [← List.map_take]
  have hs5 := sub_new (p := d2) (o := .lst ((s.take c).map T.int)) Sub.refl hd2 _ _ hs4
  have sub5 := sub_new (p := d2) (o := .lst ((s.take c).map T.int)) sub4 hd2
  have hd5 : Lz.set g4 d2 (.lst ((s.take c).map T.int)) d2 = some (.lst ((s.take c).map T.int)) := set_same
  generalize Lz.set g4 d2 (.lst ((s.take c).map T.int)) = g5 at hs5 sub5 hd5
  simp only [aSeq, aNext, aDrop, aRet, aRetN, aIfS, aNever, aBrk, aCnt, aAsg, gNm, gTp, gCn, gNl, aTest, aAndT, aOrT, aNotT, aAndV, aOrV, aNotV, aOp, aUn, aN, aCall, aCons, aNil, aVar, aC, aIf, aTup, aChain, endsOf, aStart, vI0, vI, vLt, vLe, vGt, vGe, vSub, vAdd, vMul, vDiv, vMod, vAnd, vShr, vPow, vNeg, vEqF, vNeF, flatEq, vIsN, vNotN, vB2, Lz.isNon, vIx, vIn, nIsi, nLen, nAbs, nMax2, nMin2, nInt, nTup, items, iAny, aAll, Lz.iZip, aLc, aTrue, aLst, aApp, iRange1, iRange2, aFor, aSl, aoNone, aoSome, vSl, wipeS, List.map_cons, List.map_nil, List.length_cons, List.length_nil, List.replicate_zero, List.replicate_succ, List.cons_append, List.nil_append, List.append_nil, List.getElem?_cons_zero, List.getElem?_cons_succ, List.set_cons_zero, List.set_cons_succ, Nat.sub_self, Nat.zero_add, Nat.reduceAdd, Nat.reduceSub, Bool.not_true, Bool.not_false, hd5]
  refine ⟨sz (by decide), kOf pk m, keptOf pk e, s.take c, by rw [kOf_nm, kOf_knob, ltake]; rfl, ok, st, wtake, by omega, ?_⟩
  refine same_two both2 len3 len4 ?_
  rw [both2]
  simp only [aSeq, aNext, aDrop, aRet, aRetN, aIfS, aNever, aBrk, aCnt, aAsg, gNm, gTp, gCn, gNl, aTest, aAndT, aOrT, aNotT, aAndV, aOrV, aNotV, aOp, aUn, aN, aCall, aCons, aNil, aVar, aC, aIf, aTup, aChain, endsOf, aStart, vI0, vI, vLt, vLe, vGt, vGe, vSub, vAdd, vMul, vDiv, vMod, vAnd, vShr, vPow, vNeg, vEqF, vNeF, flatEq, vIsN, vNotN, vB2, Lz.isNon, vIx, vIn, nIsi, nLen, nAbs, nMax2, nMin2, nInt, nTup, items, iAny, aAll, Lz.iZip, aLc, aTrue, aLst, aApp, iRange1, iRange2, aFor, aSl, aoNone, aoSome, vSl, wipeS, List.map_cons, List.map_nil, List.length_cons, List.length_nil, List.replicate_zero, List.replicate_succ, List.cons_append, List.nil_append, List.append_nil, List.getElem?_cons_zero, List.getElem?_cons_succ, List.set_cons_zero, List.set_cons_succ, Nat.sub_self, Nat.zero_add, Nat.reduceAdd, Nat.reduceSub, Bool.not_true, Bool.not_false, atI0, hs5]
  refine ⟨sz (by decide), fun d3 hd3 => ?_⟩
  rw [cutT_from _ _ (by rw [List.length_map]; omega), ← List.map_drop]
  have hs6 := sub_new (p := d3) (o := .lst ((s.drop c).map T.int)) Sub.refl hd3 _ _ hs5
  have sub6 := sub_new (p := d3) (o := .lst ((s.drop c).map T.int)) sub5 hd3
  have hd6 : Lz.set g5 d3 (.lst ((s.drop c).map T.int)) d3 = some (.lst ((s.drop c).map T.int)) := set_same
  generalize Lz.set g5 d3 (.lst ((s.drop c).map T.int)) = g6 at hs6 sub6 hd6
  simp only [aSeq, aNext, aDrop, aRet, aRetN, aIfS, aNever, aBrk, aCnt, aAsg, gNm, gTp, gCn, gNl, aTest, aAndT, aOrT, aNotT, aAndV, aOrV, aNotV, aOp, aUn, aN, aCall, aCons, aNil, aVar, aC, aIf, aTup, aChain, endsOf, aStart, vI0, vI, vLt, vLe, vGt, vGe, vSub, vAdd, vMul, vDiv, vMod, vAnd, vShr, vPow, vNeg, vEqF, vNeF, flatEq, vIsN, vNotN, vB2, Lz.isNon, vIx, vIn, nIsi, nLen, nAbs, nMax2, nMin2, nInt, nTup, items, iAny, aAll, Lz.iZip, aLc, aTrue, aLst, aApp, iRange1, iRange2, aFor, aSl, aoNone, aoSome, vSl, wipeS, List.map_cons, List.map_nil, List.length_cons, List.length_nil, List.replicate_zero, List.replicate_succ, List.cons_append, List.nil_append, List.append_nil, List.getElem?_cons_zero, List.getElem?_cons_succ, List.set_cons_zero, List.set_cons_succ, Nat.sub_self, Nat.zero_add, Nat.reduceAdd, Nat.reduceSub, Bool.not_true, Bool.not_false, hd6, hs6, List.length_map]
  refine ⟨sz (by decide), kOf pk m, ((kOf pk m).run (keptOf pk e) (s.take c)).1, s.drop c, by rw [kOf_nm, kOf_knob, List.length_drop, show ((s.length - c : Nat) : Int) = (s.length : Int) - c by omega]; rfl, ok, st2, wdrop, by rw [List.length_drop]; omega, ?_⟩
  have app := run_append (kOf pk m) (s.take c) (s.drop c) (keptOf pk e)
  rw [List.take_append_drop] at app
  have len5 : ((kOf pk m).run ((kOf pk m).run (keptOf pk e) (s.take c)).1 (s.drop c)).2.length ≤ 1000 := by rw [run_len, List.length_drop]; omega
  have app1 : ((kOf pk m).run (keptOf pk e) s).1 = ((kOf pk m).run ((kOf pk m).run (keptOf pk e) (s.take c)).1 (s.drop c)).1 := by rw [app]
  have app2 : ((kOf pk m).run (keptOf pk e) s).2.drop c = ((kOf pk m).run ((kOf pk m).run (keptOf pk e) (s.take c)).1 (s.drop c)).2 := by
    rw [app]
    exact List.drop_left' (by rw [run_len]; exact ltake)
  rw [both]
  simp only [aSeq, aNext, aDrop, aRet, aRetN, aIfS, aNever, aBrk, aCnt, aAsg, gNm, gTp, gCn, gNl, aTest, aAndT, aOrT, aNotT, aAndV, aOrV, aNotV, aOp, aUn, aN, aCall, aCons, aNil, aVar, aC, aIf, aTup, aChain, endsOf, aStart, vI0, vI, vLt, vLe, vGt, vGe, vSub, vAdd, vMul, vDiv, vMod, vAnd, vShr, vPow, vNeg, vEqF, vNeF, flatEq, vIsN, vNotN, vB2, Lz.isNon, vIx, vIn, nIsi, nLen, nAbs, nMax2, nMin2, nInt, nTup, items, iAny, aAll, Lz.iZip, aLc, aTrue, aLst, aApp, iRange1, iRange2, aFor, aSl, aoNone, aoSome, vSl, wipeS, List.map_cons, List.map_nil, List.length_cons, List.length_nil, List.replicate_zero, List.replicate_succ, List.cons_append, List.nil_append, List.append_nil, List.getElem?_cons_zero, List.getElem?_cons_succ, List.set_cons_zero, List.set_cons_succ, Nat.sub_self, Nat.zero_add, Nat.reduceAdd, Nat.reduceSub, Bool.not_true, Bool.not_false, atI0, atI1, iT]
  rw [cutT_from _ _ (by rw [List.length_map, run_len]; exact hc), ← List.map_drop, app2, app1]
  refine ⟨sz (by decide), same_two rfl (by rw [← app1]; exact len1) len5 ?_⟩
  exact ⟨_, sub6, hA a b⟩
/-- a list of n equal things that change nothing -/
theorem lc_const {C : G → Prop} {D : Addr} {te : AT} {s : SS} {A : T → G → Prop} {g0 : G} (i : Nat) (v : T) (lo : Int) (n : Nat) (hn : n ≤ 1000000) (hC : ∀ acc, C (Lz.set g0 D (.lst acc)))
    (h : ∀ (x : T) (acc : List T) (A' : T → G → Prop), A' v (Lz.set g0 D (.lst acc)) → te (s.set i (some x)) (Lz.set g0 D (.lst acc)) A') (hA : A (.ref D) (Lz.set g0 D (.lst (List.replicate n v)))) : aLcL C D (gNm i) aTrue te s A (Lz.rangeT lo n) (Lz.set g0 D (.lst [])) := by
  have hl : (Lz.rangeT lo n).length = n := by unfold Lz.rangeT; rw [List.length_map, List.length_range]
  refine lc_map (fun _ => v) hC _ [] (by rw [List.length_nil, Nat.zero_add, hl]; exact sz hn) (fun t ht acc A' hA' => ?_) ?_
  · exact h t acc A' hA'
  · rw [List.nil_append, List.map_const', hl]
    exact hA
theorem rep_iT (n : Nat) (w : Int) : T.tup (List.replicate n (.int w)) = iT (List.replicate n w) := by unfold iT; rw [List.map_replicate]
theorem pf__law_constant (ts g A B) (h : sp__law_constant ts g A B) : r__law_constant ad (endsOf A) (aStart N__law_constant ts) g := by
  obtain ⟨p, m, rfl, hp, h1, h2, hA⟩ := h
  simp only [r__law_constant, aSeq, aNext, aDrop, aRet, aRetN, aIfS, aNever, aBrk, aCnt, aAsg, gNm, gTp, gCn, gNl, aTest, aAndT, aOrT, aNotT, aAndV, aOrV, aNotV, aOp, aUn, aN, aCall, aCons, aNil, aVar, aC, aIf, aTup, aChain, endsOf, aStart, vI0, vI, vLt, vLe, vGt, vGe, vSub, vAdd, vMul, vDiv, vMod, vAnd, vShr, vPow, vNeg, vEqF, vNeF, flatEq, vIsN, vNotN, vB2, Lz.isNon, vIx, vIn, nIsi, nLen, nAbs, nMax2, nMin2, nInt, nTup, items, iAny, aAll, Lz.iZip, aLc, aTrue, aLst, aApp, iRange1, iRange2, aFor, aSl, aoNone, aoSome, vSl, wipeS, List.map_cons, List.map_nil, List.length_cons, List.length_nil, List.replicate_zero, List.replicate_succ, List.cons_append, List.nil_append, List.append_nil, List.getElem?_cons_zero, List.getElem?_cons_succ, List.set_cons_zero, List.set_cons_succ, Nat.sub_self, Nat.zero_add, Nat.reduceAdd, Nat.reduceSub, Bool.not_true, Bool.not_false]
  refine ⟨p, 1048575, rfl, hp, by decide, by decide, fun w hw a b => ?_⟩
  have hA' : A (.bl true) (Lz.set g p (.lst [.int a, .int b])) := hA a b
  generalize Lz.set g p (.lst [.int a, .int b]) = g3 at hA' ⊢
  simp only [aSeq, aNext, aDrop, aRet, aRetN, aIfS, aNever, aBrk, aCnt, aAsg, gNm, gTp, gCn, gNl, aTest, aAndT, aOrT, aNotT, aAndV, aOrV, aNotV, aOp, aUn, aN, aCall, aCons, aNil, aVar, aC, aIf, aTup, aChain, endsOf, aStart, vI0, vI, vLt, vLe, vGt, vGe, vSub, vAdd, vMul, vDiv, vMod, vAnd, vShr, vPow, vNeg, vEqF, vNeF, flatEq, vIsN, vNotN, vB2, Lz.isNon, vIx, vIn, nIsi, nLen, nAbs, nMax2, nMin2, nInt, nTup, items, iAny, aAll, Lz.iZip, aLc, aTrue, aLst, aApp, iRange1, iRange2, aFor, aSl, aoNone, aoSome, vSl, wipeS, List.map_cons, List.map_nil, List.length_cons, List.length_nil, List.replicate_zero, List.replicate_succ, List.cons_append, List.nil_append, List.append_nil, List.getElem?_cons_zero, List.getElem?_cons_succ, List.set_cons_zero, List.set_cons_succ, Nat.sub_self, Nat.zero_add, Nat.reduceAdd, Nat.reduceSub, Bool.not_true, Bool.not_false]
  refine ⟨⟨by omega, by omega⟩, fun D hD => ?_⟩
  rw [show ((m : Int) - 1).toNat = m - 1 by omega]
  have okm : (Knd.mean m).ok := ⟨h1, by omega⟩
  have okp : (Knd.peak m).ok := ⟨h1, by omega⟩
  have wneg : Wo (-w) := ⟨by have := hw.2; omega, by have := hw.1; omega⟩
  refine lc_const 4 (.int w) 0 (m - 1) (by omega) (fun _ => trivial) (fun x acc A' hA' => by simp only [aSeq, aNext, aDrop, aRet, aRetN, aIfS, aNever, aBrk, aCnt, aAsg, gNm, gTp, gCn, gNl, aTest, aAndT, aOrT, aNotT, aAndV, aOrV, aNotV, aOp, aUn, aN, aCall, aCons, aNil, aVar, aC, aIf, aTup, aChain, endsOf, aStart, vI0, vI, vLt, vLe, vGt, vGe, vSub, vAdd, vMul, vDiv, vMod, vAnd, vShr, vPow, vNeg, vEqF, vNeF, flatEq, vIsN, vNotN, vB2, Lz.isNon, vIx, vIn, nIsi, nLen, nAbs, nMax2, nMin2, nInt, nTup, items, iAny, aAll, Lz.iZip, aLc, aTrue, aLst, aApp, iRange1, iRange2, aFor, aSl, aoNone, aoSome, vSl, wipeS, List.map_cons, List.map_nil, List.length_cons, List.length_nil, List.replicate_zero, List.replicate_succ, List.cons_append, List.nil_append, List.append_nil, List.getElem?_cons_zero, List.getElem?_cons_succ, List.set_cons_zero, List.set_cons_succ, Nat.sub_self, Nat.zero_add, Nat.reduceAdd, Nat.reduceSub, Bool.not_true, Bool.not_false]; exact hA') ?_
  simp only [aSeq, aNext, aDrop, aRet, aRetN, aIfS, aNever, aBrk, aCnt, aAsg, gNm, gTp, gCn, gNl, aTest, aAndT, aOrT, aNotT, aAndV, aOrV, aNotV, aOp, aUn, aN, aCall, aCons, aNil, aVar, aC, aIf, aTup, aChain, endsOf, aStart, vI0, vI, vLt, vLe, vGt, vGe, vSub, vAdd, vMul, vDiv, vMod, vAnd, vShr, vPow, vNeg, vEqF, vNeF, flatEq, vIsN, vNotN, vB2, Lz.isNon, vIx, vIn, nIsi, nLen, nAbs, nMax2, nMin2, nInt, nTup, items, iAny, aAll, Lz.iZip, aLc, aTrue, aLst, aApp, iRange1, iRange2, aFor, aSl, aoNone, aoSome, vSl, wipeS, List.map_cons, List.map_nil, List.length_cons, List.length_nil, List.replicate_zero, List.replicate_succ, List.cons_append, List.nil_append, List.append_nil, List.getElem?_cons_zero, List.getElem?_cons_succ, List.set_cons_zero, List.set_cons_succ, Nat.sub_self, Nat.zero_add, Nat.reduceAdd, Nat.reduceSub, Bool.not_true, Bool.not_false, set_same, rep_iT]
  have sub4 := sub_new (p := D) (o := .lst (List.replicate (m - 1) (.int w))) Sub.refl hD
  generalize Lz.set g3 D (.lst (List.replicate (m - 1) (.int w))) = g4 at sub4
  refine ⟨sz (by decide), sz (by decide), sz (by decide), Knd.mean m, List.replicate (m - 1) w, [w, w, w], rfl, okm, ⟨by rw [List.length_replicate]; show m - 1 + 1 = m; omega, fun x hx => by rw [List.eq_of_mem_replicate hx]; exact hw, fun h => by cases h⟩, fun x hx => by
    simp only [List.mem_cons, List.not_mem_nil, or_false] at hx
    rcases hx with rfl | rfl | rfl <;> exact hw, by simp, ?_⟩
  rw [mean_const h1]
  refine ⟨sz (by decide), sz (by decide), same_two rfl (by rw [List.length_replicate]; omega) (by simp) ?_⟩
  simp only [aSeq, aNext, aDrop, aRet, aRetN, aIfS, aNever, aBrk, aCnt, aAsg, gNm, gTp, gCn, gNl, aTest, aAndT, aOrT, aNotT, aAndV, aOrV, aNotV, aOp, aUn, aN, aCall, aCons, aNil, aVar, aC, aIf, aTup, aChain, endsOf, aStart, vI0, vI, vLt, vLe, vGt, vGe, vSub, vAdd, vMul, vDiv, vMod, vAnd, vShr, vPow, vNeg, vEqF, vNeF, flatEq, vIsN, vNotN, vB2, Lz.isNon, vIx, vIn, nIsi, nLen, nAbs, nMax2, nMin2, nInt, nTup, items, iAny, aAll, Lz.iZip, aLc, aTrue, aLst, aApp, iRange1, iRange2, aFor, aSl, aoNone, aoSome, vSl, wipeS, List.map_cons, List.map_nil, List.length_cons, List.length_nil, List.replicate_zero, List.replicate_succ, List.cons_append, List.nil_append, List.append_nil, List.getElem?_cons_zero, List.getElem?_cons_succ, List.set_cons_zero, List.set_cons_succ, Nat.sub_self, Nat.zero_add, Nat.reduceAdd, Nat.reduceSub, Bool.not_true, Bool.not_false, absI_eq]
  refine ⟨⟨by omega, by omega⟩, fun D2 hD2 => ?_⟩
  refine lc_const 4 (.int (absI w)) 0 (m - 1) (by omega) (fun _ => trivial) (fun x acc A' hA' => by simp only [aSeq, aNext, aDrop, aRet, aRetN, aIfS, aNever, aBrk, aCnt, aAsg, gNm, gTp, gCn, gNl, aTest, aAndT, aOrT, aNotT, aAndV, aOrV, aNotV, aOp, aUn, aN, aCall, aCons, aNil, aVar, aC, aIf, aTup, aChain, endsOf, aStart, vI0, vI, vLt, vLe, vGt, vGe, vSub, vAdd, vMul, vDiv, vMod, vAnd, vShr, vPow, vNeg, vEqF, vNeF, flatEq, vIsN, vNotN, vB2, Lz.isNon, vIx, vIn, nIsi, nLen, nAbs, nMax2, nMin2, nInt, nTup, items, iAny, aAll, Lz.iZip, aLc, aTrue, aLst, aApp, iRange1, iRange2, aFor, aSl, aoNone, aoSome, vSl, wipeS, List.map_cons, List.map_nil, List.length_cons, List.length_nil, List.replicate_zero, List.replicate_succ, List.cons_append, List.nil_append, List.append_nil, List.getElem?_cons_zero, List.getElem?_cons_succ, List.set_cons_zero, List.set_cons_succ, Nat.sub_self, Nat.zero_add, Nat.reduceAdd, Nat.reduceSub, Bool.not_true, Bool.not_false]; exact hA') ?_
  simp only [aSeq, aNext, aDrop, aRet, aRetN, aIfS, aNever, aBrk, aCnt, aAsg, gNm, gTp, gCn, gNl, aTest, aAndT, aOrT, aNotT, aAndV, aOrV, aNotV, aOp, aUn, aN, aCall, aCons, aNil, aVar, aC, aIf, aTup, aChain, endsOf, aStart, vI0, vI, vLt, vLe, vGt, vGe, vSub, vAdd, vMul, vDiv, vMod, vAnd, vShr, vPow, vNeg, vEqF, vNeF, flatEq, vIsN, vNotN, vB2, Lz.isNon, vIx, vIn, nIsi, nLen, nAbs, nMax2, nMin2, nInt, nTup, items, iAny, aAll, Lz.iZip, aLc, aTrue, aLst, aApp, iRange1, iRange2, aFor, aSl, aoNone, aoSome, vSl, wipeS, List.map_cons, List.map_nil, List.length_cons, List.length_nil, List.replicate_zero, List.replicate_succ, List.cons_append, List.nil_append, List.append_nil, List.getElem?_cons_zero, List.getElem?_cons_succ, List.set_cons_zero, List.set_cons_succ, Nat.sub_self, Nat.zero_add, Nat.reduceAdd, Nat.reduceSub, Bool.not_true, Bool.not_false, set_same, rep_iT]
  refine ⟨sz (by decide), sz (by decide), sz (by decide), Knd.peak m, List.replicate (m - 1) (absI w), [w, -w, w], rfl, okp, ⟨by rw [List.length_replicate]; show m - 1 + 1 = m; omega, fun x hx => by rw [List.eq_of_mem_replicate hx]; exact hw.abs, fun _ x hx => by rw [List.eq_of_mem_replicate hx]; exact absI_nn w⟩, fun x hx => by
    simp only [List.mem_cons, List.not_mem_nil, or_false] at hx
    rcases hx with rfl | rfl | rfl
    · exact hw
    · exact wneg
    · exact hw, by simp, ?_⟩
  rw [peak_const]
  refine ⟨sz (by decide), sz (by decide), same_two rfl (by rw [List.length_replicate]; omega) (by simp) ?_⟩
  exact ⟨g3, sub_new sub4 hD2, hA'⟩
theorem law_zero (pk : Bool) {m : Nat} (hm : 1 ≤ m) (s : List Int) : lawBoth pk m (List.replicate (m - 1) 0) s = .tup [iT ((kOf pk m).run (List.replicate ((kOf pk m).wd - 1) 0) s).1, iT ((kOf pk m).run (List.replicate ((kOf pk m).wd - 1) 0) s).2] := by
  have h := run_law pk m s (List.replicate (m - 1) 0) (by rw [List.length_replicate]; omega)
  rw [kept_zero] at h
  rw [kOf_wd, h]
  rfl
theorem run_fst_len (pk : Bool) {m : Nat} (hm : 1 ≤ m) (s : List Int) (n : Nat) (h : m + s.length ≤ n) : ((kOf pk m).run (List.replicate (m - 1) 0) s).1.length ≤ n := by
  have h := run_law pk m s (List.replicate (m - 1) 0) (by rw [List.length_replicate]; omega)
  rw [kept_zero] at h
  rw [h]
  refine Nat.le_trans (lawLast_len _ _ _) ?_
  rw [List.length_append, List.length_replicate]
  omega
theorem run_wo {m : Nat} (hk : (Knd.peak m).ok) : ∀ (xs kept : List Int), (Knd.peak m).st kept → (∀ x ∈ xs, Wo x) → ∀ y ∈ ((Knd.peak m).run kept xs).2, Wo y
  | [], kept, hs, hx, y, hy => by cases hy
  | x :: xs, kept, hs, hx, y, hy => by
    have hx0 := hx x List.mem_cons_self
    rcases List.mem_cons.mp (show y ∈ (Knd.peak m).tell kept x :: ((Knd.peak m).run ((Knd.peak m).keep kept x) xs).2 from hy) with rfl | hy
    · have : maxL (absI x :: kept) ∈ absI x :: kept := maxL_mem (by simp)
      show Wo (maxL (absI x :: kept))
      rcases List.mem_cons.mp this with e | e
      · rw [e]; exact hx0.abs
      · exact hs.2.1 _ e
    · exact run_wo hk xs _ (Knd.st_keep hk hs hx0) (fun z hz => hx z (List.mem_cons_of_mem _ hz)) y hy
theorem st_zero {k : Knd} (hk : k.ok) : k.st (List.replicate (k.wd - 1) 0) :=
  ⟨by rw [List.length_replicate]; have := Knd.wd_le hk; omega, fun x hx => by rw [List.eq_of_mem_replicate hx]; exact ⟨by decide, by decide⟩, fun _ x hx => by rw [List.eq_of_mem_replicate hx]; exact Int.le_refl _⟩
theorem pf__law_peaks (ts g A B) (h : sp__law_peaks ts g A B) : r__law_peaks ad (endsOf A) (aStart N__law_peaks ts) g := by
  obtain ⟨m, n, ps, s, rfl, hs, h1, h2, h3, h4, hw, hl, hA⟩ := h
  simp only [r__law_peaks, aSeq, aNext, aDrop, aRet, aRetN, aIfS, aNever, aBrk, aCnt, aAsg, gNm, gTp, gCn, gNl, aTest, aAndT, aOrT, aNotT, aAndV, aOrV, aNotV, aOp, aUn, aN, aCall, aCons, aNil, aVar, aC, aIf, aTup, aChain, endsOf, aStart, vI0, vI, vLt, vLe, vGt, vGe, vSub, vAdd, vMul, vDiv, vMod, vAnd, vShr, vPow, vNeg, vEqF, vNeF, flatEq, vIsN, vNotN, vB2, Lz.isNon, vIx, vIn, nIsi, nLen, nAbs, nMax2, nMin2, nInt, nTup, items, iAny, aAll, Lz.iZip, aLc, aTrue, aLst, aApp, iRange1, iRange2, aFor, aSl, aoNone, aoSome, vSl, wipeS, List.map_cons, List.map_nil, List.length_cons, List.length_nil, List.replicate_zero, List.replicate_succ, List.cons_append, List.nil_append, List.append_nil, List.getElem?_cons_zero, List.getElem?_cons_succ, List.set_cons_zero, List.set_cons_succ, Nat.sub_self, Nat.zero_add, Nat.reduceAdd, Nat.reduceSub, Bool.not_true, Bool.not_false]
  refine ⟨⟨by omega, by omega⟩, fun D hD => ?_⟩
  rw [show ((m : Int) + n - 2).toNat = m + n - 2 by omega]
  refine lc_const 4 (.int 0) 0 (m + n - 2) (by omega) (fun _ => trivial) (fun x acc A' hA' => hA') ?_
  have hs2 := sub_new (p := D) (o := .lst (List.replicate (m + n - 2) (.int 0))) Sub.refl hD _ _ hs
  have hD2 : Lz.set g D (.lst (List.replicate (m + n - 2) (.int 0))) D = some (.lst (List.replicate (m + n - 2) (.int 0))) := set_same
  have sub2 := sub_new (p := D) (o := .lst (List.replicate (m + n - 2) (.int 0))) Sub.refl hD
  generalize Lz.set g D (.lst (List.replicate (m + n - 2) (.int 0))) = g2 at hs2 hD2 sub2
  simp only [aSeq, aNext, aDrop, aRet, aRetN, aIfS, aNever, aBrk, aCnt, aAsg, gNm, gTp, gCn, gNl, aTest, aAndT, aOrT, aNotT, aAndV, aOrV, aNotV, aOp, aUn, aN, aCall, aCons, aNil, aVar, aC, aIf, aTup, aChain, endsOf, aStart, vI0, vI, vLt, vLe, vGt, vGe, vSub, vAdd, vMul, vDiv, vMod, vAnd, vShr, vPow, vNeg, vEqF, vNeF, flatEq, vIsN, vNotN, vB2, Lz.isNon, vIx, vIn, nIsi, nLen, nAbs, nMax2, nMin2, nInt, nTup, items, iAny, aAll, Lz.iZip, aLc, aTrue, aLst, aApp, iRange1, iRange2, aFor, aSl, aoNone, aoSome, vSl, wipeS, List.map_cons, List.map_nil, List.length_cons, List.length_nil, List.replicate_zero, List.replicate_succ, List.cons_append, List.nil_append, List.append_nil, List.getElem?_cons_zero, List.getElem?_cons_succ, List.set_cons_zero, List.set_cons_succ, Nat.sub_self, Nat.zero_add, Nat.reduceAdd, Nat.reduceSub, Bool.not_true, Bool.not_false, hs2, hD2]
  have zr : ∀ k : Nat, List.replicate k (T.int 0) = (List.replicate k (0 : Int)).map T.int := fun k => by rw [List.map_replicate]
  refine ⟨true, m + n - 1, D, ps, List.replicate (m + n - 2) 0, s, by rw [show ((m + n - 1 : Nat) : Int) = (m : Int) + n - 1 by omega]; rfl, by rw [hD2, zr], hs2, by rw [List.length_replicate]; omega, by omega, by omega, ?_⟩
  simp only [aSeq, aNext, aDrop, aRet, aRetN, aIfS, aNever, aBrk, aCnt, aAsg, gNm, gTp, gCn, gNl, aTest, aAndT, aOrT, aNotT, aAndV, aOrV, aNotV, aOp, aUn, aN, aCall, aCons, aNil, aVar, aC, aIf, aTup, aChain, endsOf, aStart, vI0, vI, vLt, vLe, vGt, vGe, vSub, vAdd, vMul, vDiv, vMod, vAnd, vShr, vPow, vNeg, vEqF, vNeF, flatEq, vIsN, vNotN, vB2, Lz.isNon, vIx, vIn, nIsi, nLen, nAbs, nMax2, nMin2, nInt, nTup, items, iAny, aAll, Lz.iZip, aLc, aTrue, aLst, aApp, iRange1, iRange2, aFor, aSl, aoNone, aoSome, vSl, wipeS, List.map_cons, List.map_nil, List.length_cons, List.length_nil, List.replicate_zero, List.replicate_succ, List.cons_append, List.nil_append, List.append_nil, List.getElem?_cons_zero, List.getElem?_cons_succ, List.set_cons_zero, List.set_cons_succ, Nat.sub_self, Nat.zero_add, Nat.reduceAdd, Nat.reduceSub, Bool.not_true, Bool.not_false, hs2]
  refine ⟨sz (by decide), Knd.peak (m + n - 1), s, by rw [show (m : Int) + n - 1 = ((m + n - 1 : Nat) : Int) by omega]; rfl, ⟨by omega, by omega⟩, hw, by omega, ?_⟩
  have due := law_zero true (m := m + n - 1) (by omega) s
  rw [show m + n - 1 - 1 = m + n - 2 by omega] at due
  refine same_two due (run_fst_len true (m := m + n - 1) (by omega) s 1000 (by omega)) (by rw [run_len]; omega) ?_
  simp only [aSeq, aNext, aDrop, aRet, aRetN, aIfS, aNever, aBrk, aCnt, aAsg, gNm, gTp, gCn, gNl, aTest, aAndT, aOrT, aNotT, aAndV, aOrV, aNotV, aOp, aUn, aN, aCall, aCons, aNil, aVar, aC, aIf, aTup, aChain, endsOf, aStart, vI0, vI, vLt, vLe, vGt, vGe, vSub, vAdd, vMul, vDiv, vMod, vAnd, vShr, vPow, vNeg, vEqF, vNeF, flatEq, vIsN, vNotN, vB2, Lz.isNon, vIx, vIn, nIsi, nLen, nAbs, nMax2, nMin2, nInt, nTup, items, iAny, aAll, Lz.iZip, aLc, aTrue, aLst, aApp, iRange1, iRange2, aFor, aSl, aoNone, aoSome, vSl, wipeS, List.map_cons, List.map_nil, List.length_cons, List.length_nil, List.replicate_zero, List.replicate_succ, List.cons_append, List.nil_append, List.append_nil, List.getElem?_cons_zero, List.getElem?_cons_succ, List.set_cons_zero, List.set_cons_succ, Nat.sub_self, Nat.zero_add, Nat.reduceAdd, Nat.reduceSub, Bool.not_true, Bool.not_false, hD2]
  intro d hd
  rw [show cutT (List.replicate (m + n - 2) (T.int 0)) none (some ((m : Int) - 1)) = (List.replicate (m - 1) (0 : Int)).map T.int by
    rw [show (m : Int) - 1 = ((m - 1 : Nat) : Int) by omega, cutT_nat, List.take_replicate, Nat.min_eq_left (by omega), List.map_replicate]]
  have hs3 := sub_new (p := d) (o := .lst ((List.replicate (m - 1) (0 : Int)).map T.int)) Sub.refl hd _ _ hs2
  have hD3 := sub_new (p := d) (o := .lst ((List.replicate (m - 1) (0 : Int)).map T.int)) Sub.refl hd _ _ hD2
  have hd3 : Lz.set g2 d (.lst ((List.replicate (m - 1) (0 : Int)).map T.int)) d = some (.lst ((List.replicate (m - 1) (0 : Int)).map T.int)) := set_same
  have sub3 := sub_new (p := d) (o := .lst ((List.replicate (m - 1) (0 : Int)).map T.int)) sub2 hd
  generalize Lz.set g2 d (.lst ((List.replicate (m - 1) (0 : Int)).map T.int)) = g3 at hs3 hD3 hd3 sub3
  refine ⟨true, m, d, ps, List.replicate (m - 1) 0, s, rfl, hd3, hs3, by rw [List.length_replicate]; omega, by omega, by omega, ?_⟩
  simp only [aSeq, aNext, aDrop, aRet, aRetN, aIfS, aNever, aBrk, aCnt, aAsg, gNm, gTp, gCn, gNl, aTest, aAndT, aOrT, aNotT, aAndV, aOrV, aNotV, aOp, aUn, aN, aCall, aCons, aNil, aVar, aC, aIf, aTup, aChain, endsOf, aStart, vI0, vI, vLt, vLe, vGt, vGe, vSub, vAdd, vMul, vDiv, vMod, vAnd, vShr, vPow, vNeg, vEqF, vNeF, flatEq, vIsN, vNotN, vB2, Lz.isNon, vIx, vIn, nIsi, nLen, nAbs, nMax2, nMin2, nInt, nTup, items, iAny, aAll, Lz.iZip, aLc, aTrue, aLst, aApp, iRange1, iRange2, aFor, aSl, aoNone, aoSome, vSl, wipeS, List.map_cons, List.map_nil, List.length_cons, List.length_nil, List.replicate_zero, List.replicate_succ, List.cons_append, List.nil_append, List.append_nil, List.getElem?_cons_zero, List.getElem?_cons_succ, List.set_cons_zero, List.set_cons_succ, Nat.sub_self, Nat.zero_add, Nat.reduceAdd, Nat.reduceSub, Bool.not_true, Bool.not_false, hs3]
  refine ⟨sz (by decide), Knd.peak m, s, rfl, ⟨h1, by omega⟩, hw, by omega, ?_⟩
  have within := law_zero true h1 s
  refine same_two within (run_fst_len true h1 s 1000 (by omega)) (by rw [run_len]; omega) ?_
  rw [within]
  simp only [aSeq, aNext, aDrop, aRet, aRetN, aIfS, aNever, aBrk, aCnt, aAsg, gNm, gTp, gCn, gNl, aTest, aAndT, aOrT, aNotT, aAndV, aOrV, aNotV, aOp, aUn, aN, aCall, aCons, aNil, aVar, aC, aIf, aTup, aChain, endsOf, aStart, vI0, vI, vLt, vLe, vGt, vGe, vSub, vAdd, vMul, vDiv, vMod, vAnd, vShr, vPow, vNeg, vEqF, vNeF, flatEq, vIsN, vNotN, vB2, Lz.isNon, vIx, vIn, nIsi, nLen, nAbs, nMax2, nMin2, nInt, nTup, items, iAny, aAll, Lz.iZip, aLc, aTrue, aLst, aApp, iRange1, iRange2, aFor, aSl, aoNone, aoSome, vSl, wipeS, List.map_cons, List.map_nil, List.length_cons, List.length_nil, List.replicate_zero, List.replicate_succ, List.cons_append, List.nil_append, List.append_nil, List.getElem?_cons_zero, List.getElem?_cons_succ, List.set_cons_zero, List.set_cons_succ, Nat.sub_self, Nat.zero_add, Nat.reduceAdd, Nat.reduceSub, Bool.not_true, Bool.not_false, hD3, atI1]
  intro d2 hd2
  rw [show cutT (List.replicate (m + n - 2) (T.int 0)) none (some ((n : Int) - 1)) = (List.replicate (n - 1) (0 : Int)).map T.int by
    rw [show (n : Int) - 1 = ((n - 1 : Nat) : Int) by omega, cutT_nat, List.take_replicate, Nat.min_eq_left (by omega), List.map_replicate]]
  have hd24 : Lz.set g3 d2 (.lst ((List.replicate (n - 1) (0 : Int)).map T.int)) d2 = some (.lst ((List.replicate (n - 1) (0 : Int)).map T.int)) := set_same
  have sub4 := sub_new (p := d2) (o := .lst ((List.replicate (n - 1) (0 : Int)).map T.int)) sub3 hd2
  generalize Lz.set g3 d2 (.lst ((List.replicate (n - 1) (0 : Int)).map T.int)) = g4 at hd24 sub4
  simp only [iT, aSeq, aNext, aDrop, aRet, aRetN, aIfS, aNever, aBrk, aCnt, aAsg, gNm, gTp, gCn, gNl, aTest, aAndT, aOrT, aNotT, aAndV, aOrV, aNotV, aOp, aUn, aN, aCall, aCons, aNil, aVar, aC, aIf, aTup, aChain, endsOf, aStart, vI0, vI, vLt, vLe, vGt, vGe, vSub, vAdd, vMul, vDiv, vMod, vAnd, vShr, vPow, vNeg, vEqF, vNeF, flatEq, vIsN, vNotN, vB2, Lz.isNon, vIx, vIn, nIsi, nLen, nAbs, nMax2, nMin2, nInt, nTup, items, iAny, aAll, Lz.iZip, aLc, aTrue, aLst, aApp, iRange1, iRange2, aFor, aSl, aoNone, aoSome, vSl, wipeS, List.map_cons, List.map_nil, List.length_cons, List.length_nil, List.replicate_zero, List.replicate_succ, List.cons_append, List.nil_append, List.append_nil, List.getElem?_cons_zero, List.getElem?_cons_succ, List.set_cons_zero, List.set_cons_succ, Nat.sub_self, Nat.zero_add, Nat.reduceAdd, Nat.reduceSub, Bool.not_true, Bool.not_false]
  intro d3 hd3
  rw [kOf_wd]
  generalize hin : ((kOf true m).run (List.replicate (m - 1) 0) s).2 = win
  have lin : win.length = s.length := by rw [← hin, run_len]
  have hd25 := sub_new (p := d3) (o := .lst (win.map T.int)) Sub.refl hd3 _ _ hd24
  have hd35 : Lz.set g4 d3 (.lst (win.map T.int)) d3 = some (.lst (win.map T.int)) := set_same
  have sub5 := sub_new (p := d3) (o := .lst (win.map T.int)) sub4 hd3
  generalize Lz.set g4 d3 (.lst (win.map T.int)) = g5 at hd25 hd35 sub5
  refine ⟨true, n, d2, d3, List.replicate (n - 1) 0, win, rfl, hd25, hd35, by rw [List.length_replicate]; omega, by omega, by omega, ?_⟩
  simp only [aSeq, aNext, aDrop, aRet, aRetN, aIfS, aNever, aBrk, aCnt, aAsg, gNm, gTp, gCn, gNl, aTest, aAndT, aOrT, aNotT, aAndV, aOrV, aNotV, aOp, aUn, aN, aCall, aCons, aNil, aVar, aC, aIf, aTup, aChain, endsOf, aStart, vI0, vI, vLt, vLe, vGt, vGe, vSub, vAdd, vMul, vDiv, vMod, vAnd, vShr, vPow, vNeg, vEqF, vNeF, flatEq, vIsN, vNotN, vB2, Lz.isNon, vIx, vIn, nIsi, nLen, nAbs, nMax2, nMin2, nInt, nTup, items, iAny, aAll, Lz.iZip, aLc, aTrue, aLst, aApp, iRange1, iRange2, aFor, aSl, aoNone, aoSome, vSl, wipeS, List.map_cons, List.map_nil, List.length_cons, List.length_nil, List.replicate_zero, List.replicate_succ, List.cons_append, List.nil_append, List.append_nil, List.getElem?_cons_zero, List.getElem?_cons_succ, List.set_cons_zero, List.set_cons_succ, Nat.sub_self, Nat.zero_add, Nat.reduceAdd, Nat.reduceSub, Bool.not_true, Bool.not_false]
  have wwin : ∀ x ∈ win, Wo x := by
    intro x hx
    rw [← hin] at hx
    exact run_wo (m := m) ⟨h1, by omega⟩ s _ (st_zero (k := .peak m) ⟨h1, by omega⟩) hw x hx
  refine ⟨sz (by decide), Knd.peak n, win, rfl, ⟨h3, by omega⟩, wwin, by omega, ?_⟩
  have over := law_zero true h3 win
  rw [over, due]
  simp only [aSeq, aNext, aDrop, aRet, aRetN, aIfS, aNever, aBrk, aCnt, aAsg, gNm, gTp, gCn, gNl, aTest, aAndT, aOrT, aNotT, aAndV, aOrV, aNotV, aOp, aUn, aN, aCall, aCons, aNil, aVar, aC, aIf, aTup, aChain, endsOf, aStart, vI0, vI, vLt, vLe, vGt, vGe, vSub, vAdd, vMul, vDiv, vMod, vAnd, vShr, vPow, vNeg, vEqF, vNeF, flatEq, vIsN, vNotN, vB2, Lz.isNon, vIx, vIn, nIsi, nLen, nAbs, nMax2, nMin2, nInt, nTup, items, iAny, aAll, Lz.iZip, aLc, aTrue, aLst, aApp, iRange1, iRange2, aFor, aSl, aoNone, aoSome, vSl, wipeS, List.map_cons, List.map_nil, List.length_cons, List.length_nil, List.replicate_zero, List.replicate_succ, List.cons_append, List.nil_append, List.append_nil, List.getElem?_cons_zero, List.getElem?_cons_succ, List.set_cons_zero, List.set_cons_succ, Nat.sub_self, Nat.zero_add, Nat.reduceAdd, Nat.reduceSub, Bool.not_true, Bool.not_false, atI0, atI1, iT]
  have pp := peak_peak0 h1 h3 s
  have hin' : ((Knd.peak m).run (List.replicate (m - 1) 0) s).2 = win := hin
  rw [hin'] at pp
  refine ⟨sz (by decide), same_two ?_ (run_fst_len true h3 win 1000 (by omega)) (by rw [run_len]; omega) ⟨g, sub5, hA⟩⟩
  have e : ((kOf true (m + n - 1)).run (List.replicate ((kOf true (m + n - 1)).wd - 1) 0) s).2 = ((Knd.peak n).run (List.replicate ((Knd.peak n).wd - 1) 0) win).2 := pp.symm
  rw [e]
  rfl
end Tx

set_option Elab.async false
set_option linter.all false
set_option maxRecDepth 100000
set_option maxHeartbeats 4000000
namespace Tx
open PySem PySem.Spec PyProof.Rows L2 Lz
variable {ad : Str → Addr}
/-- [f(t) for t in ts], each may lay lists of its own -/
theorem lc_sub {C : G → Prop} {D : Addr} {u : AG} {te : AT} {s : SS} {A : T → G → Prop} {g0 : G} (hD : g0 D = none) (f : T → T) (hC : ∀ g, Lz.Sub g0 g → C g) : ∀ (ts acc : List T) (g : G), g D = some (.lst acc) → Lz.Sub g0 g → acc.length + ts.length ≤ sizeLine →
    (∀ t ∈ ts, ∀ g A', Lz.Sub g0 g → (∃ acc, g D = some (.lst acc)) → (∀ g', Lz.Sub g0 g' → g' D = g D → A' (f t) g') → u t s g fun s2 g2 => te s2 g2 A') → (∀ g', Lz.Sub g0 g' → g' D = some (.lst (acc ++ ts.map f)) → A (.ref D) g') → aLcL C D u aTrue te s A ts g
  | [], acc, g, e, sb, hl, h, hA => ⟨hC g sb, hA g sb (by rw [List.map_nil, List.append_nil]; exact e)⟩
  | t :: ts, acc, g, e, sb, hl, h, hA => by
    refine ⟨hC g sb, ?_⟩
    rw [List.length_cons] at hl
    refine h t List.mem_cons_self g _ sb ⟨acc, e⟩ fun g' sb' e' => ?_
    rw [e] at e'
    simp only [aTrue, e']
    refine ⟨by omega, lc_sub hD f hC ts (acc ++ [f t]) _ set_same (Sub.set sb' hD) (by rw [List.length_append, List.length_singleton]; omega) (fun t' ht => h t' (List.mem_cons_of_mem _ ht)) fun g'' sb'' e'' => hA g'' sb'' ?_⟩
    rw [e'', List.append_assoc, List.singleton_append, List.map_cons]
theorem sub_in {g g2 : G} {D : Addr} {o : O} (h : Lz.Sub g g2) (e : g2 D = none) : Lz.Sub g (Lz.set g2 D o) := sub_new h e
theorem means_taps (rest : AS) (D : AEnds) (g : G) (p ps q : Addr) (m : Nat) (s : List Int) (hs : g ps = some (.lst (s.map T.int))) (h1 : 1 ≤ m) (hw : ∀ x ∈ s, Wo x) (hl : s.length ≤ 40) (hm : m ≤ 128)
    (k : ∀ g3 a6, Lz.Sub g g3 → rest D [some (.ref p), some (.int m), some (.ref ps), some (.ref q), none, some (lawBoth false m (List.replicate (m - 1) 0) s), a6, none, none, none, none, none, none, none, none, none] g3) :
    (aSeq (aIfS (aTest (aOp (vIn false) (aVar 1) (aTup (aCons (aC (.int 1)) (aCons (aC (.int 2)) (aCons (aC (.int 4)) (aCons (aC (.int 8)) (aCons (aC (.int 16)) aNil)))))))) (aSeq (aAsg (aN nTup (aCons (aLc (iRange1 (aCons (aVar 1) aNil)) (gNm 4) aTrue (aOp vDiv (aC (.int 4096)) (aVar 1)) [4]) aNil)) (gNm 6))
  (aIfS (aNotT (aTest (aCall sp__law_same (fun _ _ => False) (aCons (aCall sp__law_from_start (fun _ _ => False) (aCons (aC (.str "taps")) (aCons (aTup (aCons (aVar 6) aNil)) (aCons (aN nTup (aCons (aVar 2) aNil)) aNil)))) (aCons (aVar 5) aNil))))) (aRet (aC (.bl false))) aNext)) aNext) rest)
      D [some (.ref p), some (.int m), some (.ref ps), some (.ref q), none, some (lawBoth false m (List.replicate (m - 1) 0) s), none, none, none, none, none, none, none, none, none, none] g := by
  simp only [aSeq, aNext, aDrop, aRet, aRetN, aIfS, aNever, aBrk, aCnt, aAsg, gNm, gTp, gCn, gNl, aTest, aAndT, aOrT, aNotT, aAndV, aOrV, aNotV, aOp, aUn, aN, aCall, aCons, aNil, aVar, aC, aIf, aTup, aChain, endsOf, aStart, vI0, vI, vLt, vLe, vGt, vGe, vSub, vAdd, vMul, vDiv, vMod, vAnd, vShr, vPow, vNeg, vEqF, vNeF, flatEq, vIsN, vNotN, vB2, Lz.isNon, vIx, vIn, nIsi, nLen, nAbs, nMax2, nMin2, nInt, nTup, items, iAny, aAll, Lz.iZip, aLc, aTrue, aLst, aApp, iRange1, iRange2, aFor, aSl, aoNone, aoSome, vSl, wipeS, List.map_cons, List.map_nil, List.length_cons, List.length_nil, List.replicate_zero, List.replicate_succ, List.cons_append, List.nil_append, List.append_nil, List.getElem?_cons_zero, List.getElem?_cons_succ, List.set_cons_zero, List.set_cons_succ, Nat.sub_self, Nat.zero_add, Nat.reduceAdd, Nat.reduceSub, Bool.not_true, Bool.not_false]
  refine ⟨sz (by decide), rfl, rfl, ?_⟩
  cases hq : (false ^^ ([T.int 1, T.int 2, T.int 4, T.int 8, T.int 16].any fun y => eqT y (T.int m))) with
  | false => exact k g none Sub.refl
  | true =>
    have hmm : m = 1 ∨ m = 2 ∨ m = 4 ∨ m = 8 ∨ m = 16 := by
      simp only [Bool.false_xor, List.any_cons, List.any_nil, Lz.eqT, Bool.or_false, Bool.or_eq_true, beq_iff_eq] at hq
      omega
    have hcm : (4096 / (m : Int)) * m = 4096 ∧ 0 < 4096 / (m : Int) ∧ 4096 / (m : Int) ≤ 4096 := by
      rcases hmm with rfl | rfl | rfl | rfl | rfl <;> decide
    simp only []
    refine ⟨⟨by omega, by omega⟩, fun d hd => ?_⟩
    rw [show ((m : Nat) : Int).toNat = m by omega]
    refine lc_const 4 (.int (4096 / (m : Int))) 0 m (by omega) (fun _ => trivial) (fun x acc A' hA' => ?_) ?_
    · simp only [aSeq, aNext, aDrop, aRet, aRetN, aIfS, aNever, aBrk, aCnt, aAsg, gNm, gTp, gCn, gNl, aTest, aAndT, aOrT, aNotT, aAndV, aOrV, aNotV, aOp, aUn, aN, aCall, aCons, aNil, aVar, aC, aIf, aTup, aChain, endsOf, aStart, vI0, vI, vLt, vLe, vGt, vGe, vSub, vAdd, vMul, vDiv, vMod, vAnd, vShr, vPow, vNeg, vEqF, vNeF, flatEq, vIsN, vNotN, vB2, Lz.isNon, vIx, vIn, nIsi, nLen, nAbs, nMax2, nMin2, nInt, nTup, items, iAny, aAll, Lz.iZip, aLc, aTrue, aLst, aApp, iRange1, iRange2, aFor, aSl, aoNone, aoSome, vSl, wipeS, List.map_cons, List.map_nil, List.length_cons, List.length_nil, List.replicate_zero, List.replicate_succ, List.cons_append, List.nil_append, List.append_nil, List.getElem?_cons_zero, List.getElem?_cons_succ, List.set_cons_zero, List.set_cons_succ, Nat.sub_self, Nat.zero_add, Nat.reduceAdd, Nat.reduceSub, Bool.not_true, Bool.not_false]
      exact ⟨⟨by omega, Nat.lt_of_lt_of_le ((Nat.log2_lt (k := 64) (by omega)).mpr (by omega)) (by decide)⟩, hA'⟩
    · have hs2 := sub_new (p := d) (o := .lst (List.replicate m (.int (4096 / (m : Int))))) Sub.refl hd _ _ hs
      have sub2 := sub_new (p := d) (o := .lst (List.replicate m (.int (4096 / (m : Int))))) Sub.refl hd
      have hd2 : Lz.set g d (.lst (List.replicate m (.int (4096 / (m : Int))))) d = some (.lst (List.replicate m (.int (4096 / (m : Int))))) := set_same
      generalize Lz.set g d (.lst (List.replicate m (.int (4096 / (m : Int))))) = g2 at hs2 sub2 hd2
      simp only [aSeq, aNext, aDrop, aRet, aRetN, aIfS, aNever, aBrk, aCnt, aAsg, gNm, gTp, gCn, gNl, aTest, aAndT, aOrT, aNotT, aAndV, aOrV, aNotV, aOp, aUn, aN, aCall, aCons, aNil, aVar, aC, aIf, aTup, aChain, endsOf, aStart, vI0, vI, vLt, vLe, vGt, vGe, vSub, vAdd, vMul, vDiv, vMod, vAnd, vShr, vPow, vNeg, vEqF, vNeF, flatEq, vIsN, vNotN, vB2, Lz.isNon, vIx, vIn, nIsi, nLen, nAbs, nMax2, nMin2, nInt, nTup, items, iAny, aAll, Lz.iZip, aLc, aTrue, aLst, aApp, iRange1, iRange2, aFor, aSl, aoNone, aoSome, vSl, wipeS, List.map_cons, List.map_nil, List.length_cons, List.length_nil, List.replicate_zero, List.replicate_succ, List.cons_append, List.nil_append, List.append_nil, List.getElem?_cons_zero, List.getElem?_cons_succ, List.set_cons_zero, List.set_cons_succ, Nat.sub_self, Nat.zero_add, Nat.reduceAdd, Nat.reduceSub, Bool.not_true, Bool.not_false, hd2, hs2, rep_iT]
      have okt : (Knd.taps (List.replicate m (4096 / (m : Int)))).ok := ⟨⟨by rw [List.length_replicate]; exact h1, by rw [List.length_replicate]; omega⟩, fun w hw => by rw [List.eq_of_mem_replicate hw]; omega⟩
      refine ⟨sz (by decide), Knd.taps (List.replicate m (4096 / (m : Int))), s, rfl, okt, hw, by omega, ?_⟩
      have ht := taps_mean h1 hcm.2.1 hcm.1 s (List.replicate (m - 1) 0) (by rw [List.length_replicate]; omega) (fun x hx => by rw [List.eq_of_mem_replicate hx]; exact ⟨by decide, by decide⟩) hw
      have hwd : (Knd.taps (List.replicate m (4096 / (m : Int)))).wd = m := List.length_replicate
      rw [hwd, ht]
      refine same_two (law_zero false h1 s) (run_fst_len false h1 s 1000 (by omega)) (by rw [run_len]; omega) ?_
      exact k g2 _ sub2
theorem means_head (rest : AS) (D : AEnds) (g : G) (p ps : Addr) (m : Nat) (s : List Int) (hs : g ps = some (.lst (s.map T.int))) (h1 : 1 ≤ m) (hw : ∀ x ∈ s, Wo x) (hl : s.length ≤ 40) (hm : m ≤ 128)
    (hrt : ∀ (b : T) g2, D.rt b g2 = D.rt b g2)
    (k : ∀ g3 q, Lz.Sub g g3 → rest D [some (.ref p), some (.int m), some (.ref ps), some (.ref q), none, some (lawBoth false m (List.replicate (m - 1) 0) s), none, none, none, none, none, none, none, none, none, none] g3) :
    (aSeq (aAsg (aLc (iRange1 (aCons (aOp vSub (aVar 1) (aC (.int 1))) aNil)) (gNm 4) aTrue (aC (.int 0)) [4]) (gNm 3))
  (aSeq (aAsg (aCall sp__law_windows (fun _ _ => False) (aCons (aC (.str "mean")) (aCons (aVar 1) (aCons (aVar 3) (aCons (aVar 2) aNil))))) (gNm 5))
  (aSeq (aIfS (aNotT (aTest (aCall sp__law_same (fun _ _ => False) (aCons (aCall sp__law_from_start (fun _ _ => False) (aCons (aC (.str "mean")) (aCons (aTup (aCons (aVar 1) aNil)) (aCons (aN nTup (aCons (aVar 2) aNil)) aNil)))) (aCons (aVar 5) aNil))))) (aRet (aC (.bl false))) aNext) rest)))
      D [some (.ref p), some (.int m), some (.ref ps), none, none, none, none, none, none, none, none, none, none, none, none, none] g := by
  simp only [aSeq, aNext, aDrop, aRet, aRetN, aIfS, aNever, aBrk, aCnt, aAsg, gNm, gTp, gCn, gNl, aTest, aAndT, aOrT, aNotT, aAndV, aOrV, aNotV, aOp, aUn, aN, aCall, aCons, aNil, aVar, aC, aIf, aTup, aChain, endsOf, aStart, vI0, vI, vLt, vLe, vGt, vGe, vSub, vAdd, vMul, vDiv, vMod, vAnd, vShr, vPow, vNeg, vEqF, vNeF, flatEq, vIsN, vNotN, vB2, Lz.isNon, vIx, vIn, nIsi, nLen, nAbs, nMax2, nMin2, nInt, nTup, items, iAny, aAll, Lz.iZip, aLc, aTrue, aLst, aApp, iRange1, iRange2, aFor, aSl, aoNone, aoSome, vSl, wipeS, List.map_cons, List.map_nil, List.length_cons, List.length_nil, List.replicate_zero, List.replicate_succ, List.cons_append, List.nil_append, List.append_nil, List.getElem?_cons_zero, List.getElem?_cons_succ, List.set_cons_zero, List.set_cons_succ, Nat.sub_self, Nat.zero_add, Nat.reduceAdd, Nat.reduceSub, Bool.not_true, Bool.not_false]
  refine ⟨⟨by omega, by omega⟩, fun d hd => ?_⟩
  rw [show ((m : Int) - 1).toNat = m - 1 by omega]
  refine lc_const 4 (.int 0) 0 (m - 1) (by omega) (fun _ => trivial) (fun x acc A' hA' => hA') ?_
  have hs2 := sub_new (p := d) (o := .lst (List.replicate (m - 1) (.int 0))) Sub.refl hd _ _ hs
  have sub2 := sub_new (p := d) (o := .lst (List.replicate (m - 1) (.int 0))) Sub.refl hd
  have hd2 : Lz.set g d (.lst (List.replicate (m - 1) (.int 0))) d = some (.lst (List.replicate (m - 1) (.int 0))) := set_same
  generalize Lz.set g d (.lst (List.replicate (m - 1) (.int 0))) = g2 at hs2 sub2 hd2
  refine ⟨false, m, d, ps, List.replicate (m - 1) 0, s, rfl, by rw [hd2, List.map_replicate], hs2, by rw [List.length_replicate]; omega, by omega, by omega, ?_⟩
  simp only [aSeq, aNext, aDrop, aRet, aRetN, aIfS, aNever, aBrk, aCnt, aAsg, gNm, gTp, gCn, gNl, aTest, aAndT, aOrT, aNotT, aAndV, aOrV, aNotV, aOp, aUn, aN, aCall, aCons, aNil, aVar, aC, aIf, aTup, aChain, endsOf, aStart, vI0, vI, vLt, vLe, vGt, vGe, vSub, vAdd, vMul, vDiv, vMod, vAnd, vShr, vPow, vNeg, vEqF, vNeF, flatEq, vIsN, vNotN, vB2, Lz.isNon, vIx, vIn, nIsi, nLen, nAbs, nMax2, nMin2, nInt, nTup, items, iAny, aAll, Lz.iZip, aLc, aTrue, aLst, aApp, iRange1, iRange2, aFor, aSl, aoNone, aoSome, vSl, wipeS, List.map_cons, List.map_nil, List.length_cons, List.length_nil, List.replicate_zero, List.replicate_succ, List.cons_append, List.nil_append, List.append_nil, List.getElem?_cons_zero, List.getElem?_cons_succ, List.set_cons_zero, List.set_cons_succ, Nat.sub_self, Nat.zero_add, Nat.reduceAdd, Nat.reduceSub, Bool.not_true, Bool.not_false, hs2]
  refine ⟨sz (by decide), Knd.mean m, s, rfl, ⟨h1, by omega⟩, hw, by omega, ?_⟩
  refine same_two (law_zero false h1 s) (run_fst_len false h1 s 1000 (by omega)) (by rw [run_len]; omega) ?_
  exact k g2 d sub2
theorem mem_rangeT0 {n : Nat} {t : T} (h : t ∈ Lz.rangeT 0 n) : ∃ k : Nat, k < n ∧ t = .int k := by
  unfold Lz.rangeT at h
  obtain ⟨k, hk, rfl⟩ := List.mem_map.mp h
  exact ⟨k, List.mem_range.mp hk, by simp⟩
theorem rangeT_len (lo : Int) (n : Nat) : (Lz.rangeT lo n).length = n := by unfold Lz.rangeT; rw [List.length_map, List.length_range]
def onK (f : Nat → Int) : T → T
  | .int i => .int (f i.toNat)
  | _ => .non
theorem map_onK (f : Nat → Int) (n : Nat) : (Lz.rangeT 0 n).map (onK f) = ((List.range n).map f).map T.int := by
  unfold Lz.rangeT
  rw [List.map_map, List.map_map]
  apply List.map_congr_left
  intro k _
  simp [Function.comp, onK]
def absT : T → T
  | .int x => .int (absI x)
  | _ => .non
theorem pf__law_means (ts g A B) (h : sp__law_means ts g A B) : r__law_means ad (endsOf A) (aStart N__law_means ts) g := by
  obtain ⟨p, m, ps, s, rfl, hp, np, hs, h1, h2, hw, hl0, hl, hA⟩ := h
  unfold r__law_means
  refine means_head _ _ g p ps m s hs h1 hw hl h2 (fun _ _ => rfl) fun g2 q sub2 => ?_
  refine means_taps _ _ g2 p ps q m s (sub2 _ _ hs) h1 hw hl h2 fun g3 a6 sub3 => ?_
  have hs3 := sub3 _ _ (sub2 _ _ hs)
  have sb3 := sub2.trans sub3
  simp only [aSeq, aNext, aDrop, aRet, aRetN, aIfS, aNever, aBrk, aCnt, aAsg, gNm, gTp, gCn, gNl, aTest, aAndT, aOrT, aNotT, aAndV, aOrV, aNotV, aOp, aUn, aN, aCall, aCons, aNil, aVar, aC, aIf, aTup, aChain, endsOf, aStart, vI0, vI, vLt, vLe, vGt, vGe, vSub, vAdd, vMul, vDiv, vMod, vAnd, vShr, vPow, vNeg, vEqF, vNeF, flatEq, vIsN, vNotN, vB2, Lz.isNon, vIx, vIn, nIsi, nLen, nAbs, nMax2, nMin2, nInt, nTup, items, iAny, aAll, Lz.iZip, aLc, aTrue, aLst, aApp, iRange1, iRange2, aFor, aSl, aoNone, aoSome, vSl, wipeS, List.map_cons, List.map_nil, List.length_cons, List.length_nil, List.replicate_zero, List.replicate_succ, List.cons_append, List.nil_append, List.append_nil, List.getElem?_cons_zero, List.getElem?_cons_succ, List.set_cons_zero, List.set_cons_succ, Nat.sub_self, Nat.zero_add, Nat.reduceAdd, Nat.reduceSub, Bool.not_true, Bool.not_false, hs3, List.length_map]
  refine ⟨⟨by omega, by omega⟩, fun d hd => ?_⟩
  rw [show ((s.length : Nat) : Int).toNat = s.length by omega]
  refine lc_sub hd (onK fun k => halfup ((s.take (k + 1)).sum) s.length) (fun _ _ => trivial) _ [] _ set_same (sub_new Sub.refl hd) (by rw [List.length_nil, rangeT_len]; exact sz (by omega)) (fun t ht g4 A' sb4 ⟨acc, ea⟩ hA' => ?_) fun g4 sb4 e4 => ?_
  · obtain ⟨k, hk, rfl⟩ := mem_rangeT0 ht
    simp only [aSeq, aNext, aDrop, aRet, aRetN, aIfS, aNever, aBrk, aCnt, aAsg, gNm, gTp, gCn, gNl, aTest, aAndT, aOrT, aNotT, aAndV, aOrV, aNotV, aOp, aUn, aN, aCall, aCons, aNil, aVar, aC, aIf, aTup, aChain, endsOf, aStart, vI0, vI, vLt, vLe, vGt, vGe, vSub, vAdd, vMul, vDiv, vMod, vAnd, vShr, vPow, vNeg, vEqF, vNeF, flatEq, vIsN, vNotN, vB2, Lz.isNon, vIx, vIn, nIsi, nLen, nAbs, nMax2, nMin2, nInt, nTup, items, iAny, aAll, Lz.iZip, aLc, aTrue, aLst, aApp, iRange1, iRange2, aFor, aSl, aoNone, aoSome, vSl, wipeS, List.map_cons, List.map_nil, List.length_cons, List.length_nil, List.replicate_zero, List.replicate_succ, List.cons_append, List.nil_append, List.append_nil, List.getElem?_cons_zero, List.getElem?_cons_succ, List.set_cons_zero, List.set_cons_succ, Nat.sub_self, Nat.zero_add, Nat.reduceAdd, Nat.reduceSub, Bool.not_true, Bool.not_false, sb4 _ _ hs3]
    intro c hc
    have hcd : c ≠ d := fun z => by rw [z, ea] at hc; cases hc
    simp only [nSum, aSeq, aNext, aDrop, aRet, aRetN, aIfS, aNever, aBrk, aCnt, aAsg, gNm, gTp, gCn, gNl, aTest, aAndT, aOrT, aNotT, aAndV, aOrV, aNotV, aOp, aUn, aN, aCall, aCons, aNil, aVar, aC, aIf, aTup, aChain, endsOf, aStart, vI0, vI, vLt, vLe, vGt, vGe, vSub, vAdd, vMul, vDiv, vMod, vAnd, vShr, vPow, vNeg, vEqF, vNeF, flatEq, vIsN, vNotN, vB2, Lz.isNon, vIx, vIn, nIsi, nLen, nAbs, nMax2, nMin2, nInt, nTup, items, iAny, aAll, Lz.iZip, aLc, aTrue, aLst, aApp, iRange1, iRange2, aFor, aSl, aoNone, aoSome, vSl, wipeS, List.map_cons, List.map_nil, List.length_cons, List.length_nil, List.replicate_zero, List.replicate_succ, List.cons_append, List.nil_append, List.append_nil, List.getElem?_cons_zero, List.getElem?_cons_succ, List.set_cons_zero, List.set_cons_succ, Nat.sub_self, Nat.zero_add, Nat.reduceAdd, Nat.reduceSub, Bool.not_true, Bool.not_false, set_same]
    rw [show ((k : Int) + 1) = ((k + 1 : Nat) : Int) by omega, cutT_nat, ← List.map_take, intsOf_map]
    refine ⟨_, _, rfl, by omega, by omega, ?_⟩
    have := hA' (Lz.set g4 c (.lst ((s.take (k + 1)).map T.int))) (sub_new sb4 hc) (by rw [set_ne (Ne.symm hcd)])
    simpa [onK] using this
  rw [List.nil_append, map_onK] at e4
  have hs4 := sb4 _ _ hs3
  have sbg4 := sb3.trans sb4
  have hp4 := hp.sub sbg4
  simp only [aSeq, aNext, aDrop, aRet, aRetN, aIfS, aNever, aBrk, aCnt, aAsg, gNm, gTp, gCn, gNl, aTest, aAndT, aOrT, aNotT, aAndV, aOrV, aNotV, aOp, aUn, aN, aCall, aCons, aNil, aVar, aC, aIf, aTup, aChain, endsOf, aStart, vI0, vI, vLt, vLe, vGt, vGe, vSub, vAdd, vMul, vDiv, vMod, vAnd, vShr, vPow, vNeg, vEqF, vNeF, flatEq, vIsN, vNotN, vB2, Lz.isNon, vIx, vIn, nIsi, nLen, nAbs, nMax2, nMin2, nInt, nTup, items, iAny, aAll, Lz.iZip, aLc, aTrue, aLst, aApp, iRange1, iRange2, aFor, aSl, aoNone, aoSome, vSl, wipeS, List.map_cons, List.map_nil, List.length_cons, List.length_nil, List.replicate_zero, List.replicate_succ, List.cons_append, List.nil_append, List.append_nil, List.getElem?_cons_zero, List.getElem?_cons_succ, List.set_cons_zero, List.set_cons_succ, Nat.sub_self, Nat.zero_add, Nat.reduceAdd, Nat.reduceSub, Bool.not_true, Bool.not_false, aTupRev, hs4]
  intro c hc
  have ec1 : cutT (s.map T.int) (some 1) none = (s.drop 1).map T.int := by
    have := cutT_from (s.map T.int) 1 (by rw [List.length_map]; exact hl0)
    rw [← List.map_drop] at this
    exact this
  rw [ec1]
  have hs5 := sub_new (p := c) (o := .lst ((s.drop 1).map T.int)) Sub.refl hc _ _ hs4
  have e5 := sub_new (p := c) (o := .lst ((s.drop 1).map T.int)) Sub.refl hc _ _ e4
  have sb5 := sub_new (p := c) (o := .lst ((s.drop 1).map T.int)) sbg4 hc
  have hc5 : Lz.set g4 c (.lst ((s.drop 1).map T.int)) c = some (.lst ((s.drop 1).map T.int)) := set_same
  generalize Lz.set g4 c (.lst ((s.drop 1).map T.int)) = g5 at hs5 e5 sb5 hc5
  simp only [aSeq, aNext, aDrop, aRet, aRetN, aIfS, aNever, aBrk, aCnt, aAsg, gNm, gTp, gCn, gNl, aTest, aAndT, aOrT, aNotT, aAndV, aOrV, aNotV, aOp, aUn, aN, aCall, aCons, aNil, aVar, aC, aIf, aTup, aChain, endsOf, aStart, vI0, vI, vLt, vLe, vGt, vGe, vSub, vAdd, vMul, vDiv, vMod, vAnd, vShr, vPow, vNeg, vEqF, vNeF, flatEq, vIsN, vNotN, vB2, Lz.isNon, vIx, vIn, nIsi, nLen, nAbs, nMax2, nMin2, nInt, nTup, items, iAny, aAll, Lz.iZip, aLc, aTrue, aLst, aApp, iRange1, iRange2, aFor, aSl, aoNone, aoSome, vSl, wipeS, List.map_cons, List.map_nil, List.length_cons, List.length_nil, List.replicate_zero, List.replicate_succ, List.cons_append, List.nil_append, List.append_nil, List.getElem?_cons_zero, List.getElem?_cons_succ, List.set_cons_zero, List.set_cons_succ, Nat.sub_self, Nat.zero_add, Nat.reduceAdd, Nat.reduceSub, Bool.not_true, Bool.not_false, hc5, hs5, e5, ← List.map_reverse]
  refine ⟨sz (by decide), Knd.mean s.length, s, rfl, ⟨hl0, by omega⟩, hw, by omega, ?_⟩
  simp only [aSeq, aNext, aDrop, aRet, aRetN, aIfS, aNever, aBrk, aCnt, aAsg, gNm, gTp, gCn, gNl, aTest, aAndT, aOrT, aNotT, aAndV, aOrV, aNotV, aOp, aUn, aN, aCall, aCons, aNil, aVar, aC, aIf, aTup, aChain, endsOf, aStart, vI0, vI, vLt, vLe, vGt, vGe, vSub, vAdd, vMul, vDiv, vMod, vAnd, vShr, vPow, vNeg, vEqF, vNeF, flatEq, vIsN, vNotN, vB2, Lz.isNon, vIx, vIn, nIsi, nLen, nAbs, nMax2, nMin2, nInt, nTup, items, iAny, aAll, Lz.iZip, aLc, aTrue, aLst, aApp, iRange1, iRange2, aFor, aSl, aoNone, aoSome, vSl, wipeS, List.map_cons, List.map_nil, List.length_cons, List.length_nil, List.replicate_zero, List.replicate_succ, List.cons_append, List.nil_append, List.append_nil, List.getElem?_cons_zero, List.getElem?_cons_succ, List.set_cons_zero, List.set_cons_succ, Nat.sub_self, Nat.zero_add, Nat.reduceAdd, Nat.reduceSub, Bool.not_true, Bool.not_false, e5]
  refine ⟨sz (by decide), ?_⟩
  rw [show (Knd.mean s.length).wd = s.length from rfl, mean_all hl0]
  refine same_two rfl (by rw [List.length_reverse, List.length_drop]; omega) (by rw [List.length_map, List.length_range]; omega) ?_
  simp only [aSeq, aNext, aDrop, aRet, aRetN, aIfS, aNever, aBrk, aCnt, aAsg, gNm, gTp, gCn, gNl, aTest, aAndT, aOrT, aNotT, aAndV, aOrV, aNotV, aOp, aUn, aN, aCall, aCons, aNil, aVar, aC, aIf, aTup, aChain, endsOf, aStart, vI0, vI, vLt, vLe, vGt, vGe, vSub, vAdd, vMul, vDiv, vMod, vAnd, vShr, vPow, vNeg, vEqF, vNeF, flatEq, vIsN, vNotN, vB2, Lz.isNon, vIx, vIn, nIsi, nLen, nAbs, nMax2, nMin2, nInt, nTup, items, iAny, aAll, Lz.iZip, aLc, aTrue, aLst, aApp, iRange1, iRange2, aFor, aSl, aoNone, aoSome, vSl, wipeS, List.map_cons, List.map_nil, List.length_cons, List.length_nil, List.replicate_zero, List.replicate_succ, List.cons_append, List.nil_append, List.append_nil, List.getElem?_cons_zero, List.getElem?_cons_succ, List.set_cons_zero, List.set_cons_succ, Nat.sub_self, Nat.zero_add, Nat.reduceAdd, Nat.reduceSub, Bool.not_true, Bool.not_false, hs5]
  intro b hb
  refine lc_map absT (fun acc => by rw [set_ne (fun z => by rw [← z, hs5] at hb; cases hb)]; exact hs5) _ [] (by rw [List.length_nil, Nat.zero_add, List.length_map]; exact sz (by omega)) (fun t ht acc A' hA' => ?_) ?_
  · obtain ⟨x, hx, rfl⟩ := List.mem_map.mp ht
    simp only [aSeq, aNext, aDrop, aRet, aRetN, aIfS, aNever, aBrk, aCnt, aAsg, gNm, gTp, gCn, gNl, aTest, aAndT, aOrT, aNotT, aAndV, aOrV, aNotV, aOp, aUn, aN, aCall, aCons, aNil, aVar, aC, aIf, aTup, aChain, endsOf, aStart, vI0, vI, vLt, vLe, vGt, vGe, vSub, vAdd, vMul, vDiv, vMod, vAnd, vShr, vPow, vNeg, vEqF, vNeF, flatEq, vIsN, vNotN, vB2, Lz.isNon, vIx, vIn, nIsi, nLen, nAbs, nMax2, nMin2, nInt, nTup, items, iAny, aAll, Lz.iZip, aLc, aTrue, aLst, aApp, iRange1, iRange2, aFor, aSl, aoNone, aoSome, vSl, wipeS, List.map_cons, List.map_nil, List.length_cons, List.length_nil, List.replicate_zero, List.replicate_succ, List.cons_append, List.nil_append, List.append_nil, List.getElem?_cons_zero, List.getElem?_cons_succ, List.set_cons_zero, List.set_cons_succ, Nat.sub_self, Nat.zero_add, Nat.reduceAdd, Nat.reduceSub, Bool.not_true, Bool.not_false, absI_eq]
    exact hA'
  rw [List.nil_append, show (s.map T.int).map absT = (s.map absI).map T.int by rw [List.map_map, List.map_map]; rfl]
  have hs6 := sub_new (p := b) (o := .lst ((s.map absI).map T.int)) Sub.refl hb _ _ hs5
  have sb6 := sub_new (p := b) (o := .lst ((s.map absI).map T.int)) sb5 hb
  have hb6 : Lz.set g5 b (.lst ((s.map absI).map T.int)) b = some (.lst ((s.map absI).map T.int)) := set_same
  have pb : p ≠ b := fun z => by
    obtain ⟨x, y, e⟩ := hp
    have := sb5 _ _ e
    rw [z, hb] at this
    cases this
  generalize Lz.set g5 b (.lst ((s.map absI).map T.int)) = g6 at hs6 sb6 hb6
  have hp6 := hp.sub sb6
  refine ⟨p, 9, rfl, hp6, by decide, by decide, fun r q0 q1 x1 y1 => ?_⟩
  obtain ⟨more, rfl⟩ : ∃ k : Nat, r = k := ⟨r.toNat, by omega⟩
  have hs7 : Lz.set g6 p (.lst [.int x1, .int y1]) ps = some (.lst (s.map T.int)) := by rw [set_ne (Ne.symm np)]; exact hs6
  have hb7 : Lz.set g6 p (.lst [.int x1, .int y1]) b = some (.lst ((s.map absI).map T.int)) := by rw [set_ne (Ne.symm pb)]; exact hb6
  have sb7 : Lz.Sub (Lz.set g p (.lst [.int x1, .int y1])) (Lz.set g6 p (.lst [.int x1, .int y1])) := sub_put sb6
  generalize hg7 : Lz.set g6 p (.lst [.int x1, .int y1]) = g7 at hs7 hb7 sb7
  simp only [aSeq, aNext, aDrop, aRet, aRetN, aIfS, aNever, aBrk, aCnt, aAsg, gNm, gTp, gCn, gNl, aTest, aAndT, aOrT, aNotT, aAndV, aOrV, aNotV, aOp, aUn, aN, aCall, aCons, aNil, aVar, aC, aIf, aTup, aChain, endsOf, aStart, vI0, vI, vLt, vLe, vGt, vGe, vSub, vAdd, vMul, vDiv, vMod, vAnd, vShr, vPow, vNeg, vEqF, vNeF, flatEq, vIsN, vNotN, vB2, Lz.isNon, vIx, vIn, nIsi, nLen, nAbs, nMax2, nMin2, nInt, nTup, items, iAny, aAll, Lz.iZip, aLc, aTrue, aLst, aApp, iRange1, iRange2, aFor, aSl, aoNone, aoSome, vSl, wipeS, List.map_cons, List.map_nil, List.length_cons, List.length_nil, List.replicate_zero, List.replicate_succ, List.cons_append, List.nil_append, List.append_nil, List.getElem?_cons_zero, List.getElem?_cons_succ, List.set_cons_zero, List.set_cons_succ, Nat.sub_self, Nat.zero_add, Nat.reduceAdd, Nat.reduceSub, Bool.not_true, Bool.not_false, aTupRev, hb7]
  intro f hf
  have edec : (if decide ((more : Int) = 0) = true then (1 : Int) else 0) = ((if more = 0 then 1 else 0 : Nat) : Int) := by
    by_cases h : more = 0
    · subst h; rfl
    · rw [if_neg h, if_neg]
      · rfl
      · intro hh
        have := of_decide_eq_true hh
        omega
  rw [edec, cutT_from _ _ (by rw [List.length_map, List.length_map]; split <;> omega), ← List.map_drop]
  have hs8 := sub_new (p := f) (o := .lst (((s.map absI).drop (if more = 0 then 1 else 0)).map T.int)) Sub.refl hf _ _ hs7
  have hb8 := sub_new (p := f) (o := .lst (((s.map absI).drop (if more = 0 then 1 else 0)).map T.int)) Sub.refl hf _ _ hb7
  have hf8 : Lz.set g7 f (.lst (((s.map absI).drop (if more = 0 then 1 else 0)).map T.int)) f = some (.lst (((s.map absI).drop (if more = 0 then 1 else 0)).map T.int)) := set_same
  have sb8 := sub_new (p := f) (o := .lst (((s.map absI).drop (if more = 0 then 1 else 0)).map T.int)) sb7 hf
  generalize Lz.set g7 f (.lst (((s.map absI).drop (if more = 0 then 1 else 0)).map T.int)) = g8 at hs8 hb8 hf8 sb8
  simp only [aSeq, aNext, aDrop, aRet, aRetN, aIfS, aNever, aBrk, aCnt, aAsg, gNm, gTp, gCn, gNl, aTest, aAndT, aOrT, aNotT, aAndV, aOrV, aNotV, aOp, aUn, aN, aCall, aCons, aNil, aVar, aC, aIf, aTup, aChain, endsOf, aStart, vI0, vI, vLt, vLe, vGt, vGe, vSub, vAdd, vMul, vDiv, vMod, vAnd, vShr, vPow, vNeg, vEqF, vNeF, flatEq, vIsN, vNotN, vB2, Lz.isNon, vIx, vIn, nIsi, nLen, nAbs, nMax2, nMin2, nInt, nTup, items, iAny, aAll, Lz.iZip, aLc, aTrue, aLst, aApp, iRange1, iRange2, aFor, aSl, aoNone, aoSome, vSl, wipeS, List.map_cons, List.map_nil, List.length_cons, List.length_nil, List.replicate_zero, List.replicate_succ, List.cons_append, List.nil_append, List.append_nil, List.getElem?_cons_zero, List.getElem?_cons_succ, List.set_cons_zero, List.set_cons_succ, Nat.sub_self, Nat.zero_add, Nat.reduceAdd, Nat.reduceSub, Bool.not_true, Bool.not_false, hf8, ← List.map_reverse]
  have emore : (if (more : Int) - 1 > 0 then (more : Int) - 1 else 0) = ((more - 1 : Nat) : Int) := by split <;> omega
  simp only [emore, Int.toNat_natCast, flat_rep]
  have hheld : ((s.map absI).drop (if more = 0 then 1 else 0)).reverse.map T.int ++ List.replicate (more - 1) (T.int 0) = (((s.map absI).drop (if more = 0 then 1 else 0)).reverse ++ List.replicate (more - 1) 0).map T.int := by rw [List.map_append, List.map_replicate]
  rw [hheld]
  have hsl : (s.map absI).length = s.length := List.length_map ..
  have lheld : (((s.map absI).drop (if more = 0 then 1 else 0)).reverse ++ List.replicate (more - 1) 0).length ≤ 60 := by
    rw [List.length_append, List.length_reverse, List.length_drop, List.length_replicate, hsl]
    omega
  refine ⟨sz (by decide), ⟨by omega, by omega⟩, by omega, ?_, ⟨by omega, by omega⟩, fun c9 hc9 => ?_⟩
  · rw [List.length_map, List.length_reverse, List.length_drop, List.length_replicate, hsl]
    exact sz (by omega)
  refine lc_sub hc9 (onK fun k => maxL ((s.map absI).take (k + 1))) (fun _ _ => trivial) _ [] _ set_same (sub_new Sub.refl hc9) (by rw [List.length_nil, rangeT_len]; exact sz (by omega)) (fun t ht g9 A' sb9 ⟨acc, ea⟩ hA' => ?_) fun g9 sb9 e9 => ?_
  · obtain ⟨k, hk, rfl⟩ := mem_rangeT0 ht
    simp only [aSeq, aNext, aDrop, aRet, aRetN, aIfS, aNever, aBrk, aCnt, aAsg, gNm, gTp, gCn, gNl, aTest, aAndT, aOrT, aNotT, aAndV, aOrV, aNotV, aOp, aUn, aN, aCall, aCons, aNil, aVar, aC, aIf, aTup, aChain, endsOf, aStart, vI0, vI, vLt, vLe, vGt, vGe, vSub, vAdd, vMul, vDiv, vMod, vAnd, vShr, vPow, vNeg, vEqF, vNeF, flatEq, vIsN, vNotN, vB2, Lz.isNon, vIx, vIn, nIsi, nLen, nAbs, nMax2, nMin2, nInt, nTup, items, iAny, aAll, Lz.iZip, aLc, aTrue, aLst, aApp, iRange1, iRange2, aFor, aSl, aoNone, aoSome, vSl, wipeS, List.map_cons, List.map_nil, List.length_cons, List.length_nil, List.replicate_zero, List.replicate_succ, List.cons_append, List.nil_append, List.append_nil, List.getElem?_cons_zero, List.getElem?_cons_succ, List.set_cons_zero, List.set_cons_succ, Nat.sub_self, Nat.zero_add, Nat.reduceAdd, Nat.reduceSub, Bool.not_true, Bool.not_false, sb9 _ _ hb8]
    intro c hc
    have hcd : c ≠ c9 := fun z => by rw [z, ea] at hc; cases hc
    simp only [nBest, aSeq, aNext, aDrop, aRet, aRetN, aIfS, aNever, aBrk, aCnt, aAsg, gNm, gTp, gCn, gNl, aTest, aAndT, aOrT, aNotT, aAndV, aOrV, aNotV, aOp, aUn, aN, aCall, aCons, aNil, aVar, aC, aIf, aTup, aChain, endsOf, aStart, vI0, vI, vLt, vLe, vGt, vGe, vSub, vAdd, vMul, vDiv, vMod, vAnd, vShr, vPow, vNeg, vEqF, vNeF, flatEq, vIsN, vNotN, vB2, Lz.isNon, vIx, vIn, nIsi, nLen, nAbs, nMax2, nMin2, nInt, nTup, items, iAny, aAll, Lz.iZip, aLc, aTrue, aLst, aApp, iRange1, iRange2, aFor, aSl, aoNone, aoSome, vSl, wipeS, List.map_cons, List.map_nil, List.length_cons, List.length_nil, List.replicate_zero, List.replicate_succ, List.cons_append, List.nil_append, List.append_nil, List.getElem?_cons_zero, List.getElem?_cons_succ, List.set_cons_zero, List.set_cons_succ, Nat.sub_self, Nat.zero_add, Nat.reduceAdd, Nat.reduceSub, Bool.not_true, Bool.not_false, set_same]
    rw [show ((k : Int) + 1) = ((k + 1 : Nat) : Int) by omega, cutT_nat, ← List.map_take, intsOf_map]
    refine max_said (P := fun M => A' (.int M) _) ?_ (by rw [List.length_take, hsl]; omega)
    have := hA' (Lz.set g9 c (.lst (((s.map absI).take (k + 1)).map T.int))) (sub_new sb9 hc) (by rw [set_ne (Ne.symm hcd)])
    simpa [onK] using this
  rw [List.nil_append, map_onK] at e9
  have hs9 := sb9 _ _ hs8
  have sbA := sb8.trans sb9
  simp only [aSeq, aNext, aDrop, aRet, aRetN, aIfS, aNever, aBrk, aCnt, aAsg, gNm, gTp, gCn, gNl, aTest, aAndT, aOrT, aNotT, aAndV, aOrV, aNotV, aOp, aUn, aN, aCall, aCons, aNil, aVar, aC, aIf, aTup, aChain, endsOf, aStart, vI0, vI, vLt, vLe, vGt, vGe, vSub, vAdd, vMul, vDiv, vMod, vAnd, vShr, vPow, vNeg, vEqF, vNeF, flatEq, vIsN, vNotN, vB2, Lz.isNon, vIx, vIn, nIsi, nLen, nAbs, nMax2, nMin2, nInt, nTup, items, iAny, aAll, Lz.iZip, aLc, aTrue, aLst, aApp, iRange1, iRange2, aFor, aSl, aoNone, aoSome, vSl, wipeS, List.map_cons, List.map_nil, List.length_cons, List.length_nil, List.replicate_zero, List.replicate_succ, List.cons_append, List.nil_append, List.append_nil, List.getElem?_cons_zero, List.getElem?_cons_succ, List.set_cons_zero, List.set_cons_succ, Nat.sub_self, Nat.zero_add, Nat.reduceAdd, Nat.reduceSub, Bool.not_true, Bool.not_false, e9, hs9]
  refine ⟨sz (by decide), Knd.peak (s.length + more), s, by rw [show ((s.length : Int) + more) = ((s.length + more : Nat) : Int) by omega]; rfl, ⟨by omega, by omega⟩, hw, by omega, sz (by decide), ?_⟩
  rw [show (Knd.peak (s.length + more)).wd = s.length + more from rfl, peak_all hl0 more]
  refine same_two rfl (Nat.le_trans lheld (by decide)) (by rw [List.length_map, List.length_range]; omega) ?_
  simp only [aSeq, aNext, aDrop, aRet, aRetN, aIfS, aNever, aBrk, aCnt, aAsg, gNm, gTp, gCn, gNl, aTest, aAndT, aOrT, aNotT, aAndV, aOrV, aNotV, aOp, aUn, aN, aCall, aCons, aNil, aVar, aC, aIf, aTup, aChain, endsOf, aStart, vI0, vI, vLt, vLe, vGt, vGe, vSub, vAdd, vMul, vDiv, vMod, vAnd, vShr, vPow, vNeg, vEqF, vNeF, flatEq, vIsN, vNotN, vB2, Lz.isNon, vIx, vIn, nIsi, nLen, nAbs, nMax2, nMin2, nInt, nTup, items, iAny, aAll, Lz.iZip, aLc, aTrue, aLst, aApp, iRange1, iRange2, aFor, aSl, aoNone, aoSome, vSl, wipeS, List.map_cons, List.map_nil, List.length_cons, List.length_nil, List.replicate_zero, List.replicate_succ, List.cons_append, List.nil_append, List.append_nil, List.getElem?_cons_zero, List.getElem?_cons_succ, List.set_cons_zero, List.set_cons_succ, Nat.sub_self, Nat.zero_add, Nat.reduceAdd, Nat.reduceSub, Bool.not_true, Bool.not_false]
  have hpA : Pot g9 p := ⟨x1, y1, sbA _ _ set_same⟩
  refine ⟨p, 7, rfl, hpA, by decide, by decide, fun r q2 q3 x2 y2 => ?_⟩
  obtain ⟨lead, rfl⟩ : ∃ k : Nat, r = k := ⟨r.toNat, by omega⟩
  have hsB : Lz.set g9 p (.lst [.int x2, .int y2]) ps = some (.lst (s.map T.int)) := by rw [set_ne (Ne.symm np)]; exact hs9
  have sbB : Lz.Sub (Lz.set g p (.lst [.int x2, .int y2])) (Lz.set g9 p (.lst [.int x2, .int y2])) := by
    have := sub_put (p := p) (o := .lst [.int x2, .int y2]) sbA
    rw [set_set] at this
    exact this
  generalize Lz.set g9 p (.lst [.int x2, .int y2]) = gB at hsB sbB
  simp only [aSeq, aNext, aDrop, aRet, aRetN, aIfS, aNever, aBrk, aCnt, aAsg, gNm, gTp, gCn, gNl, aTest, aAndT, aOrT, aNotT, aAndV, aOrV, aNotV, aOp, aUn, aN, aCall, aCons, aNil, aVar, aC, aIf, aTup, aChain, endsOf, aStart, vI0, vI, vLt, vLe, vGt, vGe, vSub, vAdd, vMul, vDiv, vMod, vAnd, vShr, vPow, vNeg, vEqF, vNeF, flatEq, vIsN, vNotN, vB2, Lz.isNon, vIx, vIn, nIsi, nLen, nAbs, nMax2, nMin2, nInt, nTup, items, iAny, aAll, Lz.iZip, aLc, aTrue, aLst, aApp, iRange1, iRange2, aFor, aSl, aoNone, aoSome, vSl, wipeS, List.map_cons, List.map_nil, List.length_cons, List.length_nil, List.replicate_zero, List.replicate_succ, List.cons_append, List.nil_append, List.append_nil, List.getElem?_cons_zero, List.getElem?_cons_succ, List.set_cons_zero, List.set_cons_succ, Nat.sub_self, Nat.zero_add, Nat.reduceAdd, Nat.reduceSub, Bool.not_true, Bool.not_false]
  refine ⟨⟨by omega, by omega⟩, fun cB hcB => ?_⟩
  rw [Int.toNat_natCast]
  refine lc_const 4 (.int 0) 0 lead (by omega) (fun _ => trivial) (fun x acc A' hA' => hA') ?_
  have hsC := sub_new (p := cB) (o := .lst (List.replicate lead (.int 0))) Sub.refl hcB _ _ hsB
  have hcC : Lz.set gB cB (.lst (List.replicate lead (.int 0))) cB = some (.lst (List.replicate lead (.int 0))) := set_same
  have sbC := sub_new (p := cB) (o := .lst (List.replicate lead (.int 0))) sbB hcB
  generalize Lz.set gB cB (.lst (List.replicate lead (.int 0))) = gC at hsC hcC sbC
  simp only [aSeq, aNext, aDrop, aRet, aRetN, aIfS, aNever, aBrk, aCnt, aAsg, gNm, gTp, gCn, gNl, aTest, aAndT, aOrT, aNotT, aAndV, aOrV, aNotV, aOp, aUn, aN, aCall, aCons, aNil, aVar, aC, aIf, aTup, aChain, endsOf, aStart, vI0, vI, vLt, vLe, vGt, vGe, vSub, vAdd, vMul, vDiv, vMod, vAnd, vShr, vPow, vNeg, vEqF, vNeF, flatEq, vIsN, vNotN, vB2, Lz.isNon, vIx, vIn, nIsi, nLen, nAbs, nMax2, nMin2, nInt, nTup, items, iAny, aAll, Lz.iZip, aLc, aTrue, aLst, aApp, iRange1, iRange2, aFor, aSl, aoNone, aoSome, vSl, wipeS, List.map_cons, List.map_nil, List.length_cons, List.length_nil, List.replicate_zero, List.replicate_succ, List.cons_append, List.nil_append, List.append_nil, List.getElem?_cons_zero, List.getElem?_cons_succ, List.set_cons_zero, List.set_cons_succ, Nat.sub_self, Nat.zero_add, Nat.reduceAdd, Nat.reduceSub, Bool.not_true, Bool.not_false, hsC, hcC]
  refine ⟨sz (by decide), sz (by rw [List.length_replicate, List.length_map]; omega), fun cD hcD => ?_⟩
  have hcCD := sub_new (p := cD) (o := .lst (List.replicate lead (.int 0) ++ s.map T.int)) Sub.refl hcD _ _ hcC
  have hcDD : Lz.set gC cD (.lst (List.replicate lead (.int 0) ++ s.map T.int)) cD = some (.lst (List.replicate lead (.int 0) ++ s.map T.int)) := set_same
  have sbD := sub_new (p := cD) (o := .lst (List.replicate lead (.int 0) ++ s.map T.int)) sbC hcD
  generalize Lz.set gC cD (.lst (List.replicate lead (.int 0) ++ s.map T.int)) = gD at hcCD hcDD sbD
  simp only [aSeq, aNext, aDrop, aRet, aRetN, aIfS, aNever, aBrk, aCnt, aAsg, gNm, gTp, gCn, gNl, aTest, aAndT, aOrT, aNotT, aAndV, aOrV, aNotV, aOp, aUn, aN, aCall, aCons, aNil, aVar, aC, aIf, aTup, aChain, endsOf, aStart, vI0, vI, vLt, vLe, vGt, vGe, vSub, vAdd, vMul, vDiv, vMod, vAnd, vShr, vPow, vNeg, vEqF, vNeF, flatEq, vIsN, vNotN, vB2, Lz.isNon, vIx, vIn, nIsi, nLen, nAbs, nMax2, nMin2, nInt, nTup, items, iAny, aAll, Lz.iZip, aLc, aTrue, aLst, aApp, iRange1, iRange2, aFor, aSl, aoNone, aoSome, vSl, wipeS, List.map_cons, List.map_nil, List.length_cons, List.length_nil, List.replicate_zero, List.replicate_succ, List.cons_append, List.nil_append, List.append_nil, List.getElem?_cons_zero, List.getElem?_cons_succ, List.set_cons_zero, List.set_cons_succ, Nat.sub_self, Nat.zero_add, Nat.reduceAdd, Nat.reduceSub, Bool.not_true, Bool.not_false, hcCD, hcDD]
  have elead : List.replicate lead (T.int 0) ++ s.map T.int = (List.replicate lead 0 ++ s).map T.int := by rw [List.map_append, List.map_replicate]
  have okm : (Knd.mean m).ok := ⟨h1, by omega⟩
  refine ⟨Knd.mean m, List.replicate lead 0 ++ s, by rw [elead]; rfl, okm, fun x hx => ?_, by rw [List.length_append, List.length_replicate]; omega, ?_⟩
  · rcases List.mem_append.mp hx with h | h
    · rw [List.eq_of_mem_replicate h]; exact ⟨by decide, by decide⟩
    · exact hw x h
  rw [law_zero false h1 s]
  simp only [aSeq, aNext, aDrop, aRet, aRetN, aIfS, aNever, aBrk, aCnt, aAsg, gNm, gTp, gCn, gNl, aTest, aAndT, aOrT, aNotT, aAndV, aOrV, aNotV, aOp, aUn, aN, aCall, aCons, aNil, aVar, aC, aIf, aTup, aChain, endsOf, aStart, vI0, vI, vLt, vLe, vGt, vGe, vSub, vAdd, vMul, vDiv, vMod, vAnd, vShr, vPow, vNeg, vEqF, vNeF, flatEq, vIsN, vNotN, vB2, Lz.isNon, vIx, vIn, nIsi, nLen, nAbs, nMax2, nMin2, nInt, nTup, items, iAny, aAll, Lz.iZip, aLc, aTrue, aLst, aApp, iRange1, iRange2, aFor, aSl, aoNone, aoSome, vSl, wipeS, List.map_cons, List.map_nil, List.length_cons, List.length_nil, List.replicate_zero, List.replicate_succ, List.cons_append, List.nil_append, List.append_nil, List.getElem?_cons_zero, List.getElem?_cons_succ, List.set_cons_zero, List.set_cons_succ, Nat.sub_self, Nat.zero_add, Nat.reduceAdd, Nat.reduceSub, Bool.not_true, Bool.not_false, atI0, atI1, iT, hcCD]
  have app := run_append (Knd.mean m) (List.replicate lead 0) s (List.replicate (m - 1) 0)
  rw [mean_zeros h1] at app
  rw [show (Knd.mean m).wd = m from rfl, app]
  refine ⟨sz (by rw [List.length_replicate, List.length_map, run_len]; omega), sz (by decide), same_two ?_ (run_fst_len false h1 s 1000 (by omega)) (by rw [List.length_append, List.length_replicate, run_len]; omega) ?_⟩
  · rw [show List.replicate lead (T.int 0) = (List.replicate lead (0 : Int)).map T.int by rw [List.map_replicate], ← List.map_append]
    rfl
  · exact ⟨_, sbD, hA x2 y2⟩
end Tx

set_option Elab.async false
set_option linter.all false
set_option maxRecDepth 100000
set_option maxHeartbeats 4000000
namespace Tx
open PySem PySem.Spec PyProof.Rows L2 Lz
variable {ad : Str → Addr}
/-- g2 holds all that g holds but at p -/
def Ex (p : Addr) (g g2 : G) : Prop := ∀ q o, q ≠ p → g q = some o → g2 q = some o
theorem Ex.pot {p : Addr} {g g2 : G} {o : O} (h : Ex p g g2) : Ex p g (Lz.set g2 p o) := fun q u n e => by rw [set_ne n]; exact h q u n e
theorem Ex.new {p d : Addr} {g g2 : G} {o : O} (h : Ex p g g2) (e : g2 d = none) : Ex p g (Lz.set g2 d o) := fun q u n e1 => by
  have := h q u n e1
  rw [set_ne (fun z => by rw [z, e] at this; cases this)]
  exact this
theorem Ex.sub {p : Addr} {g g2 : G} (h : Ex p g g2) (hp : g p = none) : Lz.Sub g g2 := fun q o e => h q o (fun z => by rw [z, hp] at e; cases e) e
theorem Ex.trans {p : Addr} {g g2 g3 : G} (h : Ex p g g2) (k : Ex p g2 g3) : Ex p g g3 := fun q o n e => k q o n (h q o n e)
theorem Ex.refl {p : Addr} {g : G} : Ex p g g := fun _ _ _ e => e
theorem pot_ne {g : G} {p d : Addr} (h : Pot g p) (e : g d = none) : p ≠ d := fun z => by
  obtain ⟨a, b, q⟩ := h
  rw [z, e] at q
  cases q
/-- a list of worths, drawn -/
theorem lc_pot {p D : Addr} {i : Nat} {te : AT} {s : SS} {A : T → G → Prop} {g0 : G} (hpD : p ≠ D)
    (h : ∀ (x : T) (g : G) (A' : T → G → Prop), Pot g p → (∀ y : Int, Wo y → PotTo g p (A' (.int y))) → te (s.set i (some x)) g A') : ∀ (ts : List T) (acc : List Int) (g : G), g D = some (.lst (acc.map T.int)) → Ex p g0 g → g0 D = none → Pot g p → (∀ x ∈ acc, Wo x) → acc.length + ts.length ≤ 1000000 →
      (∀ (xs : List Int) g', xs.length = acc.length + ts.length → (∀ x ∈ xs, Wo x) → g' D = some (.lst (xs.map T.int)) → Ex p g0 g' → Pot g' p → A (.ref D) g') → aLcL (fun _ => True) D (gNm i) aTrue te s A ts g
  | [], acc, g, e, x1, n, hp, hw, hl, hA => ⟨trivial, hA acc g (by simp) hw e x1 hp⟩
  | t :: ts, acc, g, e, x1, n, hp, hw, hl, hA => by
    rw [List.length_cons] at hl
    refine ⟨trivial, h t g _ hp fun y hy a b => ?_⟩
    simp only [aTrue, set_ne (Ne.symm hpD), e]
    refine ⟨by rw [List.length_map]; exact Nat.lt_of_lt_of_le (show acc.length < 1000000 by omega) (sz (Nat.le_refl _)), ?_⟩
    have en : Lz.set (Lz.set g p (.lst [.int a, .int b])) D (.lst (acc.map T.int ++ [T.int y])) D = some (.lst ((acc ++ [y]).map T.int)) := by rw [set_same, List.map_append]; rfl
    have ex1 : Ex p g0 (Lz.set (Lz.set g p (.lst [.int a, .int b])) D (.lst (acc.map T.int ++ [T.int y]))) := fun q o nq eq => by
      rw [set_ne (fun z => by rw [z, n] at eq; cases eq), set_ne nq]
      exact x1 q o nq eq
    have pt : Pot (Lz.set (Lz.set g p (.lst [.int a, .int b])) D (.lst (acc.map T.int ++ [T.int y]))) p := ⟨a, b, by rw [set_ne hpD, set_same]⟩
    refine lc_pot hpD h ts (acc ++ [y]) _ en ex1 n pt (fun x hx => ?_) (by rw [List.length_append, List.length_singleton]; omega) fun xs g' hl' => hA xs g' (by rw [hl', List.length_append, List.length_singleton, List.length_cons]; omega)
    rcases List.mem_append.mp hx with h1 | h1
    · exact hw x h1
    · rw [List.mem_singleton.mp h1]; exact hy
theorem pf_law (ts g A B) (h : sp_law ts g A B) : r_law ad (endsOf A) (aStart N_law ts) g := by
  obtain ⟨t0, ns, rfl, ht, hA⟩ := h
  simp only [r_law, aSeq, aNext, aDrop, aRet, aRetN, aIfS, aNever, aBrk, aCnt, aAsg, gNm, gTp, gCn, gNl, aTest, aAndT, aOrT, aNotT, aAndV, aOrV, aNotV, aOp, aUn, aN, aCall, aCons, aNil, aVar, aC, aIf, aTup, aChain, endsOf, aStart, vI0, vI, vLt, vLe, vGt, vGe, vSub, vAdd, vMul, vDiv, vMod, vAnd, vShr, vPow, vNeg, vEqF, vNeF, flatEq, vIsN, vNotN, vB2, Lz.isNon, vIx, vIn, nIsi, nLen, nAbs, nMax2, nMin2, nInt, nTup, items, iAny, aAll, Lz.iZip, aLc, aTrue, aLst, aApp, iRange1, iRange2, aFor, aSl, aoNone, aoSome, vSl, wipeS, List.map_cons, List.map_nil, List.length_cons, List.length_nil, List.replicate_zero, List.replicate_succ, List.cons_append, List.nil_append, List.append_nil, List.getElem?_cons_zero, List.getElem?_cons_succ, List.set_cons_zero, List.set_cons_succ, Nat.sub_self, Nat.zero_add, Nat.reduceAdd, Nat.reduceSub, Bool.not_true, Bool.not_false]
  refine ⟨t0, ns, rfl, ht, fun p hp a b => ?_⟩
  have x1 : Ex p g (Lz.set g p (.lst [.int a, .int b])) := Ex.refl.pot
  have p1 := Pot.set g p a b
  generalize Lz.set g p (.lst [.int a, .int b]) = g1 at x1 p1 ⊢
  try simp only [aSeq, aNext, aDrop, aRet, aRetN, aIfS, aNever, aBrk, aCnt, aAsg, gNm, gTp, gCn, gNl, aTest, aAndT, aOrT, aNotT, aAndV, aOrV, aNotV, aOp, aUn, aN, aCall, aCons, aNil, aVar, aC, aIf, aTup, aChain, endsOf, aStart, vI0, vI, vLt, vLe, vGt, vGe, vSub, vAdd, vMul, vDiv, vMod, vAnd, vShr, vPow, vNeg, vEqF, vNeF, flatEq, vIsN, vNotN, vB2, Lz.isNon, vIx, vIn, nIsi, nLen, nAbs, nMax2, nMin2, nInt, nTup, items, iAny, aAll, Lz.iZip, aLc, aTrue, aLst, aApp, iRange1, iRange2, aFor, aSl, aoNone, aoSome, vSl, wipeS, List.map_cons, List.map_nil, List.length_cons, List.length_nil, List.replicate_zero, List.replicate_succ, List.cons_append, List.nil_append, List.append_nil, List.getElem?_cons_zero, List.getElem?_cons_succ, List.set_cons_zero, List.set_cons_succ, Nat.sub_self, Nat.zero_add, Nat.reduceAdd, Nat.reduceSub, Bool.not_true, Bool.not_false]
  refine ⟨sz (by decide), p, 4, rfl, p1, by decide, by decide, fun r q0 q1 a b => ?_⟩
  have x2 : Ex p g (Lz.set g1 p (.lst [.int a, .int b])) := x1.pot
  have p2 := Pot.set g1 p a b
  generalize Lz.set g1 p (.lst [.int a, .int b]) = g2 at x2 p2 ⊢
  have hr : r = 0 ∨ r = 1 ∨ r = 2 ∨ r = 3 := by omega
  have hwide : ∃ wide : Int, L2.atI [T.int 3, T.int 20, T.int 4000, T.int 1048575] r = some (.int wide) ∧ 0 ≤ wide ∧ wide ≤ 1048575 := by
    rcases hr with rfl | rfl | rfl | rfl <;> exact ⟨_, rfl, by decide, by decide⟩
  obtain ⟨wide, ew, w1, w2⟩ := hwide
  simp only [aSeq, aNext, aDrop, aRet, aRetN, aIfS, aNever, aBrk, aCnt, aAsg, gNm, gTp, gCn, gNl, aTest, aAndT, aOrT, aNotT, aAndV, aOrV, aNotV, aOp, aUn, aN, aCall, aCons, aNil, aVar, aC, aIf, aTup, aChain, endsOf, aStart, vI0, vI, vLt, vLe, vGt, vGe, vSub, vAdd, vMul, vDiv, vMod, vAnd, vShr, vPow, vNeg, vEqF, vNeF, flatEq, vIsN, vNotN, vB2, Lz.isNon, vIx, vIn, nIsi, nLen, nAbs, nMax2, nMin2, nInt, nTup, items, iAny, aAll, Lz.iZip, aLc, aTrue, aLst, aApp, iRange1, iRange2, aFor, aSl, aoNone, aoSome, vSl, wipeS, List.map_cons, List.map_nil, List.length_cons, List.length_nil, List.replicate_zero, List.replicate_succ, List.cons_append, List.nil_append, List.append_nil, List.getElem?_cons_zero, List.getElem?_cons_succ, List.set_cons_zero, List.set_cons_succ, Nat.sub_self, Nat.zero_add, Nat.reduceAdd, Nat.reduceSub, Bool.not_true, Bool.not_false, ew]
  refine ⟨p, rfl, p2, fun one o1 o2 a b => ?_⟩
  have x3 : Ex p g (Lz.set g2 p (.lst [.int a, .int b])) := x2.pot
  have p3 := Pot.set g2 p a b
  generalize Lz.set g2 p (.lst [.int a, .int b]) = g3 at x3 p3 ⊢
  refine ⟨p, rfl, p3, fun other o3 o4 a b => ?_⟩
  have x4 : Ex p g (Lz.set g3 p (.lst [.int a, .int b])) := x3.pot
  have p4 := Pot.set g3 p a b
  generalize Lz.set g3 p (.lst [.int a, .int b]) = g4 at x4 p4 ⊢
  try simp only [aSeq, aNext, aDrop, aRet, aRetN, aIfS, aNever, aBrk, aCnt, aAsg, gNm, gTp, gCn, gNl, aTest, aAndT, aOrT, aNotT, aAndV, aOrV, aNotV, aOp, aUn, aN, aCall, aCons, aNil, aVar, aC, aIf, aTup, aChain, endsOf, aStart, vI0, vI, vLt, vLe, vGt, vGe, vSub, vAdd, vMul, vDiv, vMod, vAnd, vShr, vPow, vNeg, vEqF, vNeF, flatEq, vIsN, vNotN, vB2, Lz.isNon, vIx, vIn, nIsi, nLen, nAbs, nMax2, nMin2, nInt, nTup, items, iAny, aAll, Lz.iZip, aLc, aTrue, aLst, aApp, iRange1, iRange2, aFor, aSl, aoNone, aoSome, vSl, wipeS, List.map_cons, List.map_nil, List.length_cons, List.length_nil, List.replicate_zero, List.replicate_succ, List.cons_append, List.nil_append, List.append_nil, List.getElem?_cons_zero, List.getElem?_cons_succ, List.set_cons_zero, List.set_cons_succ, Nat.sub_self, Nat.zero_add, Nat.reduceAdd, Nat.reduceSub, Bool.not_true, Bool.not_false]
  refine ⟨p, 40, rfl, p4, by decide, by decide, fun r5 q5 q6 a b => ?_⟩
  have x5 : Ex p g (Lz.set g4 p (.lst [.int a, .int b])) := x4.pot
  have p5 := Pot.set g4 p a b
  generalize Lz.set g4 p (.lst [.int a, .int b]) = g5 at x5 p5 ⊢
  try simp only [aSeq, aNext, aDrop, aRet, aRetN, aIfS, aNever, aBrk, aCnt, aAsg, gNm, gTp, gCn, gNl, aTest, aAndT, aOrT, aNotT, aAndV, aOrV, aNotV, aOp, aUn, aN, aCall, aCons, aNil, aVar, aC, aIf, aTup, aChain, endsOf, aStart, vI0, vI, vLt, vLe, vGt, vGe, vSub, vAdd, vMul, vDiv, vMod, vAnd, vShr, vPow, vNeg, vEqF, vNeF, flatEq, vIsN, vNotN, vB2, Lz.isNon, vIx, vIn, nIsi, nLen, nAbs, nMax2, nMin2, nInt, nTup, items, iAny, aAll, Lz.iZip, aLc, aTrue, aLst, aApp, iRange1, iRange2, aFor, aSl, aoNone, aoSome, vSl, wipeS, List.map_cons, List.map_nil, List.length_cons, List.length_nil, List.replicate_zero, List.replicate_succ, List.cons_append, List.nil_append, List.append_nil, List.getElem?_cons_zero, List.getElem?_cons_succ, List.set_cons_zero, List.set_cons_succ, Nat.sub_self, Nat.zero_add, Nat.reduceAdd, Nat.reduceSub, Bool.not_true, Bool.not_false]
  refine ⟨⟨by omega, by omega⟩, fun ps hps => ?_⟩
  have nps := pot_ne p5 hps
  refine lc_pot (g0 := g5) nps (fun x g A' hp' hA' => ?_) _ [] _ set_same (Ex.refl.new hps) hps ⟨_, _, by rw [set_ne nps]; exact p5.choose_spec.choose_spec⟩ (fun x hx => by cases hx) (by rw [List.length_nil, rangeT_len]; omega) fun s g6 hl6 hw6 e6 x6 p6 => ?_
  · try simp only [aSeq, aNext, aDrop, aRet, aRetN, aIfS, aNever, aBrk, aCnt, aAsg, gNm, gTp, gCn, gNl, aTest, aAndT, aOrT, aNotT, aAndV, aOrV, aNotV, aOp, aUn, aN, aCall, aCons, aNil, aVar, aC, aIf, aTup, aChain, endsOf, aStart, vI0, vI, vLt, vLe, vGt, vGe, vSub, vAdd, vMul, vDiv, vMod, vAnd, vShr, vPow, vNeg, vEqF, vNeF, flatEq, vIsN, vNotN, vB2, Lz.isNon, vIx, vIn, nIsi, nLen, nAbs, nMax2, nMin2, nInt, nTup, items, iAny, aAll, Lz.iZip, aLc, aTrue, aLst, aApp, iRange1, iRange2, aFor, aSl, aoNone, aoSome, vSl, wipeS, List.map_cons, List.map_nil, List.length_cons, List.length_nil, List.replicate_zero, List.replicate_succ, List.cons_append, List.nil_append, List.append_nil, List.getElem?_cons_zero, List.getElem?_cons_succ, List.set_cons_zero, List.set_cons_succ, Nat.sub_self, Nat.zero_add, Nat.reduceAdd, Nat.reduceSub, Bool.not_true, Bool.not_false]
    exact ⟨p, wide, rfl, hp', w1, w2, hA'⟩
  rw [List.length_nil, rangeT_len, Nat.zero_add] at hl6
  have x6' := x5.trans x6
  have hls : 1 ≤ s.length ∧ s.length ≤ 40 := by omega
  try simp only [aSeq, aNext, aDrop, aRet, aRetN, aIfS, aNever, aBrk, aCnt, aAsg, gNm, gTp, gCn, gNl, aTest, aAndT, aOrT, aNotT, aAndV, aOrV, aNotV, aOp, aUn, aN, aCall, aCons, aNil, aVar, aC, aIf, aTup, aChain, endsOf, aStart, vI0, vI, vLt, vLe, vGt, vGe, vSub, vAdd, vMul, vDiv, vMod, vAnd, vShr, vPow, vNeg, vEqF, vNeF, flatEq, vIsN, vNotN, vB2, Lz.isNon, vIx, vIn, nIsi, nLen, nAbs, nMax2, nMin2, nInt, nTup, items, iAny, aAll, Lz.iZip, aLc, aTrue, aLst, aApp, iRange1, iRange2, aFor, aSl, aoNone, aoSome, vSl, wipeS, List.map_cons, List.map_nil, List.length_cons, List.length_nil, List.replicate_zero, List.replicate_succ, List.cons_append, List.nil_append, List.append_nil, List.getElem?_cons_zero, List.getElem?_cons_succ, List.set_cons_zero, List.set_cons_succ, Nat.sub_self, Nat.zero_add, Nat.reduceAdd, Nat.reduceSub, Bool.not_true, Bool.not_false]
  refine ⟨sz (by decide), ?_⟩
  refine loop_by (fun rest st g7 => ∃ (ms : List Nat) (a6 a7 a8 : Option T), rest = ms.map (fun m : Nat => T.int m) ∧ (∀ m ∈ ms, 1 ≤ m ∧ m ≤ 128) ∧ st = [some t0, some (.ref p), some (.int wide), some (.int one), some (.int other), some (.ref ps), a6, a7, a8] ∧
      Ex p g g7 ∧ Pot g7 p ∧ g7 ps = some (.lst (s.map T.int))) ?_ ?_ _ _ _ ⟨[one, other], none, none, none, rfl, fun m hm => ?_, rfl, x6', p6, e6⟩
  · rintro st g7 ⟨ms, a6, a7, a8, hr7, hms, rfl, x7, p7, e7⟩
    refine ⟨trivial, ?_⟩
    try simp only [aSeq, aNext, aDrop, aRet, aRetN, aIfS, aNever, aBrk, aCnt, aAsg, gNm, gTp, gCn, gNl, aTest, aAndT, aOrT, aNotT, aAndV, aOrV, aNotV, aOp, aUn, aN, aCall, aCons, aNil, aVar, aC, aIf, aTup, aChain, endsOf, aStart, vI0, vI, vLt, vLe, vGt, vGe, vSub, vAdd, vMul, vDiv, vMod, vAnd, vShr, vPow, vNeg, vEqF, vNeF, flatEq, vIsN, vNotN, vB2, Lz.isNon, vIx, vIn, nIsi, nLen, nAbs, nMax2, nMin2, nInt, nTup, items, iAny, aAll, Lz.iZip, aLc, aTrue, aLst, aApp, iRange1, iRange2, aFor, aSl, aoNone, aoSome, vSl, wipeS, List.map_cons, List.map_nil, List.length_cons, List.length_nil, List.replicate_zero, List.replicate_succ, List.cons_append, List.nil_append, List.append_nil, List.getElem?_cons_zero, List.getElem?_cons_succ, List.set_cons_zero, List.set_cons_succ, Nat.sub_self, Nat.zero_add, Nat.reduceAdd, Nat.reduceSub, Bool.not_true, Bool.not_false]
    exact ⟨one, other, ps, s, rfl, e7, o1, o2, o3, o4, hw6, hls.2, g, x7.sub hp, hA⟩
  · rintro t ts st g7 R hR ⟨ms, a6, a7, a8, hr7, hms, rfl, x7, p7, e7⟩
    cases ms with
    | nil => cases hr7
    | cons m ms =>
      obtain ⟨rfl, rfl⟩ := List.cons.inj hr7
      have hm := hms m List.mem_cons_self
      refine ⟨trivial, ?_⟩
      try simp only [aSeq, aNext, aDrop, aRet, aRetN, aIfS, aNever, aBrk, aCnt, aAsg, gNm, gTp, gCn, gNl, aTest, aAndT, aOrT, aNotT, aAndV, aOrV, aNotV, aOp, aUn, aN, aCall, aCons, aNil, aVar, aC, aIf, aTup, aChain, endsOf, aStart, vI0, vI, vLt, vLe, vGt, vGe, vSub, vAdd, vMul, vDiv, vMod, vAnd, vShr, vPow, vNeg, vEqF, vNeF, flatEq, vIsN, vNotN, vB2, Lz.isNon, vIx, vIn, nIsi, nLen, nAbs, nMax2, nMin2, nInt, nTup, items, iAny, aAll, Lz.iZip, aLc, aTrue, aLst, aApp, iRange1, iRange2, aFor, aSl, aoNone, aoSome, vSl, wipeS, List.map_cons, List.map_nil, List.length_cons, List.length_nil, List.replicate_zero, List.replicate_succ, List.cons_append, List.nil_append, List.append_nil, List.getElem?_cons_zero, List.getElem?_cons_succ, List.set_cons_zero, List.set_cons_succ, Nat.sub_self, Nat.zero_add, Nat.reduceAdd, Nat.reduceSub, Bool.not_true, Bool.not_false]
      refine ⟨⟨by omega, by omega⟩, fun pe hpe => ?_⟩
      have npe := pot_ne p7 hpe
      have nse : ps ≠ pe := fun z => by rw [← z, e7] at hpe; cases hpe
      refine lc_pot (g0 := g7) npe (fun x g A' hp' hA' => ?_) _ [] _ set_same (Ex.refl.new hpe) hpe ⟨_, _, by rw [set_ne npe]; exact p7.choose_spec.choose_spec⟩ (fun x hx => by cases hx) (by rw [List.length_nil, rangeT_len]; omega) fun e g8 hl8 hw8 e8 x8 p8 => ?_
      · try simp only [aSeq, aNext, aDrop, aRet, aRetN, aIfS, aNever, aBrk, aCnt, aAsg, gNm, gTp, gCn, gNl, aTest, aAndT, aOrT, aNotT, aAndV, aOrV, aNotV, aOp, aUn, aN, aCall, aCons, aNil, aVar, aC, aIf, aTup, aChain, endsOf, aStart, vI0, vI, vLt, vLe, vGt, vGe, vSub, vAdd, vMul, vDiv, vMod, vAnd, vShr, vPow, vNeg, vEqF, vNeF, flatEq, vIsN, vNotN, vB2, Lz.isNon, vIx, vIn, nIsi, nLen, nAbs, nMax2, nMin2, nInt, nTup, items, iAny, aAll, Lz.iZip, aLc, aTrue, aLst, aApp, iRange1, iRange2, aFor, aSl, aoNone, aoSome, vSl, wipeS, List.map_cons, List.map_nil, List.length_cons, List.length_nil, List.replicate_zero, List.replicate_succ, List.cons_append, List.nil_append, List.append_nil, List.getElem?_cons_zero, List.getElem?_cons_succ, List.set_cons_zero, List.set_cons_succ, Nat.sub_self, Nat.zero_add, Nat.reduceAdd, Nat.reduceSub, Bool.not_true, Bool.not_false]
        exact ⟨p, wide, rfl, hp', w1, w2, hA'⟩
      rw [List.length_nil, rangeT_len, Nat.zero_add] at hl8
      have he1 : e.length + 1 = m := by omega
      have s8 := x8 ps _ (Ne.symm nps) e7
      have x8' := x7.trans x8
      try simp only [aSeq, aNext, aDrop, aRet, aRetN, aIfS, aNever, aBrk, aCnt, aAsg, gNm, gTp, gCn, gNl, aTest, aAndT, aOrT, aNotT, aAndV, aOrV, aNotV, aOp, aUn, aN, aCall, aCons, aNil, aVar, aC, aIf, aTup, aChain, endsOf, aStart, vI0, vI, vLt, vLe, vGt, vGe, vSub, vAdd, vMul, vDiv, vMod, vAnd, vShr, vPow, vNeg, vEqF, vNeF, flatEq, vIsN, vNotN, vB2, Lz.isNon, vIx, vIn, nIsi, nLen, nAbs, nMax2, nMin2, nInt, nTup, items, iAny, aAll, Lz.iZip, aLc, aTrue, aLst, aApp, iRange1, iRange2, aFor, aSl, aoNone, aoSome, vSl, wipeS, List.map_cons, List.map_nil, List.length_cons, List.length_nil, List.replicate_zero, List.replicate_succ, List.cons_append, List.nil_append, List.append_nil, List.getElem?_cons_zero, List.getElem?_cons_succ, List.set_cons_zero, List.set_cons_succ, Nat.sub_self, Nat.zero_add, Nat.reduceAdd, Nat.reduceSub, Bool.not_true, Bool.not_false]
      refine ⟨p, true, m, pe, ps, e, s, rfl, p8, npe, nps, e8, s8, he1, hm.2, hw8, hw6, hls.2, fun a b => ?_⟩
      have e9 : Lz.set g8 p (.lst [.int a, .int b]) pe = some (.lst (e.map T.int)) := by rw [set_ne (Ne.symm npe)]; exact e8
      have s9 : Lz.set g8 p (.lst [.int a, .int b]) ps = some (.lst (s.map T.int)) := by rw [set_ne (Ne.symm nps)]; exact s8
      have x9 : Ex p g (Lz.set g8 p (.lst [.int a, .int b])) := x8'.pot
      have p9 := Pot.set g8 p a b
      generalize Lz.set g8 p (.lst [.int a, .int b]) = g9 at e9 s9 x9 p9 ⊢
      try simp only [aSeq, aNext, aDrop, aRet, aRetN, aIfS, aNever, aBrk, aCnt, aAsg, gNm, gTp, gCn, gNl, aTest, aAndT, aOrT, aNotT, aAndV, aOrV, aNotV, aOp, aUn, aN, aCall, aCons, aNil, aVar, aC, aIf, aTup, aChain, endsOf, aStart, vI0, vI, vLt, vLe, vGt, vGe, vSub, vAdd, vMul, vDiv, vMod, vAnd, vShr, vPow, vNeg, vEqF, vNeF, flatEq, vIsN, vNotN, vB2, Lz.isNon, vIx, vIn, nIsi, nLen, nAbs, nMax2, nMin2, nInt, nTup, items, iAny, aAll, Lz.iZip, aLc, aTrue, aLst, aApp, iRange1, iRange2, aFor, aSl, aoNone, aoSome, vSl, wipeS, List.map_cons, List.map_nil, List.length_cons, List.length_nil, List.replicate_zero, List.replicate_succ, List.cons_append, List.nil_append, List.append_nil, List.getElem?_cons_zero, List.getElem?_cons_succ, List.set_cons_zero, List.set_cons_succ, Nat.sub_self, Nat.zero_add, Nat.reduceAdd, Nat.reduceSub, Bool.not_true, Bool.not_false]
      refine ⟨p, false, m, pe, ps, e, s, rfl, p9, npe, nps, e9, s9, he1, hm.2, hw8, hw6, hls.2, fun a b => ?_⟩
      have sA : Lz.set g9 p (.lst [.int a, .int b]) ps = some (.lst (s.map T.int)) := by rw [set_ne (Ne.symm nps)]; exact s9
      have xA : Ex p g (Lz.set g9 p (.lst [.int a, .int b])) := x9.pot
      have pA := Pot.set g9 p a b
      generalize Lz.set g9 p (.lst [.int a, .int b]) = gA at sA xA pA ⊢
      try simp only [aSeq, aNext, aDrop, aRet, aRetN, aIfS, aNever, aBrk, aCnt, aAsg, gNm, gTp, gCn, gNl, aTest, aAndT, aOrT, aNotT, aAndV, aOrV, aNotV, aOp, aUn, aN, aCall, aCons, aNil, aVar, aC, aIf, aTup, aChain, endsOf, aStart, vI0, vI, vLt, vLe, vGt, vGe, vSub, vAdd, vMul, vDiv, vMod, vAnd, vShr, vPow, vNeg, vEqF, vNeF, flatEq, vIsN, vNotN, vB2, Lz.isNon, vIx, vIn, nIsi, nLen, nAbs, nMax2, nMin2, nInt, nTup, items, iAny, aAll, Lz.iZip, aLc, aTrue, aLst, aApp, iRange1, iRange2, aFor, aSl, aoNone, aoSome, vSl, wipeS, List.map_cons, List.map_nil, List.length_cons, List.length_nil, List.replicate_zero, List.replicate_succ, List.cons_append, List.nil_append, List.append_nil, List.getElem?_cons_zero, List.getElem?_cons_succ, List.set_cons_zero, List.set_cons_succ, Nat.sub_self, Nat.zero_add, Nat.reduceAdd, Nat.reduceSub, Bool.not_true, Bool.not_false]
      refine ⟨p, m, ps, s, rfl, pA, nps, sA, hm.1, hm.2, hw6, hls.1, hls.2, fun a b => ?_⟩
      have sB : Lz.set gA p (.lst [.int a, .int b]) ps = some (.lst (s.map T.int)) := by rw [set_ne (Ne.symm nps)]; exact sA
      have xB : Ex p g (Lz.set gA p (.lst [.int a, .int b])) := xA.pot
      have pB := Pot.set gA p a b
      generalize Lz.set gA p (.lst [.int a, .int b]) = gB at sB xB pB ⊢
      try simp only [aSeq, aNext, aDrop, aRet, aRetN, aIfS, aNever, aBrk, aCnt, aAsg, gNm, gTp, gCn, gNl, aTest, aAndT, aOrT, aNotT, aAndV, aOrV, aNotV, aOp, aUn, aN, aCall, aCons, aNil, aVar, aC, aIf, aTup, aChain, endsOf, aStart, vI0, vI, vLt, vLe, vGt, vGe, vSub, vAdd, vMul, vDiv, vMod, vAnd, vShr, vPow, vNeg, vEqF, vNeF, flatEq, vIsN, vNotN, vB2, Lz.isNon, vIx, vIn, nIsi, nLen, nAbs, nMax2, nMin2, nInt, nTup, items, iAny, aAll, Lz.iZip, aLc, aTrue, aLst, aApp, iRange1, iRange2, aFor, aSl, aoNone, aoSome, vSl, wipeS, List.map_cons, List.map_nil, List.length_cons, List.length_nil, List.replicate_zero, List.replicate_succ, List.cons_append, List.nil_append, List.append_nil, List.getElem?_cons_zero, List.getElem?_cons_succ, List.set_cons_zero, List.set_cons_succ, Nat.sub_self, Nat.zero_add, Nat.reduceAdd, Nat.reduceSub, Bool.not_true, Bool.not_false]
      refine ⟨p, m, rfl, pB, hm.1, hm.2, fun a b => ?_⟩
      have sC : Lz.set gB p (.lst [.int a, .int b]) ps = some (.lst (s.map T.int)) := by rw [set_ne (Ne.symm nps)]; exact sB
      have xC : Ex p g (Lz.set gB p (.lst [.int a, .int b])) := xB.pot
      have pC := Pot.set gB p a b
      generalize Lz.set gB p (.lst [.int a, .int b]) = gC at sC xC pC ⊢
      try simp only [aSeq, aNext, aDrop, aRet, aRetN, aIfS, aNever, aBrk, aCnt, aAsg, gNm, gTp, gCn, gNl, aTest, aAndT, aOrT, aNotT, aAndV, aOrV, aNotV, aOp, aUn, aN, aCall, aCons, aNil, aVar, aC, aIf, aTup, aChain, endsOf, aStart, vI0, vI, vLt, vLe, vGt, vGe, vSub, vAdd, vMul, vDiv, vMod, vAnd, vShr, vPow, vNeg, vEqF, vNeF, flatEq, vIsN, vNotN, vB2, Lz.isNon, vIx, vIn, nIsi, nLen, nAbs, nMax2, nMin2, nInt, nTup, items, iAny, aAll, Lz.iZip, aLc, aTrue, aLst, aApp, iRange1, iRange2, aFor, aSl, aoNone, aoSome, vSl, wipeS, List.map_cons, List.map_nil, List.length_cons, List.length_nil, List.replicate_zero, List.replicate_succ, List.cons_append, List.nil_append, List.append_nil, List.getElem?_cons_zero, List.getElem?_cons_succ, List.set_cons_zero, List.set_cons_succ, Nat.sub_self, Nat.zero_add, Nat.reduceAdd, Nat.reduceSub, Bool.not_true, Bool.not_false]
      exact hR _ _ ⟨ms, _, _, _, rfl, fun m hm => hms m (List.mem_cons_of_mem _ hm), rfl, xC, pC, sC⟩
  · simp only [List.mem_cons, List.not_mem_nil, or_false] at hm
    rcases hm with rfl | rfl
    · exact ⟨o1, o2⟩
    · exact ⟨o3, o4⟩
end Tx

set_option Elab.async false
set_option linter.all false
set_option maxRecDepth 100000
set_option maxHeartbeats 0
namespace Hd
open PySem PySem.Spec PyProof.Rows L2 Lz Tx

theorem gloE {K : PySem.W.Frag} {h : Heap} {mg : Str → Option Value} (X : K.In h) (G : h.Ns mainGlobals mg) {x : Str} (c : (He.Fa.glo x).ok K = true) : mg x = some (.ref (He.ga K x)) := He.glo_ok X G c
theorem facts {w : World} {K : PySem.W.Frag} {h : Heap} {mg : Str → Option Value} {f : Addr} (X : K.In h) (G : h.Ns mainGlobals mg) (hfa : mg ("law" : Str) = some (.ref f)) (c : He.SaysX fa fn ts tf ex w h K) : LamX.LawAtS PySem.Challenge.rw_samesamples_k63_whole_peak_and_mean_wind w K CX0 15 63 "_law_script" mg f h := by
  have hx := c.more
  unfold ex at hx
  obtain ⟨hx, x__KNOBS⟩ := Bool.and_eq_true_iff.mp hx
  obtain ⟨hx, x__IS_ONE⟩ := Bool.and_eq_true_iff.mp hx
  obtain ⟨hx, x__INLETS⟩ := Bool.and_eq_true_iff.mp hx
  obtain ⟨hx, x_SHAPERS⟩ := Bool.and_eq_true_iff.mp hx
  obtain ⟨hx, x_MAKERS⟩ := Bool.and_eq_true_iff.mp hx
  have x_FILTERS := hx
  have M : Md K w mg (He.ga K) := ⟨He.free_ok X G (c.t.d.fact 49 (f := .free "abs") rfl),
    He.free_ok X G (c.t.d.fact 50 (f := .free "all") rfl),
    He.free_ok X G (c.t.d.fact 51 (f := .free "bool") rfl),
    He.free_ok X G (c.t.d.fact 52 (f := .free "int") rfl),
    He.free_ok X G (c.t.d.fact 53 (f := .free "isinstance") rfl),
    He.free_ok X G (c.t.d.fact 54 (f := .free "len") rfl),
    He.free_ok X G (c.t.d.fact 55 (f := .free "list") rfl),
    He.free_ok X G (c.t.d.fact 56 (f := .free "max") rfl),
    He.free_ok X G (c.t.d.fact 57 (f := .free "min") rfl),
    He.free_ok X G (c.t.d.fact 58 (f := .free "range") rfl),
    He.free_ok X G (c.t.d.fact 59 (f := .free "reversed") rfl),
    He.free_ok X G (c.t.d.fact 60 (f := .free "str") rfl),
    He.free_ok X G (c.t.d.fact 61 (f := .free "sum") rfl),
    He.free_ok X G (c.t.d.fact 62 (f := .free "tuple") rfl),
    He.free_ok X G (c.t.d.fact 63 (f := .free "zip") rfl),
    He.int_ok X G (c.t.d.fact 64 (f := .int "ONE" (4096)) rfl),
    He.int_ok X G (c.t.d.fact 65 (f := .int "TOP" (1048575)) rfl),
    gloE X G (c.t.d.fact 43 (f := .glo "FILTERS") rfl),
    ktab_of (c.t.tab 0 (t := tb_FILTERS) rfl) x_FILTERS,
    gloE X G (c.t.d.fact 44 (f := .glo "MAKERS") rfl),
    ktab_of (c.t.tab 1 (t := tb_MAKERS) rfl) x_MAKERS,
    gloE X G (c.t.d.fact 45 (f := .glo "SHAPERS") rfl),
    ktab_of (c.t.tab 2 (t := tb_SHAPERS) rfl) x_SHAPERS,
    gloE X G (c.t.d.fact 46 (f := .glo "_INLETS") rfl),
    ktab_of (c.t.tab 3 (t := tb__INLETS) rfl) x__INLETS,
    gloE X G (c.t.d.fact 47 (f := .glo "_IS_ONE") rfl),
    ktab_of (c.t.tab 4 (t := tb__IS_ONE) rfl) x__IS_ONE,
    gloE X G (c.t.d.fact 48 (f := .glo "_KNOBS") rfl),
    ktab_of (c.t.tab 5 (t := tb__KNOBS) rfl) x__KNOBS⟩
  obtain ⟨fd_demand, D_demand⟩ := c.t.d.def_ 0 (d := d_demand) rfl
  have m_demand := gloE X G (c.t.d.fact 0 (f := .glo "demand") rfl)
  obtain ⟨fd_is_integer, D_is_integer⟩ := c.t.d.def_ 1 (d := d_is_integer) rfl
  have m_is_integer := gloE X G (c.t.d.fact 1 (f := .glo "is_integer") rfl)
  obtain ⟨fd_is_within, D_is_within⟩ := c.t.d.def_ 2 (d := d_is_within) rfl
  have m_is_within := gloE X G (c.t.d.fact 2 (f := .glo "is_within") rfl)
  obtain ⟨fd_is_worth, D_is_worth⟩ := c.t.d.def_ 3 (d := d_is_worth) rfl
  have m_is_worth := gloE X G (c.t.d.fact 3 (f := .glo "is_worth") rfl)
  obtain ⟨fd_is_sound, D_is_sound⟩ := c.t.d.def_ 4 (d := d_is_sound) rfl
  have m_is_sound := gloE X G (c.t.d.fact 4 (f := .glo "is_sound") rfl)
  obtain ⟨fd_is_mode, D_is_mode⟩ := c.t.d.def_ 5 (d := d_is_mode) rfl
  have m_is_mode := gloE X G (c.t.d.fact 5 (f := .glo "is_mode") rfl)
  obtain ⟨fd_clip, D_clip⟩ := c.t.d.def_ 6 (d := d_clip) rfl
  have m_clip := gloE X G (c.t.d.fact 6 (f := .glo "clip") rfl)
  obtain ⟨fd_turned, D_turned⟩ := c.t.d.def_ 7 (d := d_turned) rfl
  have m_turned := gloE X G (c.t.d.fact 7 (f := .glo "turned") rfl)
  obtain ⟨fd_weighed, D_weighed⟩ := c.t.d.def_ 8 (d := d_weighed) rfl
  have m_weighed := gloE X G (c.t.d.fact 8 (f := .glo "weighed") rfl)
  obtain ⟨fd__newest_first, D__newest_first⟩ := c.t.d.def_ 9 (d := d__newest_first) rfl
  have m__newest_first := gloE X G (c.t.d.fact 9 (f := .glo "_newest_first") rfl)
  obtain ⟨fd__taps, D__taps⟩ := c.t.d.def_ 10 (d := d__taps) rfl
  have m__taps := gloE X G (c.t.d.fact 10 (f := .glo "_taps") rfl)
  obtain ⟨fd__peak, D__peak⟩ := c.t.d.def_ 11 (d := d__peak) rfl
  have m__peak := gloE X G (c.t.d.fact 11 (f := .glo "_peak") rfl)
  obtain ⟨fd__mean, D__mean⟩ := c.t.d.def_ 12 (d := d__mean) rfl
  have m__mean := gloE X G (c.t.d.fact 12 (f := .glo "_mean") rfl)
  obtain ⟨fd__is_many, D__is_many⟩ := c.t.d.def_ 13 (d := d__is_many) rfl
  have m__is_many := gloE X G (c.t.d.fact 13 (f := .glo "_is_many") rfl)
  obtain ⟨fd__is_weight, D__is_weight⟩ := c.t.d.def_ 14 (d := d__is_weight) rfl
  have m__is_weight := gloE X G (c.t.d.fact 14 (f := .glo "_is_weight") rfl)
  obtain ⟨fd__are_weights, D__are_weights⟩ := c.t.d.def_ 15 (d := d__are_weights) rfl
  have m__are_weights := gloE X G (c.t.d.fact 15 (f := .glo "_are_weights") rfl)
  obtain ⟨fd__is_taps, D__is_taps⟩ := c.t.d.def_ 16 (d := d__is_taps) rfl
  have m__is_taps := gloE X G (c.t.d.fact 16 (f := .glo "_is_taps") rfl)
  obtain ⟨fd_knob_words, D_knob_words⟩ := c.t.d.def_ 17 (d := d_knob_words) rfl
  have m_knob_words := gloE X G (c.t.d.fact 17 (f := .glo "knob_words") rfl)
  obtain ⟨fd__is_knob, D__is_knob⟩ := c.t.d.def_ 18 (d := d__is_knob) rfl
  have m__is_knob := gloE X G (c.t.d.fact 18 (f := .glo "_is_knob") rfl)
  obtain ⟨fd__fits, D__fits⟩ := c.t.d.def_ 19 (d := d__fits) rfl
  have m__fits := gloE X G (c.t.d.fact 19 (f := .glo "_fits") rfl)
  obtain ⟨fd_is_settled, D_is_settled⟩ := c.t.d.def_ 20 (d := d_is_settled) rfl
  have m_is_settled := gloE X G (c.t.d.fact 20 (f := .glo "is_settled") rfl)
  obtain ⟨fd_inlets_by, D_inlets_by⟩ := c.t.d.def_ 21 (d := d_inlets_by) rfl
  have m_inlets_by := gloE X G (c.t.d.fact 21 (f := .glo "inlets_by") rfl)
  obtain ⟨fd_columns_of, D_columns_of⟩ := c.t.d.def_ 22 (d := d_columns_of) rfl
  have m_columns_of := gloE X G (c.t.d.fact 22 (f := .glo "columns_of") rfl)
  obtain ⟨fd__worths_kept, D__worths_kept⟩ := c.t.d.def_ 23 (d := d__worths_kept) rfl
  have m__worths_kept := gloE X G (c.t.d.fact 23 (f := .glo "_worths_kept") rfl)
  obtain ⟨fd_start_by, D_start_by⟩ := c.t.d.def_ 24 (d := d_start_by) rfl
  have m_start_by := gloE X G (c.t.d.fact 24 (f := .glo "start_by") rfl)
  obtain ⟨fd_start_of, D_start_of⟩ := c.t.d.def_ 25 (d := d_start_of) rfl
  have m_start_of := gloE X G (c.t.d.fact 25 (f := .glo "start_of") rfl)
  obtain ⟨fd_is_state, D_is_state⟩ := c.t.d.def_ 26 (d := d_is_state) rfl
  have m_is_state := gloE X G (c.t.d.fact 26 (f := .glo "is_state") rfl)
  obtain ⟨fd__are_columns, D__are_columns⟩ := c.t.d.def_ 27 (d := d__are_columns) rfl
  have m__are_columns := gloE X G (c.t.d.fact 27 (f := .glo "_are_columns") rfl)
  obtain ⟨fd_step_of, D_step_of⟩ := c.t.d.def_ 28 (d := d_step_of) rfl
  have m_step_of := gloE X G (c.t.d.fact 28 (f := .glo "step_of") rfl)
  obtain ⟨fd_block_of, D_block_of⟩ := c.t.d.def_ 29 (d := d_block_of) rfl
  have m_block_of := gloE X G (c.t.d.fact 29 (f := .glo "block_of") rfl)
  obtain ⟨fd__law_take, D__law_take⟩ := c.t.d.def_ 30 (d := d__law_take) rfl
  have m__law_take := gloE X G (c.t.d.fact 30 (f := .glo "_law_take") rfl)
  obtain ⟨fd__law_pot, D__law_pot⟩ := c.t.d.def_ 31 (d := d__law_pot) rfl
  have m__law_pot := gloE X G (c.t.d.fact 31 (f := .glo "_law_pot") rfl)
  obtain ⟨fd__law_worth, D__law_worth⟩ := c.t.d.def_ 32 (d := d__law_worth) rfl
  have m__law_worth := gloE X G (c.t.d.fact 32 (f := .glo "_law_worth") rfl)
  obtain ⟨fd__law_many, D__law_many⟩ := c.t.d.def_ 33 (d := d__law_many) rfl
  have m__law_many := gloE X G (c.t.d.fact 33 (f := .glo "_law_many") rfl)
  obtain ⟨fd__law_halfup, D__law_halfup⟩ := c.t.d.def_ 34 (d := d__law_halfup) rfl
  have m__law_halfup := gloE X G (c.t.d.fact 34 (f := .glo "_law_halfup") rfl)
  obtain ⟨fd__law_windows, D__law_windows⟩ := c.t.d.def_ 35 (d := d__law_windows) rfl
  have m__law_windows := gloE X G (c.t.d.fact 35 (f := .glo "_law_windows") rfl)
  obtain ⟨fd__law_meter, D__law_meter⟩ := c.t.d.def_ 36 (d := d__law_meter) rfl
  have m__law_meter := gloE X G (c.t.d.fact 36 (f := .glo "_law_meter") rfl)
  obtain ⟨fd__law_from_start, D__law_from_start⟩ := c.t.d.def_ 37 (d := d__law_from_start) rfl
  have m__law_from_start := gloE X G (c.t.d.fact 37 (f := .glo "_law_from_start") rfl)
  obtain ⟨fd__law_peaks, D__law_peaks⟩ := c.t.d.def_ 38 (d := d__law_peaks) rfl
  have m__law_peaks := gloE X G (c.t.d.fact 38 (f := .glo "_law_peaks") rfl)
  obtain ⟨fd__law_means, D__law_means⟩ := c.t.d.def_ 39 (d := d__law_means) rfl
  have m__law_means := gloE X G (c.t.d.fact 39 (f := .glo "_law_means") rfl)
  obtain ⟨fd__law_constant, D__law_constant⟩ := c.t.d.def_ 40 (d := d__law_constant) rfl
  have m__law_constant := gloE X G (c.t.d.fact 40 (f := .glo "_law_constant") rfl)
  obtain ⟨fd_law, D_law⟩ := c.t.d.def_ 41 (d := d_law) rfl
  obtain ⟨fd__law_same, D__law_same⟩ := c.t.d.def_ 42 (d := d__law_same) rfl
  have m__law_same := gloE X G (c.t.d.fact 42 (f := .glo "_law_same") rfl)
  have e := hfa.symm.trans (gloE X G (c.t.d.fact 41 (f := .glo "law") rfl))
  cases e
  have hb := FunD.bindsA (ps := ["_law_script"]) D_law fun _ _ _ _ _ _ us hl => match us, hl with | [_], _ => rfl
  refine ⟨fd_law, tf.map (He.cT K), cSp K ((tf.map (He.cT K)).map (·.2)) sp_law, fun p hp => ?_, fun p hp => ?_, fun p hp => ?_, fun s u => hb s [u] rfl, fun H a ns _ hbits hT hS => law_sp (fun P hP => ?_) hS fun g t hs => ⟨t, ns, rfl, hs, rfl⟩, fun base hK hG TBs => ?_⟩
  · obtain ⟨q, hq, rfl⟩ := List.mem_map.mp hp
    exact c.empty q hq
  · obtain ⟨q, hq, rfl⟩ := List.mem_map.mp hp
    exact c.out q hq
  · obtain ⟨q, hq, rfl⟩ := List.mem_map.mp hp
    exact PySem.W.codeHd_of_K X (c.hd q hq)
  · obtain ⟨q, hq, rfl⟩ := List.mem_map.mp hP
    exact hT q hq
  have gx : ∀ p ∈ tf, (He.cT K p).2 ∈ ((tf.map (He.cT K)).map (·.2)) ∧ GxR.TabB base mg (He.cT K p).1 (He.cT K p).2 := fun p hp =>
    ⟨List.mem_map.mpr ⟨_, List.mem_map.mpr ⟨p, hp, rfl⟩, rfl⟩, let z := TBs _ (List.mem_map.mpr ⟨p, hp, rfl⟩); ⟨z.code, z.bm, z.gP⟩⟩
  have gx_is_sound := gx ("is_sound", none) (by simp [tf])
  have gx__are_weights := gx ("_are_weights", none) (by simp [tf])
  have gx_is_state := gx ("is_state", none) (by simp [tf])
  have gx__are_columns := gx ("_are_columns", none) (by simp [tf])
  have F__law_pot := F__law_pot (P := (PySem.Challenge.rw_samesamples_k63_whole_peak_and_mean_wind).prog) (w := w) (K := K) (mg := mg) (base := base) (tabs := ((tf.map (He.cT K)).map (·.2))) M    D__law_pot  m__law_pot (fun ts g A B h => by first | (obtain ⟨rfl, _⟩ := h; rfl) | (obtain ⟨_, rfl, _⟩ := h; rfl) | (obtain ⟨_, _, rfl, _⟩ := h; rfl) | (obtain ⟨_, _, _, rfl, _⟩ := h; rfl) | (obtain ⟨_, _, _, _, rfl, _⟩ := h; rfl) | (obtain ⟨_, _, _, _, _, rfl, _⟩ := h; rfl) | (obtain ⟨_, _, _, _, _, _, rfl, _⟩ := h; rfl) | (obtain ⟨_, _, _, _, _, _, _, rfl, _⟩ := h; rfl)) pf__law_pot
  have F__law_take := F__law_take (P := (PySem.Challenge.rw_samesamples_k63_whole_peak_and_mean_wind).prog) (w := w) (K := K) (mg := mg) (base := base) (tabs := ((tf.map (He.cT K)).map (·.2))) M    D__law_take  m__law_take (fun ts g A B h => by first | (obtain ⟨rfl, _⟩ := h; rfl) | (obtain ⟨_, rfl, _⟩ := h; rfl) | (obtain ⟨_, _, rfl, _⟩ := h; rfl) | (obtain ⟨_, _, _, rfl, _⟩ := h; rfl) | (obtain ⟨_, _, _, _, rfl, _⟩ := h; rfl) | (obtain ⟨_, _, _, _, _, rfl, _⟩ := h; rfl) | (obtain ⟨_, _, _, _, _, _, rfl, _⟩ := h; rfl) | (obtain ⟨_, _, _, _, _, _, _, rfl, _⟩ := h; rfl)) pf__law_take
  have F__law_many := F__law_many (P := (PySem.Challenge.rw_samesamples_k63_whole_peak_and_mean_wind).prog) (w := w) (K := K) (mg := mg) (base := base) (tabs := ((tf.map (He.cT K)).map (·.2))) M F__law_take   D__law_many  m__law_many (fun ts g A B h => by first | (obtain ⟨rfl, _⟩ := h; rfl) | (obtain ⟨_, rfl, _⟩ := h; rfl) | (obtain ⟨_, _, rfl, _⟩ := h; rfl) | (obtain ⟨_, _, _, rfl, _⟩ := h; rfl) | (obtain ⟨_, _, _, _, rfl, _⟩ := h; rfl) | (obtain ⟨_, _, _, _, _, rfl, _⟩ := h; rfl) | (obtain ⟨_, _, _, _, _, _, rfl, _⟩ := h; rfl) | (obtain ⟨_, _, _, _, _, _, _, rfl, _⟩ := h; rfl)) pf__law_many
  have F__law_worth := F__law_worth (P := (PySem.Challenge.rw_samesamples_k63_whole_peak_and_mean_wind).prog) (w := w) (K := K) (mg := mg) (base := base) (tabs := ((tf.map (He.cT K)).map (·.2))) M F__law_take   D__law_worth  m__law_worth (fun ts g A B h => by first | (obtain ⟨rfl, _⟩ := h; rfl) | (obtain ⟨_, rfl, _⟩ := h; rfl) | (obtain ⟨_, _, rfl, _⟩ := h; rfl) | (obtain ⟨_, _, _, rfl, _⟩ := h; rfl) | (obtain ⟨_, _, _, _, rfl, _⟩ := h; rfl) | (obtain ⟨_, _, _, _, _, rfl, _⟩ := h; rfl) | (obtain ⟨_, _, _, _, _, _, rfl, _⟩ := h; rfl) | (obtain ⟨_, _, _, _, _, _, _, rfl, _⟩ := h; rfl)) pf__law_worth
  have F_knob_words := F_knob_words (P := (PySem.Challenge.rw_samesamples_k63_whole_peak_and_mean_wind).prog) (w := w) (K := K) (mg := mg) (base := base) (tabs := ((tf.map (He.cT K)).map (·.2))) M    D_knob_words  m_knob_words (fun ts g A B h => by first | (obtain ⟨rfl, _⟩ := h; rfl) | (obtain ⟨_, rfl, _⟩ := h; rfl) | (obtain ⟨_, _, rfl, _⟩ := h; rfl) | (obtain ⟨_, _, _, rfl, _⟩ := h; rfl) | (obtain ⟨_, _, _, _, rfl, _⟩ := h; rfl) | (obtain ⟨_, _, _, _, _, rfl, _⟩ := h; rfl) | (obtain ⟨_, _, _, _, _, _, rfl, _⟩ := h; rfl) | (obtain ⟨_, _, _, _, _, _, _, rfl, _⟩ := h; rfl)) pf_knob_words
  have F_is_integer := F_is_integer (P := (PySem.Challenge.rw_samesamples_k63_whole_peak_and_mean_wind).prog) (w := w) (K := K) (mg := mg) (base := base) (tabs := ((tf.map (He.cT K)).map (·.2))) M    D_is_integer  m_is_integer (fun ts g A B h => by first | (obtain ⟨rfl, _⟩ := h; rfl) | (obtain ⟨_, rfl, _⟩ := h; rfl) | (obtain ⟨_, _, rfl, _⟩ := h; rfl) | (obtain ⟨_, _, _, rfl, _⟩ := h; rfl) | (obtain ⟨_, _, _, _, rfl, _⟩ := h; rfl) | (obtain ⟨_, _, _, _, _, rfl, _⟩ := h; rfl) | (obtain ⟨_, _, _, _, _, _, rfl, _⟩ := h; rfl) | (obtain ⟨_, _, _, _, _, _, _, rfl, _⟩ := h; rfl)) pf_is_integer
  have F_is_within := F_is_within (P := (PySem.Challenge.rw_samesamples_k63_whole_peak_and_mean_wind).prog) (w := w) (K := K) (mg := mg) (base := base) (tabs := ((tf.map (He.cT K)).map (·.2))) M F_is_integer   D_is_within  m_is_within (fun ts g A B h => by first | (obtain ⟨rfl, _⟩ := h; rfl) | (obtain ⟨_, rfl, _⟩ := h; rfl) | (obtain ⟨_, _, rfl, _⟩ := h; rfl) | (obtain ⟨_, _, _, rfl, _⟩ := h; rfl) | (obtain ⟨_, _, _, _, rfl, _⟩ := h; rfl) | (obtain ⟨_, _, _, _, _, rfl, _⟩ := h; rfl) | (obtain ⟨_, _, _, _, _, _, rfl, _⟩ := h; rfl) | (obtain ⟨_, _, _, _, _, _, _, rfl, _⟩ := h; rfl)) pf_is_within
  have F__is_many := F__is_many (P := (PySem.Challenge.rw_samesamples_k63_whole_peak_and_mean_wind).prog) (w := w) (K := K) (mg := mg) (base := base) (tabs := ((tf.map (He.cT K)).map (·.2))) M F_is_within   D__is_many  m__is_many (fun ts g A B h => by first | (obtain ⟨rfl, _⟩ := h; rfl) | (obtain ⟨_, rfl, _⟩ := h; rfl) | (obtain ⟨_, _, rfl, _⟩ := h; rfl) | (obtain ⟨_, _, _, rfl, _⟩ := h; rfl) | (obtain ⟨_, _, _, _, rfl, _⟩ := h; rfl) | (obtain ⟨_, _, _, _, _, rfl, _⟩ := h; rfl) | (obtain ⟨_, _, _, _, _, _, rfl, _⟩ := h; rfl) | (obtain ⟨_, _, _, _, _, _, _, rfl, _⟩ := h; rfl)) pf__is_many
  have F__is_weight := F__is_weight (P := (PySem.Challenge.rw_samesamples_k63_whole_peak_and_mean_wind).prog) (w := w) (K := K) (mg := mg) (base := base) (tabs := ((tf.map (He.cT K)).map (·.2))) M F_is_within   D__is_weight  m__is_weight (fun ts g A B h => by first | (obtain ⟨rfl, _⟩ := h; rfl) | (obtain ⟨_, rfl, _⟩ := h; rfl) | (obtain ⟨_, _, rfl, _⟩ := h; rfl) | (obtain ⟨_, _, _, rfl, _⟩ := h; rfl) | (obtain ⟨_, _, _, _, rfl, _⟩ := h; rfl) | (obtain ⟨_, _, _, _, _, rfl, _⟩ := h; rfl) | (obtain ⟨_, _, _, _, _, _, rfl, _⟩ := h; rfl) | (obtain ⟨_, _, _, _, _, _, _, rfl, _⟩ := h; rfl)) pf__is_weight
  have F__are_weights := F__are_weights (P := (PySem.Challenge.rw_samesamples_k63_whole_peak_and_mean_wind).prog) (w := w) (K := K) (mg := mg) (base := base) (tabs := ((tf.map (He.cT K)).map (·.2))) M F__is_weight  gx__are_weights.1 gx__are_weights.2 D__are_weights (code_of (p := ("_are_weights", none)) D__are_weights) m__are_weights (fun ts g A B h => by first | (obtain ⟨rfl, _⟩ := h; rfl) | (obtain ⟨_, rfl, _⟩ := h; rfl) | (obtain ⟨_, _, rfl, _⟩ := h; rfl) | (obtain ⟨_, _, _, rfl, _⟩ := h; rfl) | (obtain ⟨_, _, _, _, rfl, _⟩ := h; rfl) | (obtain ⟨_, _, _, _, _, rfl, _⟩ := h; rfl) | (obtain ⟨_, _, _, _, _, _, rfl, _⟩ := h; rfl) | (obtain ⟨_, _, _, _, _, _, _, rfl, _⟩ := h; rfl)) pf__are_weights
  have F__is_taps := F__is_taps (P := (PySem.Challenge.rw_samesamples_k63_whole_peak_and_mean_wind).prog) (w := w) (K := K) (mg := mg) (base := base) (tabs := ((tf.map (He.cT K)).map (·.2))) M F__are_weights   D__is_taps  m__is_taps (fun ts g A B h => by first | (obtain ⟨rfl, _⟩ := h; rfl) | (obtain ⟨_, rfl, _⟩ := h; rfl) | (obtain ⟨_, _, rfl, _⟩ := h; rfl) | (obtain ⟨_, _, _, rfl, _⟩ := h; rfl) | (obtain ⟨_, _, _, _, rfl, _⟩ := h; rfl) | (obtain ⟨_, _, _, _, _, rfl, _⟩ := h; rfl) | (obtain ⟨_, _, _, _, _, _, rfl, _⟩ := h; rfl) | (obtain ⟨_, _, _, _, _, _, _, rfl, _⟩ := h; rfl)) pf__is_taps
  have hk__is_knob : ∀ a asp, Hd__is_knob (He.ga K) a asp → FnAt (PySem.Challenge.rw_samesamples_k63_whole_peak_and_mean_wind).prog w K mg base ((tf.map (He.cT K)).map (·.2)) 6 a asp := fun a asp h => by
    rcases h with ⟨rfl, rfl⟩ | ⟨rfl, rfl⟩
    · exact (F__is_many.mono (by decide)).at m__is_many
    · exact (F__is_taps.mono (by decide)).at m__is_taps
  have F__is_knob := F__is_knob (P := (PySem.Challenge.rw_samesamples_k63_whole_peak_and_mean_wind).prog) (w := w) (K := K) (mg := mg) (base := base) (tabs := ((tf.map (He.cT K)).map (·.2))) M  (Hd__is_knob (He.ga K)) hk__is_knob  D__is_knob  m__is_knob (fun ts g A B h => by first | (obtain ⟨rfl, _⟩ := h; rfl) | (obtain ⟨_, rfl, _⟩ := h; rfl) | (obtain ⟨_, _, rfl, _⟩ := h; rfl) | (obtain ⟨_, _, _, rfl, _⟩ := h; rfl) | (obtain ⟨_, _, _, _, rfl, _⟩ := h; rfl) | (obtain ⟨_, _, _, _, _, rfl, _⟩ := h; rfl) | (obtain ⟨_, _, _, _, _, _, rfl, _⟩ := h; rfl) | (obtain ⟨_, _, _, _, _, _, _, rfl, _⟩ := h; rfl)) pf__is_knob
  have F__fits := F__fits (P := (PySem.Challenge.rw_samesamples_k63_whole_peak_and_mean_wind).prog) (w := w) (K := K) (mg := mg) (base := base) (tabs := ((tf.map (He.cT K)).map (·.2))) M F__is_knob   D__fits  m__fits (fun ts g A B h => by first | (obtain ⟨rfl, _⟩ := h; rfl) | (obtain ⟨_, rfl, _⟩ := h; rfl) | (obtain ⟨_, _, rfl, _⟩ := h; rfl) | (obtain ⟨_, _, _, rfl, _⟩ := h; rfl) | (obtain ⟨_, _, _, _, rfl, _⟩ := h; rfl) | (obtain ⟨_, _, _, _, _, rfl, _⟩ := h; rfl) | (obtain ⟨_, _, _, _, _, _, rfl, _⟩ := h; rfl) | (obtain ⟨_, _, _, _, _, _, _, rfl, _⟩ := h; rfl)) pf__fits
  have F_is_settled := F_is_settled (P := (PySem.Challenge.rw_samesamples_k63_whole_peak_and_mean_wind).prog) (w := w) (K := K) (mg := mg) (base := base) (tabs := ((tf.map (He.cT K)).map (·.2))) M F_knob_words F__fits   D_is_settled  m_is_settled (fun ts g A B h => by first | (obtain ⟨rfl, _⟩ := h; rfl) | (obtain ⟨_, rfl, _⟩ := h; rfl) | (obtain ⟨_, _, rfl, _⟩ := h; rfl) | (obtain ⟨_, _, _, rfl, _⟩ := h; rfl) | (obtain ⟨_, _, _, _, rfl, _⟩ := h; rfl) | (obtain ⟨_, _, _, _, _, rfl, _⟩ := h; rfl) | (obtain ⟨_, _, _, _, _, _, rfl, _⟩ := h; rfl) | (obtain ⟨_, _, _, _, _, _, _, rfl, _⟩ := h; rfl)) pf_is_settled
  have F_demand := F_demand (P := (PySem.Challenge.rw_samesamples_k63_whole_peak_and_mean_wind).prog) (w := w) (K := K) (mg := mg) (base := base) (tabs := ((tf.map (He.cT K)).map (·.2))) M    D_demand  m_demand (fun ts g A B h => by first | (obtain ⟨rfl, _⟩ := h; rfl) | (obtain ⟨_, rfl, _⟩ := h; rfl) | (obtain ⟨_, _, rfl, _⟩ := h; rfl) | (obtain ⟨_, _, _, rfl, _⟩ := h; rfl) | (obtain ⟨_, _, _, _, rfl, _⟩ := h; rfl) | (obtain ⟨_, _, _, _, _, rfl, _⟩ := h; rfl) | (obtain ⟨_, _, _, _, _, _, rfl, _⟩ := h; rfl) | (obtain ⟨_, _, _, _, _, _, _, rfl, _⟩ := h; rfl)) pf_demand
  have F__worths_kept := F__worths_kept (P := (PySem.Challenge.rw_samesamples_k63_whole_peak_and_mean_wind).prog) (w := w) (K := K) (mg := mg) (base := base) (tabs := ((tf.map (He.cT K)).map (·.2))) M    D__worths_kept  m__worths_kept (fun ts g A B h => by first | (obtain ⟨rfl, _⟩ := h; rfl) | (obtain ⟨_, rfl, _⟩ := h; rfl) | (obtain ⟨_, _, rfl, _⟩ := h; rfl) | (obtain ⟨_, _, _, rfl, _⟩ := h; rfl) | (obtain ⟨_, _, _, _, rfl, _⟩ := h; rfl) | (obtain ⟨_, _, _, _, _, rfl, _⟩ := h; rfl) | (obtain ⟨_, _, _, _, _, _, rfl, _⟩ := h; rfl) | (obtain ⟨_, _, _, _, _, _, _, rfl, _⟩ := h; rfl)) pf__worths_kept
  have F_is_worth := F_is_worth (P := (PySem.Challenge.rw_samesamples_k63_whole_peak_and_mean_wind).prog) (w := w) (K := K) (mg := mg) (base := base) (tabs := ((tf.map (He.cT K)).map (·.2))) M F_is_within   D_is_worth  m_is_worth (fun ts g A B h => by first | (obtain ⟨rfl, _⟩ := h; rfl) | (obtain ⟨_, rfl, _⟩ := h; rfl) | (obtain ⟨_, _, rfl, _⟩ := h; rfl) | (obtain ⟨_, _, _, rfl, _⟩ := h; rfl) | (obtain ⟨_, _, _, _, rfl, _⟩ := h; rfl) | (obtain ⟨_, _, _, _, _, rfl, _⟩ := h; rfl) | (obtain ⟨_, _, _, _, _, _, rfl, _⟩ := h; rfl) | (obtain ⟨_, _, _, _, _, _, _, rfl, _⟩ := h; rfl)) pf_is_worth
  have F_is_state := F_is_state (P := (PySem.Challenge.rw_samesamples_k63_whole_peak_and_mean_wind).prog) (w := w) (K := K) (mg := mg) (base := base) (tabs := ((tf.map (He.cT K)).map (·.2))) M F_is_settled F_demand F__worths_kept F_is_worth  gx_is_state.1 gx_is_state.2 D_is_state (code_of (p := ("is_state", none)) D_is_state) m_is_state (fun ts g A B h => by first | (obtain ⟨rfl, _⟩ := h; rfl) | (obtain ⟨_, rfl, _⟩ := h; rfl) | (obtain ⟨_, _, rfl, _⟩ := h; rfl) | (obtain ⟨_, _, _, rfl, _⟩ := h; rfl) | (obtain ⟨_, _, _, _, rfl, _⟩ := h; rfl) | (obtain ⟨_, _, _, _, _, rfl, _⟩ := h; rfl) | (obtain ⟨_, _, _, _, _, _, rfl, _⟩ := h; rfl) | (obtain ⟨_, _, _, _, _, _, _, rfl, _⟩ := h; rfl)) pf_is_state
  have F__law_halfup := F__law_halfup (P := (PySem.Challenge.rw_samesamples_k63_whole_peak_and_mean_wind).prog) (w := w) (K := K) (mg := mg) (base := base) (tabs := ((tf.map (He.cT K)).map (·.2))) M    D__law_halfup  m__law_halfup (fun ts g A B h => by first | (obtain ⟨rfl, _⟩ := h; rfl) | (obtain ⟨_, rfl, _⟩ := h; rfl) | (obtain ⟨_, _, rfl, _⟩ := h; rfl) | (obtain ⟨_, _, _, rfl, _⟩ := h; rfl) | (obtain ⟨_, _, _, _, rfl, _⟩ := h; rfl) | (obtain ⟨_, _, _, _, _, rfl, _⟩ := h; rfl) | (obtain ⟨_, _, _, _, _, _, rfl, _⟩ := h; rfl) | (obtain ⟨_, _, _, _, _, _, _, rfl, _⟩ := h; rfl)) pf__law_halfup
  have F__law_windows := F__law_windows (P := (PySem.Challenge.rw_samesamples_k63_whole_peak_and_mean_wind).prog) (w := w) (K := K) (mg := mg) (base := base) (tabs := ((tf.map (He.cT K)).map (·.2))) M F__law_halfup   D__law_windows  m__law_windows (fun ts g A B h => by first | (obtain ⟨rfl, _⟩ := h; rfl) | (obtain ⟨_, rfl, _⟩ := h; rfl) | (obtain ⟨_, _, rfl, _⟩ := h; rfl) | (obtain ⟨_, _, _, rfl, _⟩ := h; rfl) | (obtain ⟨_, _, _, _, rfl, _⟩ := h; rfl) | (obtain ⟨_, _, _, _, _, rfl, _⟩ := h; rfl) | (obtain ⟨_, _, _, _, _, _, rfl, _⟩ := h; rfl) | (obtain ⟨_, _, _, _, _, _, _, rfl, _⟩ := h; rfl)) pf__law_windows
  have F_inlets_by := F_inlets_by (P := (PySem.Challenge.rw_samesamples_k63_whole_peak_and_mean_wind).prog) (w := w) (K := K) (mg := mg) (base := base) (tabs := ((tf.map (He.cT K)).map (·.2))) M    D_inlets_by  m_inlets_by (fun ts g A B h => by first | (obtain ⟨rfl, _⟩ := h; rfl) | (obtain ⟨_, rfl, _⟩ := h; rfl) | (obtain ⟨_, _, rfl, _⟩ := h; rfl) | (obtain ⟨_, _, _, rfl, _⟩ := h; rfl) | (obtain ⟨_, _, _, _, rfl, _⟩ := h; rfl) | (obtain ⟨_, _, _, _, _, rfl, _⟩ := h; rfl) | (obtain ⟨_, _, _, _, _, _, rfl, _⟩ := h; rfl) | (obtain ⟨_, _, _, _, _, _, _, rfl, _⟩ := h; rfl)) pf_inlets_by
  have F_columns_of := F_columns_of (P := (PySem.Challenge.rw_samesamples_k63_whole_peak_and_mean_wind).prog) (w := w) (K := K) (mg := mg) (base := base) (tabs := ((tf.map (He.cT K)).map (·.2))) M F_inlets_by   D_columns_of  m_columns_of (fun ts g A B h => by first | (obtain ⟨rfl, _⟩ := h; rfl) | (obtain ⟨_, rfl, _⟩ := h; rfl) | (obtain ⟨_, _, rfl, _⟩ := h; rfl) | (obtain ⟨_, _, _, rfl, _⟩ := h; rfl) | (obtain ⟨_, _, _, _, rfl, _⟩ := h; rfl) | (obtain ⟨_, _, _, _, _, rfl, _⟩ := h; rfl) | (obtain ⟨_, _, _, _, _, _, rfl, _⟩ := h; rfl) | (obtain ⟨_, _, _, _, _, _, _, rfl, _⟩ := h; rfl)) pf_columns_of
  have F_is_sound := F_is_sound (P := (PySem.Challenge.rw_samesamples_k63_whole_peak_and_mean_wind).prog) (w := w) (K := K) (mg := mg) (base := base) (tabs := ((tf.map (He.cT K)).map (·.2))) M F_is_worth  gx_is_sound.1 gx_is_sound.2 D_is_sound (code_of (p := ("is_sound", none)) D_is_sound) m_is_sound (fun ts g A B h => by first | (obtain ⟨rfl, _⟩ := h; rfl) | (obtain ⟨_, rfl, _⟩ := h; rfl) | (obtain ⟨_, _, rfl, _⟩ := h; rfl) | (obtain ⟨_, _, _, rfl, _⟩ := h; rfl) | (obtain ⟨_, _, _, _, rfl, _⟩ := h; rfl) | (obtain ⟨_, _, _, _, _, rfl, _⟩ := h; rfl) | (obtain ⟨_, _, _, _, _, _, rfl, _⟩ := h; rfl) | (obtain ⟨_, _, _, _, _, _, _, rfl, _⟩ := h; rfl)) pf_is_sound
  have F__are_columns := F__are_columns (P := (PySem.Challenge.rw_samesamples_k63_whole_peak_and_mean_wind).prog) (w := w) (K := K) (mg := mg) (base := base) (tabs := ((tf.map (He.cT K)).map (·.2))) M F_is_sound  gx__are_columns.1 gx__are_columns.2 D__are_columns (code_of (p := ("_are_columns", none)) D__are_columns) m__are_columns (fun ts g A B h => by first | (obtain ⟨rfl, _⟩ := h; rfl) | (obtain ⟨_, rfl, _⟩ := h; rfl) | (obtain ⟨_, _, rfl, _⟩ := h; rfl) | (obtain ⟨_, _, _, rfl, _⟩ := h; rfl) | (obtain ⟨_, _, _, _, rfl, _⟩ := h; rfl) | (obtain ⟨_, _, _, _, _, rfl, _⟩ := h; rfl) | (obtain ⟨_, _, _, _, _, _, rfl, _⟩ := h; rfl) | (obtain ⟨_, _, _, _, _, _, _, rfl, _⟩ := h; rfl)) pf__are_columns
  have F__newest_first := F__newest_first (P := (PySem.Challenge.rw_samesamples_k63_whole_peak_and_mean_wind).prog) (w := w) (K := K) (mg := mg) (base := base) (tabs := ((tf.map (He.cT K)).map (·.2))) M    D__newest_first  m__newest_first (fun ts g A B h => by first | (obtain ⟨rfl, _⟩ := h; rfl) | (obtain ⟨_, rfl, _⟩ := h; rfl) | (obtain ⟨_, _, rfl, _⟩ := h; rfl) | (obtain ⟨_, _, _, rfl, _⟩ := h; rfl) | (obtain ⟨_, _, _, _, rfl, _⟩ := h; rfl) | (obtain ⟨_, _, _, _, _, rfl, _⟩ := h; rfl) | (obtain ⟨_, _, _, _, _, _, rfl, _⟩ := h; rfl) | (obtain ⟨_, _, _, _, _, _, _, rfl, _⟩ := h; rfl)) pf__newest_first
  have F__peak := F__peak (P := (PySem.Challenge.rw_samesamples_k63_whole_peak_and_mean_wind).prog) (w := w) (K := K) (mg := mg) (base := base) (tabs := ((tf.map (He.cT K)).map (·.2))) M F__newest_first   D__peak  m__peak (fun ts g A B h => by first | (obtain ⟨rfl, _⟩ := h; rfl) | (obtain ⟨_, rfl, _⟩ := h; rfl) | (obtain ⟨_, _, rfl, _⟩ := h; rfl) | (obtain ⟨_, _, _, rfl, _⟩ := h; rfl) | (obtain ⟨_, _, _, _, rfl, _⟩ := h; rfl) | (obtain ⟨_, _, _, _, _, rfl, _⟩ := h; rfl) | (obtain ⟨_, _, _, _, _, _, rfl, _⟩ := h; rfl) | (obtain ⟨_, _, _, _, _, _, _, rfl, _⟩ := h; rfl)) pf__peak
  have F_is_mode := F_is_mode (P := (PySem.Challenge.rw_samesamples_k63_whole_peak_and_mean_wind).prog) (w := w) (K := K) (mg := mg) (base := base) (tabs := ((tf.map (He.cT K)).map (·.2))) M    D_is_mode  m_is_mode (fun ts g A B h => by first | (obtain ⟨rfl, _⟩ := h; rfl) | (obtain ⟨_, rfl, _⟩ := h; rfl) | (obtain ⟨_, _, rfl, _⟩ := h; rfl) | (obtain ⟨_, _, _, rfl, _⟩ := h; rfl) | (obtain ⟨_, _, _, _, rfl, _⟩ := h; rfl) | (obtain ⟨_, _, _, _, _, rfl, _⟩ := h; rfl) | (obtain ⟨_, _, _, _, _, _, rfl, _⟩ := h; rfl) | (obtain ⟨_, _, _, _, _, _, _, rfl, _⟩ := h; rfl)) pf_is_mode
  have F_turned := F_turned (P := (PySem.Challenge.rw_samesamples_k63_whole_peak_and_mean_wind).prog) (w := w) (K := K) (mg := mg) (base := base) (tabs := ((tf.map (He.cT K)).map (·.2))) M F_is_integer F_demand F_is_mode   D_turned  m_turned (fun ts g A B h => by first | (obtain ⟨rfl, _⟩ := h; rfl) | (obtain ⟨_, rfl, _⟩ := h; rfl) | (obtain ⟨_, _, rfl, _⟩ := h; rfl) | (obtain ⟨_, _, _, rfl, _⟩ := h; rfl) | (obtain ⟨_, _, _, _, rfl, _⟩ := h; rfl) | (obtain ⟨_, _, _, _, _, rfl, _⟩ := h; rfl) | (obtain ⟨_, _, _, _, _, _, rfl, _⟩ := h; rfl) | (obtain ⟨_, _, _, _, _, _, _, rfl, _⟩ := h; rfl)) pf_turned
  have F__mean := F__mean (P := (PySem.Challenge.rw_samesamples_k63_whole_peak_and_mean_wind).prog) (w := w) (K := K) (mg := mg) (base := base) (tabs := ((tf.map (He.cT K)).map (·.2))) M F_turned F__newest_first   D__mean  m__mean (fun ts g A B h => by first | (obtain ⟨rfl, _⟩ := h; rfl) | (obtain ⟨_, rfl, _⟩ := h; rfl) | (obtain ⟨_, _, rfl, _⟩ := h; rfl) | (obtain ⟨_, _, _, rfl, _⟩ := h; rfl) | (obtain ⟨_, _, _, _, rfl, _⟩ := h; rfl) | (obtain ⟨_, _, _, _, _, rfl, _⟩ := h; rfl) | (obtain ⟨_, _, _, _, _, _, rfl, _⟩ := h; rfl) | (obtain ⟨_, _, _, _, _, _, _, rfl, _⟩ := h; rfl)) pf__mean
  have F_weighed := F_weighed (P := (PySem.Challenge.rw_samesamples_k63_whole_peak_and_mean_wind).prog) (w := w) (K := K) (mg := mg) (base := base) (tabs := ((tf.map (He.cT K)).map (·.2))) M    D_weighed  m_weighed (fun ts g A B h => by first | (obtain ⟨rfl, _⟩ := h; rfl) | (obtain ⟨_, rfl, _⟩ := h; rfl) | (obtain ⟨_, _, rfl, _⟩ := h; rfl) | (obtain ⟨_, _, _, rfl, _⟩ := h; rfl) | (obtain ⟨_, _, _, _, rfl, _⟩ := h; rfl) | (obtain ⟨_, _, _, _, _, rfl, _⟩ := h; rfl) | (obtain ⟨_, _, _, _, _, _, rfl, _⟩ := h; rfl) | (obtain ⟨_, _, _, _, _, _, _, rfl, _⟩ := h; rfl)) pf_weighed
  have F_clip := F_clip (P := (PySem.Challenge.rw_samesamples_k63_whole_peak_and_mean_wind).prog) (w := w) (K := K) (mg := mg) (base := base) (tabs := ((tf.map (He.cT K)).map (·.2))) M F_is_integer F_demand   D_clip  m_clip (fun ts g A B h => by first | (obtain ⟨rfl, _⟩ := h; rfl) | (obtain ⟨_, rfl, _⟩ := h; rfl) | (obtain ⟨_, _, rfl, _⟩ := h; rfl) | (obtain ⟨_, _, _, rfl, _⟩ := h; rfl) | (obtain ⟨_, _, _, _, rfl, _⟩ := h; rfl) | (obtain ⟨_, _, _, _, _, rfl, _⟩ := h; rfl) | (obtain ⟨_, _, _, _, _, _, rfl, _⟩ := h; rfl) | (obtain ⟨_, _, _, _, _, _, _, rfl, _⟩ := h; rfl)) pf_clip
  have F__taps := F__taps (P := (PySem.Challenge.rw_samesamples_k63_whole_peak_and_mean_wind).prog) (w := w) (K := K) (mg := mg) (base := base) (tabs := ((tf.map (He.cT K)).map (·.2))) M F_weighed F_turned F_clip F__newest_first   D__taps  m__taps (fun ts g A B h => by first | (obtain ⟨rfl, _⟩ := h; rfl) | (obtain ⟨_, rfl, _⟩ := h; rfl) | (obtain ⟨_, _, rfl, _⟩ := h; rfl) | (obtain ⟨_, _, _, rfl, _⟩ := h; rfl) | (obtain ⟨_, _, _, _, rfl, _⟩ := h; rfl) | (obtain ⟨_, _, _, _, _, rfl, _⟩ := h; rfl) | (obtain ⟨_, _, _, _, _, _, rfl, _⟩ := h; rfl) | (obtain ⟨_, _, _, _, _, _, _, rfl, _⟩ := h; rfl)) pf__taps
  have hk_step_of : ∀ a asp, Hd_step_of (He.ga K) a asp → FnAt (PySem.Challenge.rw_samesamples_k63_whole_peak_and_mean_wind).prog w K mg base ((tf.map (He.cT K)).map (·.2)) 3 a asp := fun a asp h => by
    rcases h with ⟨rfl, rfl⟩ | ⟨rfl, rfl⟩ | ⟨rfl, rfl⟩
    · exact (F__peak.mono (by decide)).at m__peak
    · exact (F__mean.mono (by decide)).at m__mean
    · exact (F__taps.mono (by decide)).at m__taps
  have F_step_of := F_step_of (P := (PySem.Challenge.rw_samesamples_k63_whole_peak_and_mean_wind).prog) (w := w) (K := K) (mg := mg) (base := base) (tabs := ((tf.map (He.cT K)).map (·.2))) M  (Hd_step_of (He.ga K)) hk_step_of  D_step_of  m_step_of (fun ts g A B h => by first | (obtain ⟨rfl, _⟩ := h; rfl) | (obtain ⟨_, rfl, _⟩ := h; rfl) | (obtain ⟨_, _, rfl, _⟩ := h; rfl) | (obtain ⟨_, _, _, rfl, _⟩ := h; rfl) | (obtain ⟨_, _, _, _, rfl, _⟩ := h; rfl) | (obtain ⟨_, _, _, _, _, rfl, _⟩ := h; rfl) | (obtain ⟨_, _, _, _, _, _, rfl, _⟩ := h; rfl) | (obtain ⟨_, _, _, _, _, _, _, rfl, _⟩ := h; rfl)) pf_step_of
  have F_block_of := F_block_of (P := (PySem.Challenge.rw_samesamples_k63_whole_peak_and_mean_wind).prog) (w := w) (K := K) (mg := mg) (base := base) (tabs := ((tf.map (He.cT K)).map (·.2))) M F_is_settled F_demand F_is_state F_columns_of F__are_columns F_is_within F_step_of   D_block_of  m_block_of (fun ts g A B h => by first | (obtain ⟨rfl, _⟩ := h; rfl) | (obtain ⟨_, rfl, _⟩ := h; rfl) | (obtain ⟨_, _, rfl, _⟩ := h; rfl) | (obtain ⟨_, _, _, rfl, _⟩ := h; rfl) | (obtain ⟨_, _, _, _, rfl, _⟩ := h; rfl) | (obtain ⟨_, _, _, _, _, rfl, _⟩ := h; rfl) | (obtain ⟨_, _, _, _, _, _, rfl, _⟩ := h; rfl) | (obtain ⟨_, _, _, _, _, _, _, rfl, _⟩ := h; rfl)) pf_block_of
  have F_no : Fn (PySem.Challenge.rw_samesamples_k63_whole_peak_and_mean_wind).prog w K mg base CX0 ((tf.map (He.cT K)).map (·.2)) 1 "_law_same" spNo := fn_body0C D__law_same rfl S__law_same m__law_same (D__law_same.bindsN fun _ _ _ _ _ _ us hl => match us, hl with | [_, _], _ => rfl) (fun _ _ _ _ h => h.elim) aNever (fun _ _ _ _ _ _ => ab_never) fun _ _ _ _ h => h.elim
  have lens : ∀ n ts g A B, sp_same n ts g A B → ts.length = 2 := fun n ts g A B h => by obtain ⟨_, rfl, _⟩ := h; rfl
  have F_s0 := F__law_same (P := (PySem.Challenge.rw_samesamples_k63_whole_peak_and_mean_wind).prog) (w := w) (K := K) (mg := mg) (base := base) (tabs := ((tf.map (He.cT K)).map (·.2))) M  F_no D__law_same m__law_same (lens 0) (pf_same 0 spNo fun m e => by cases e)
  have F_s1 := F__law_same M  F_s0 D__law_same m__law_same (lens 1) (pf_same 1 (sp_same 0) fun m e => by cases e; rfl)
  have F_s2 := F__law_same M  F_s1 D__law_same m__law_same (lens 2) (pf_same 2 (sp_same 1) fun m e => by cases e; rfl)
  have F__law_same : Fn (PySem.Challenge.rw_samesamples_k63_whole_peak_and_mean_wind).prog w K mg base CX0 ((tf.map (He.cT K)).map (·.2)) 6 "_law_same" sp__law_same := F_s2.mono (by decide)
  have F__law_meter := F__law_meter (P := (PySem.Challenge.rw_samesamples_k63_whole_peak_and_mean_wind).prog) (w := w) (K := K) (mg := mg) (base := base) (tabs := ((tf.map (He.cT K)).map (·.2))) M F_is_state F__law_windows F_block_of F__law_same F__law_take   D__law_meter  m__law_meter (fun ts g A B h => by first | (obtain ⟨rfl, _⟩ := h; rfl) | (obtain ⟨_, rfl, _⟩ := h; rfl) | (obtain ⟨_, _, rfl, _⟩ := h; rfl) | (obtain ⟨_, _, _, rfl, _⟩ := h; rfl) | (obtain ⟨_, _, _, _, rfl, _⟩ := h; rfl) | (obtain ⟨_, _, _, _, _, rfl, _⟩ := h; rfl) | (obtain ⟨_, _, _, _, _, _, rfl, _⟩ := h; rfl) | (obtain ⟨_, _, _, _, _, _, _, rfl, _⟩ := h; rfl)) pf__law_meter
  have F__law_constant := F__law_constant (P := (PySem.Challenge.rw_samesamples_k63_whole_peak_and_mean_wind).prog) (w := w) (K := K) (mg := mg) (base := base) (tabs := ((tf.map (He.cT K)).map (·.2))) M F__law_worth F_block_of F__law_same   D__law_constant  m__law_constant (fun ts g A B h => by first | (obtain ⟨rfl, _⟩ := h; rfl) | (obtain ⟨_, rfl, _⟩ := h; rfl) | (obtain ⟨_, _, rfl, _⟩ := h; rfl) | (obtain ⟨_, _, _, rfl, _⟩ := h; rfl) | (obtain ⟨_, _, _, _, rfl, _⟩ := h; rfl) | (obtain ⟨_, _, _, _, _, rfl, _⟩ := h; rfl) | (obtain ⟨_, _, _, _, _, _, rfl, _⟩ := h; rfl) | (obtain ⟨_, _, _, _, _, _, _, rfl, _⟩ := h; rfl)) pf__law_constant
  have F_start_by := F_start_by (P := (PySem.Challenge.rw_samesamples_k63_whole_peak_and_mean_wind).prog) (w := w) (K := K) (mg := mg) (base := base) (tabs := ((tf.map (He.cT K)).map (·.2))) M F__worths_kept   D_start_by  m_start_by (fun ts g A B h => by first | (obtain ⟨rfl, _⟩ := h; rfl) | (obtain ⟨_, rfl, _⟩ := h; rfl) | (obtain ⟨_, _, rfl, _⟩ := h; rfl) | (obtain ⟨_, _, _, rfl, _⟩ := h; rfl) | (obtain ⟨_, _, _, _, rfl, _⟩ := h; rfl) | (obtain ⟨_, _, _, _, _, rfl, _⟩ := h; rfl) | (obtain ⟨_, _, _, _, _, _, rfl, _⟩ := h; rfl) | (obtain ⟨_, _, _, _, _, _, _, rfl, _⟩ := h; rfl)) pf_start_by
  have F_start_of := F_start_of (P := (PySem.Challenge.rw_samesamples_k63_whole_peak_and_mean_wind).prog) (w := w) (K := K) (mg := mg) (base := base) (tabs := ((tf.map (He.cT K)).map (·.2))) M F_is_settled F_demand F_start_by   D_start_of  m_start_of (fun ts g A B h => by first | (obtain ⟨rfl, _⟩ := h; rfl) | (obtain ⟨_, rfl, _⟩ := h; rfl) | (obtain ⟨_, _, rfl, _⟩ := h; rfl) | (obtain ⟨_, _, _, rfl, _⟩ := h; rfl) | (obtain ⟨_, _, _, _, rfl, _⟩ := h; rfl) | (obtain ⟨_, _, _, _, _, rfl, _⟩ := h; rfl) | (obtain ⟨_, _, _, _, _, _, rfl, _⟩ := h; rfl) | (obtain ⟨_, _, _, _, _, _, _, rfl, _⟩ := h; rfl)) pf_start_of
  have F__law_from_start := F__law_from_start (P := (PySem.Challenge.rw_samesamples_k63_whole_peak_and_mean_wind).prog) (w := w) (K := K) (mg := mg) (base := base) (tabs := ((tf.map (He.cT K)).map (·.2))) M F_start_of F_block_of   D__law_from_start  m__law_from_start (fun ts g A B h => by first | (obtain ⟨rfl, _⟩ := h; rfl) | (obtain ⟨_, rfl, _⟩ := h; rfl) | (obtain ⟨_, _, rfl, _⟩ := h; rfl) | (obtain ⟨_, _, _, rfl, _⟩ := h; rfl) | (obtain ⟨_, _, _, _, rfl, _⟩ := h; rfl) | (obtain ⟨_, _, _, _, _, rfl, _⟩ := h; rfl) | (obtain ⟨_, _, _, _, _, _, rfl, _⟩ := h; rfl) | (obtain ⟨_, _, _, _, _, _, _, rfl, _⟩ := h; rfl)) pf__law_from_start
  have F__law_means := F__law_means (P := (PySem.Challenge.rw_samesamples_k63_whole_peak_and_mean_wind).prog) (w := w) (K := K) (mg := mg) (base := base) (tabs := ((tf.map (He.cT K)).map (·.2))) M F__law_windows F__law_from_start F__law_same F__law_halfup F__law_take   D__law_means  m__law_means (fun ts g A B h => by first | (obtain ⟨rfl, _⟩ := h; rfl) | (obtain ⟨_, rfl, _⟩ := h; rfl) | (obtain ⟨_, _, rfl, _⟩ := h; rfl) | (obtain ⟨_, _, _, rfl, _⟩ := h; rfl) | (obtain ⟨_, _, _, _, rfl, _⟩ := h; rfl) | (obtain ⟨_, _, _, _, _, rfl, _⟩ := h; rfl) | (obtain ⟨_, _, _, _, _, _, rfl, _⟩ := h; rfl) | (obtain ⟨_, _, _, _, _, _, _, rfl, _⟩ := h; rfl)) pf__law_means
  have F__law_peaks := F__law_peaks (P := (PySem.Challenge.rw_samesamples_k63_whole_peak_and_mean_wind).prog) (w := w) (K := K) (mg := mg) (base := base) (tabs := ((tf.map (He.cT K)).map (·.2))) M F__law_windows F__law_from_start F__law_same   D__law_peaks  m__law_peaks (fun ts g A B h => by first | (obtain ⟨rfl, _⟩ := h; rfl) | (obtain ⟨_, rfl, _⟩ := h; rfl) | (obtain ⟨_, _, rfl, _⟩ := h; rfl) | (obtain ⟨_, _, _, rfl, _⟩ := h; rfl) | (obtain ⟨_, _, _, _, rfl, _⟩ := h; rfl) | (obtain ⟨_, _, _, _, _, rfl, _⟩ := h; rfl) | (obtain ⟨_, _, _, _, _, _, rfl, _⟩ := h; rfl) | (obtain ⟨_, _, _, _, _, _, _, rfl, _⟩ := h; rfl)) pf__law_peaks
  exact fnOk_body0C D_law rfl S_law (fun ts g A B h => by first | (obtain ⟨rfl, _⟩ := h; rfl) | (obtain ⟨_, rfl, _⟩ := h; rfl) | (obtain ⟨_, _, rfl, _⟩ := h; rfl) | (obtain ⟨_, _, _, rfl, _⟩ := h; rfl) | (obtain ⟨_, _, _, _, rfl, _⟩ := h; rfl) | (obtain ⟨_, _, _, _, _, rfl, _⟩ := h; rfl) | (obtain ⟨_, _, _, _, _, _, rfl, _⟩ := h; rfl) | (obtain ⟨_, _, _, _, _, _, _, rfl, _⟩ := h; rfl)) (r_law (He.ga K)) (fun _ _ _ _ _ hr => b_law M F__law_pot F__law_take F__law_many F__law_worth F__law_meter F__law_constant F__law_means F__law_peaks hr) pf_law
end Hd
open PySem PySem.W PySem.Calls PyProof.Rows
theorem PySem.Challenge.cw_samesamples_k63_whole_peak_and_mean_wind_holds : PySem.Challenge.rw_samesamples_k63_whole_peak_and_mean_wind.Holds := by
  w_on; o_law
  refine HandSHeadRun.head_any (r := OpenLaw.row PySem.Challenge.rw_samesamples_k63_whole_peak_and_mean_wind) (q := view (OpenLaw.row PySem.Challenge.rw_samesamples_k63_whole_peak_and_mean_wind).prog [130]) (H := Hd.hk) (ob := Hd.ob) (M := 6000) (loose := Hd.nms) (d := HandSHeadRun.topDef (OpenLaw.row PySem.Challenge.rw_samesamples_k63_whole_peak_and_mean_wind).prog 130) (kwd := []) Hd.ob_eq
    (by kernel_rfl) (fun s => by kernel_rfl) Hd.run (by kernel_rfl) (by kernel_rfl) (by kernel_rfl) (by rfl) (by first | assumption | decide +kernel) (by decide +kernel) ⟨rfl, rfl, rfl, rfl, rfl, by decide +kernel⟩ ?hw ?hc
  case hw => w_witness2
  case hc =>
    refine LamX.walk_ofTsE (l := PySem.Challenge.rw_samesamples_k63_whole_peak_and_mean_wind) (n := 63) (k := 15) (x := "_law_script") (CX := fun _ => L2.CX0) rfl (by decide) (by kernel_rfl) ⟨rfl, by decide, by decide⟩ ?F (fun _ _ _ _ _ z => z)
    intro w mg fa h Y G hmg0
    obtain ⟨K, KX, c⟩ := Y
    have hmg : mg ("law" : PySem.Str) = some (.ref fa) := by
      have e : (HandSHeadRun.topDef (OpenLaw.row PySem.Challenge.rw_samesamples_k63_whole_peak_and_mean_wind).prog 130).name = ("law" : PySem.Str) := by kernel_rfl
      rw [← e]
      exact hmg0
    exact ⟨K, KX, Hd.facts KX G hmg c⟩
