import PyProof.Rows.All
import Wide.All
import OpenK.AllK
import Wide.FinOn
import HandS.ForMost
import HandS.IsInst
import HandS.TupAny
import HandS.Wide
import HandS.EndBits
import HandS.Lambda
import HandS.EndTab
import HandS.Deep
import HandS.Rev
import HandS.SortKw
import KE.SortKeyHeap
import KE.KSortKey
import KE.KLam
import HandS.CallLocal
import HandS.More
import PySem.Challenge.RW_patchkept_k24_equal_formulas
set_option Elab.async false
set_option linter.all false
set_option maxRecDepth 100000
namespace Pk
open PySem L2

/-! ### data -/
inductive D where
  | non | bl (b : Bool) | int (i : Int) | str (x : Str) | tup (ds : List D) | lst (ds : List D) | ro (ds : List D)

mutual
def Rep (K : PySem.W.Frag) (G : Hp) : D → V → Prop
  | .non, v => v = .non
  | .bl b, v => v = .bl b
  | .int i, v => v = .int i
  | .str x, v => v = .str x
  | .tup ds, v => ∃ a vs, v = .ref a ∧ SqT K G a vs ∧ Reps K G ds vs
  | .lst ds, v => ∃ a vs, v = .ref a ∧ Rd G a (.lst vs) ∧ Reps K G ds vs
  | .ro ds, v => ∃ a vs, v = .ref a ∧ SqL K G a vs ∧ Reps K G ds vs
def Reps (K : PySem.W.Frag) (G : Hp) : List D → List V → Prop
  | [], vs => vs = []
  | d :: ds, vs => ∃ v r, vs = v :: r ∧ Rep K G d v ∧ Reps K G ds r
end

section
variable {K : PySem.W.Frag} {G G' : Hp}
theorem sqT_mono (g : Same G G') {a : Addr} {vs : List V} (h : SqT K G a vs) : SqT K G' a vs := by
  rcases h with (h | ⟨o, h⟩) | h
  · exact .inl (.inl (g _ _ h))
  · exact .inl (.inr ⟨o, g _ _ h⟩)
  · exact .inr h
theorem sqL_mono (g : Same G G') {a : Addr} {vs : List V} (h : SqL K G a vs) : SqL K G' a vs := by
  rcases h with (h | ⟨o, h⟩) | h
  · exact .inl (.inl (g _ _ h))
  · exact .inl (.inr ⟨o, g _ _ h⟩)
  · exact .inr h
theorem rd_mono (g : Same G G') {a : Addr} {u : HO} (h : Rd G a u) : Rd G' a u := by
  rcases h with h | ⟨o, h⟩
  · exact .inl (g _ _ h)
  · exact .inr ⟨o, g _ _ h⟩
mutual
theorem Rep.mono (g : Same G G') : ∀ (d : D) (v : V), Rep K G d v → Rep K G' d v
  | .non, _, h => h
  | .bl _, _, h => h
  | .int _, _, h => h
  | .str _, _, h => h
  | .tup ds, v, h => by
    rw [Rep] at h ⊢
    obtain ⟨a, vs, e, q, r⟩ := h
    exact ⟨a, vs, e, sqT_mono g q, Reps.mono g ds vs r⟩
  | .lst ds, v, h => by
    rw [Rep] at h ⊢
    obtain ⟨a, vs, e, q, r⟩ := h
    exact ⟨a, vs, e, rd_mono g q, Reps.mono g ds vs r⟩
  | .ro ds, v, h => by
    rw [Rep] at h ⊢
    obtain ⟨a, vs, e, q, r⟩ := h
    exact ⟨a, vs, e, sqL_mono g q, Reps.mono g ds vs r⟩
theorem Reps.mono (g : Same G G') : ∀ (ds : List D) (vs : List V), Reps K G ds vs → Reps K G' ds vs
  | [], _, h => h
  | d :: ds, vs, h => by
    rw [Reps] at h ⊢
    obtain ⟨v, r, e, h1, h2⟩ := h
    exact ⟨v, r, e, Rep.mono g d v h1, Reps.mono g ds r h2⟩
end
theorem Reps.nil : Reps K G [] [] := by rw [Reps]
theorem Reps.cons {d : D} {ds : List D} {v : V} {vs : List V} (h : Rep K G d v) (t : Reps K G ds vs) : Reps K G (d :: ds) (v :: vs) := by
  rw [Reps]; exact ⟨v, vs, rfl, h, t⟩
theorem Reps.nil_inv {vs : List V} (h : Reps K G [] vs) : vs = [] := by rw [Reps] at h; exact h
theorem Reps.cons_inv {d : D} {ds : List D} {vs : List V} (h : Reps K G (d :: ds) vs) : ∃ v r, vs = v :: r ∧ Rep K G d v ∧ Reps K G ds r := by rw [Reps] at h; exact h
theorem Reps.length : ∀ {ds : List D} {vs : List V}, Reps K G ds vs → vs.length = ds.length
  | [], _, h => by rw [h.nil_inv]; rfl
  | d :: ds, _, h => by
    obtain ⟨v, r, rfl, _, t⟩ := h.cons_inv
    rw [List.length_cons, List.length_cons, t.length]
theorem Reps.get : ∀ {ds : List D} {vs : List V} {i : Nat} {d : D}, Reps K G ds vs → ds[i]? = some d → ∃ v, vs[i]? = some v ∧ Rep K G d v
  | [], _, _, _, _, e => by simp at e
  | d :: ds, _, 0, _, h, e => by
    obtain ⟨v, r, rfl, q, t⟩ := h.cons_inv
    simp at e; subst e
    exact ⟨v, rfl, q⟩
  | d :: ds, _, i + 1, _, h, e => by
    obtain ⟨v, r, rfl, q, t⟩ := h.cons_inv
    obtain ⟨u, h1, h2⟩ := t.get (i := i) (by simpa using e)
    exact ⟨u, by simpa using h1, h2⟩
theorem Reps.get' : ∀ {ds : List D} {vs : List V} {i : Nat} {v : V}, Reps K G ds vs → vs[i]? = some v → ∃ d, ds[i]? = some d ∧ Rep K G d v
  | [], _, _, _, h, e => by rw [h.nil_inv] at e; simp at e
  | d :: ds, _, 0, _, h, e => by
    obtain ⟨v, r, rfl, q, t⟩ := h.cons_inv
    simp at e; subst e
    exact ⟨d, rfl, q⟩
  | d :: ds, _, i + 1, _, h, e => by
    obtain ⟨v, r, rfl, q, t⟩ := h.cons_inv
    obtain ⟨u, h1, h2⟩ := t.get' (i := i) (by simpa using e)
    exact ⟨u, by simpa using h1, h2⟩
theorem Reps.app : ∀ {ds es : List D} {vs us : List V}, Reps K G ds vs → Reps K G es us → Reps K G (ds ++ es) (vs ++ us)
  | [], _, _, _, h, q => by rw [h.nil_inv]; exact q
  | d :: ds, _, _, _, h, q => by
    obtain ⟨v, r, rfl, q1, t⟩ := h.cons_inv
    exact .cons q1 (t.app q)
theorem Reps.take : ∀ {ds : List D} {vs : List V} (n : Nat), Reps K G ds vs → Reps K G (ds.take n) (vs.take n)
  | _, _, 0, _ => by rw [List.take_zero, List.take_zero]; exact .nil
  | [], _, n + 1, h => by rw [h.nil_inv]; exact .nil
  | d :: ds, _, n + 1, h => by
    obtain ⟨v, r, rfl, q, t⟩ := h.cons_inv
    exact .cons q (t.take n)
theorem Reps.drop : ∀ {ds : List D} {vs : List V} (n : Nat), Reps K G ds vs → Reps K G (ds.drop n) (vs.drop n)
  | _, _, 0, h => h
  | [], _, n + 1, h => by rw [h.nil_inv]; exact .nil
  | d :: ds, _, n + 1, h => by
    obtain ⟨v, r, rfl, q, t⟩ := h.cons_inv
    exact t.drop n
theorem Reps.set : ∀ {ds : List D} {vs : List V} {d : D} {v : V} (n : Nat), Reps K G ds vs → Rep K G d v → Reps K G (ds.set n d) (vs.set n v)
  | [], _, _, _, n, h, _ => by rw [h.nil_inv]; exact .nil
  | d :: ds, _, _, _, 0, h, q => by
    obtain ⟨v, r, rfl, q', t⟩ := h.cons_inv
    exact .cons q t
  | d :: ds, _, _, _, n + 1, h, q => by
    obtain ⟨v, r, rfl, q', t⟩ := h.cons_inv
    exact .cons q' (t.set n q)
theorem Reps.snoc {ds : List D} {vs : List V} {d : D} {v : V} (h : Reps K G ds vs) (q : Rep K G d v) : Reps K G (ds ++ [d]) (vs ++ [v]) := h.app (.cons q .nil)
theorem Reps.rev : ∀ {ds : List D} {vs : List V}, Reps K G ds vs → Reps K G ds.reverse vs.reverse
  | [], _, h => by rw [h.nil_inv]; exact .nil
  | d :: ds, _, h => by
    obtain ⟨v, r, rfl, q, t⟩ := h.cons_inv
    rw [List.reverse_cons, List.reverse_cons]
    exact t.rev.snoc q
theorem Rep.non_of : Rep K G .non .non := by rw [Rep]
theorem Rep.bl_of {b : Bool} : Rep K G (.bl b) (.bl b) := by rw [Rep]
theorem Rep.int_of {i : Int} : Rep K G (.int i) (.int i) := by rw [Rep]
theorem Rep.str_of {x : Str} : Rep K G (.str x) (.str x) := by rw [Rep]
theorem Rep.tup_of {ds : List D} {a : Addr} {vs : List V} (h : SqT K G a vs) (r : Reps K G ds vs) : Rep K G (.tup ds) (.ref a) := by rw [Rep]; exact ⟨a, vs, rfl, h, r⟩
theorem Rep.lst_of {ds : List D} {a : Addr} {vs : List V} (h : Rd G a (.lst vs)) (r : Reps K G ds vs) : Rep K G (.lst ds) (.ref a) := by rw [Rep]; exact ⟨a, vs, rfl, h, r⟩
theorem Rep.non_inv {v : V} (h : Rep K G .non v) : v = .non := by rw [Rep] at h; exact h
theorem Rep.bl_inv {b : Bool} {v : V} (h : Rep K G (.bl b) v) : v = .bl b := by rw [Rep] at h; exact h
theorem Rep.int_inv {i : Int} {v : V} (h : Rep K G (.int i) v) : v = .int i := by rw [Rep] at h; exact h
theorem Rep.str_inv {x : Str} {v : V} (h : Rep K G (.str x) v) : v = .str x := by rw [Rep] at h; exact h
theorem Rep.tup_inv {ds : List D} {v : V} (h : Rep K G (.tup ds) v) : ∃ a vs, v = .ref a ∧ SqT K G a vs ∧ Reps K G ds vs := by rw [Rep] at h; exact h
theorem Rep.ro_of {ds : List D} {a : Addr} {vs : List V} (h : SqL K G a vs) (r : Reps K G ds vs) : Rep K G (.ro ds) (.ref a) := by rw [Rep]; exact ⟨a, vs, rfl, h, r⟩
theorem Rep.ro_inv {ds : List D} {v : V} (h : Rep K G (.ro ds) v) : ∃ a vs, v = .ref a ∧ SqL K G a vs ∧ Reps K G ds vs := by rw [Rep] at h; exact h
theorem Rep.lst_inv {ds : List D} {v : V} (h : Rep K G (.lst ds) v) : ∃ a vs, v = .ref a ∧ Rd G a (.lst vs) ∧ Reps K G ds vs := by rw [Rep] at h; exact h
end

/-! ### slots: what a def's name holds -/
inductive S where
  /-- a value that stands still -/
  | d (d : D)
  /-- a list of one's own (pinned: a parameter that the caller lends) -/
  | own (pin : Bool) (ds : List D)
  /-- lent to a loop that walks it -/
  | lock
abbrev Ro := List (Option S)

/-- the tables of code that lambdas fill: known, and never frozen -/
structure Tb (Θ : List (Addr × Str)) (G H : Hp) : Prop where
  ok : ∀ e ∈ Θ, LamX.TabS H e.1 e.2
  out : ∀ e ∈ Θ, G e.1 = none
  cl : ∀ b ts, G b ≠ some (.tbl ts)
theorem Tb.upd {Θ : List (Addr × Str)} {G H : Hp} (t : Tb Θ G H) {p : Addr} {o : HO} (h1 : ∀ ts, H p ≠ some (.tbl ts)) (h2 : ∀ c q, H p ≠ some (LamX.CodeO c q)) : Tb Θ G (L2.upd H p o) := by
  refine ⟨fun e he => ?_, t.out, t.cl⟩
  obtain ⟨ps, a1, a2, a3⟩ := t.ok e he
  refine ⟨ps, by rw [upd_ne (fun z => by rw [z] at a1; exact h1 _ a1)]; exact a1, a2, fun pos cv hc => ?_⟩
  obtain ⟨c, e1, e2⟩ := a3 pos cv hc
  exact ⟨c, e1, by rw [upd_ne (fun z => by rw [z] at e2; exact h2 _ _ e2)]; exact e2⟩
theorem Tb.new {Θ : List (Addr × Str)} {G H : Hp} (t : Tb Θ G H) {p : Addr} {o : HO} (h : H p = none) : Tb Θ G (L2.upd H p o) :=
  t.upd (fun ts z => by rw [h] at z; cases z) (fun c q z => by rw [h] at z; cases z)
theorem Tb.lst {Θ : List (Addr × Str)} {G H : Hp} (t : Tb Θ G H) {p : Addr} {o : HO} {vs : List V} (h : H p = some (.lst vs)) : Tb Θ G (L2.upd H p o) :=
  t.upd (fun ts z => by rw [h] at z; cases z) (fun c q z => by rw [h] at z; unfold LamX.CodeO at z; cases z)
theorem Tb.frz {Θ : List (Addr × Str)} {G G' H : Hp} (t : Tb Θ G H) (le : Same G G') (h : ∀ b u, G' b = some u → G b = none → ∃ vs, u = .lst vs ∧ H b = some (.lst vs)) : Tb Θ G' H := by
  refine ⟨t.ok, fun e he => ?_, fun b ts z => ?_⟩
  · obtain ⟨ps, a1, _⟩ := t.ok e he
    cases z : G' e.1 with
    | none => rfl
    | some u =>
      obtain ⟨vs, _, hv⟩ := h _ _ z (t.out e he)
      rw [a1] at hv; cases hv
  · cases q : G b with
    | none =>
      obtain ⟨vs, e, _⟩ := h _ _ z q
      cases e
    | some w =>
      have := le _ _ q
      rw [z] at this
      cases this
      exact t.cl _ _ q
theorem Tb.same {Θ : List (Addr × Str)} {G H G' H' : Hp} (t : Tb Θ G H) (h : Same H H') (o : ∀ b u, H b = some u → G b = none → G' b = none) (c : (∀ b ts, G b ≠ some (.tbl ts)) → ∀ b ts, G' b ≠ some (.tbl ts)) : Tb Θ G' H' :=
  ⟨fun e he => (t.ok e he).ext h, fun e he => by
    obtain ⟨ps, a1, _⟩ := t.ok e he
    exact o _ _ a1 (t.out e he), c t.cl⟩
def tf : HO → Bool
  | .tbl _ => false
  | _ => true
/-- nothing there but, maybe, a table -/
def nw (H : Hp) (b : Addr) : Prop := ∀ u, H b = some u → tf u = false
theorem nw_none {H : Hp} {b : Addr} (h : H b = none) : nw H b := fun u e => by rw [h] at e; cases e
theorem same_nw {H H' : Hp} {b : Addr} (s : Same H H') (h : nw H' b) : nw H b := fun u e => h u (s _ _ e)
theorem nw_ne {H : Hp} {b p : Addr} {u : HO} (h : nw H p) (e : H b = some u) (t : tf u = true) : b ≠ p := fun z => by
  subst z; rw [h u e] at t; cases t
structure Rel (Θ : List (Addr × Str)) (K : PySem.W.Frag) (G H : Hp) (r : Ro) (σ : St) : Prop where
  len : r.length = σ.length
  sub : Same G H
  get : ∀ (i : Nat) (d : D), r[i]? = some (some (.d d)) → ∃ v, σ[i]? = some (some v) ∧ Rep K G d v
  own : ∀ (i : Nat) (p : Bool) (ds : List D), r[i]? = some (some (.own p ds)) → ∃ a vs, σ[i]? = some (some (.ref a)) ∧ H a = some (.lst vs) ∧ G a = none ∧ Reps K G ds vs
  sep : ∀ (i j : Nat) (p : Bool) (ds : List D) (q : Bool) (es : List D) (a : Addr), r[i]? = some (some (.own p ds)) → r[j]? = some (some (.own q es)) → σ[i]? = some (some (.ref a)) → σ[j]? = some (some (.ref a)) → i = j
  tab : Tb Θ G H

def Owned (r : Ro) (σ : St) (b : Addr) : Prop := ∃ (i : Nat) (p : Bool) (ds : List D), r[i]? = some (some (.own p ds)) ∧ σ[i]? = some (some (.ref b))

structure Fr (G H : Hp) (r : Ro) (σ : St) (G' H' : Hp) (r' : Ro) (σ' : St) : Prop where
  le : Same G G'
  keep : ∀ (b : Addr) (u : HO), H b = some u → tf u = true → ¬ Owned r σ b → H' b = some u ∧ ¬ Owned r' σ' b ∧ (G b = none → G' b = none)
  pin : ∀ (i : Nat) (ds : List D), r[i]? = some (some (.own true ds)) → (∃ ds', r'[i]? = some (some (.own true ds'))) ∧ σ'[i]? = σ[i]?
  lck : ∀ (i : Nat), r[i]? = some (some .lock) → r'[i]? = some (some .lock) ∧ σ'[i]? = σ[i]?
  mono : ∀ (b : Addr), nw H' b → nw H b

theorem Fr.refl (G H : Hp) (r : Ro) (σ : St) : Fr G H r σ G H r σ :=
  ⟨Same.refl _, fun _ _ e _ n => ⟨e, n, fun z => z⟩, fun i ds e => ⟨⟨ds, e⟩, rfl⟩, fun i e => ⟨e, rfl⟩, fun _ h => h⟩
theorem Fr.trans {G H G1 H1 G2 H2 : Hp} {r r1 r2 : Ro} {σ σ1 σ2 : St} (a : Fr G H r σ G1 H1 r1 σ1) (b : Fr G1 H1 r1 σ1 G2 H2 r2 σ2) : Fr G H r σ G2 H2 r2 σ2 := by
  refine ⟨a.le.trans b.le, fun c u e t n => ?_, fun i ds e => ?_, fun i e => ?_, fun c h => a.mono c (b.mono c h)⟩
  · obtain ⟨h1, n1, g1⟩ := a.keep c u e t n
    obtain ⟨h2, n2, g2⟩ := b.keep c u h1 t n1
    exact ⟨h2, n2, fun z => g2 (g1 z)⟩
  · obtain ⟨⟨ds', e1⟩, s1⟩ := a.pin i ds e
    obtain ⟨e2, s2⟩ := b.pin i ds' e1
    exact ⟨e2, s2.trans s1⟩
  · obtain ⟨e1, s1⟩ := a.lck i e
    obtain ⟨e2, s2⟩ := b.lck i e1
    exact ⟨e2, s2.trans s1⟩

/-- something new and still -/
structure Ext (G H G' H' : Hp) : Prop where
  le : Same G G'
  same : Same H H'
  sub : Same G H → Same G' H'
  out : ∀ b u, H b = some u → G b = none → G' b = none
  cl : (∀ b ts, G b ≠ some (.tbl ts)) → ∀ b ts, G' b ≠ some (.tbl ts)
theorem Ext.refl (G H : Hp) : Ext G H G H := ⟨Same.refl _, Same.refl _, fun z => z, fun _ _ _ z => z, fun z => z⟩
theorem same_new {H : Hp} {p : Addr} (h : H p = none) (o : HO) : Same H (upd H p o) := fun b u q => by rw [upd_ne (ne_of_none q h)]; exact q
theorem free_of {G H : Hp} (s : Same G H) {p : Addr} (h : H p = none) : G p = none := by
  cases e : G p with
  | none => rfl
  | some u => rw [s _ _ e] at h; cases h
theorem Ext.new {G H : Hp} (s : Same G H) {p : Addr} (h : H p = none) (o : HO) (ho : tf o = true := by rfl) : Ext G H (upd G p o) (upd H p o) := by
  refine ⟨same_new (free_of s h) o, same_new h o, fun _ b u e => ?_, fun b u e z => ?_, fun c b ts z => ?_⟩
  · by_cases q : b = p
    · subst q; rw [upd_same] at e ⊢; exact e
    · rw [upd_ne q] at e ⊢; exact s _ _ e
  · rw [upd_ne (ne_of_none e h)]; exact z
  · by_cases q : b = p
    · subst q; rw [upd_same] at z; cases z; cases ho
    · rw [upd_ne q] at z; exact c b ts z
theorem Ext.trans {G H G1 H1 G2 H2 : Hp} (a : Ext G H G1 H1) (b : Ext G1 H1 G2 H2) : Ext G H G2 H2 :=
  ⟨a.le.trans b.le, a.same.trans b.same, fun z => b.sub (a.sub z), fun c u e z => b.out c u (a.same _ _ e) (a.out c u e z), fun z => b.cl (a.cl z)⟩
theorem Ext.fr {G H G' H' : Hp} (e : Ext G H G' H') (r : Ro) (σ : St) : Fr G H r σ G' H' r σ :=
  ⟨e.le, fun b u h _ n => ⟨e.same _ _ h, n, e.out b u h⟩, fun i ds z => ⟨⟨ds, z⟩, rfl⟩, fun i z => ⟨z, rfl⟩, fun b h => same_nw e.same h⟩
theorem Ext.rel {K : PySem.W.Frag} {G H G' H' : Hp} (e : Ext G H G' H') {r : Ro} {σ : St} (R : Rel Θ K G H r σ) : Rel Θ K G' H' r σ := by
  refine ⟨R.len, e.sub R.sub, fun i d z => ?_, fun i p ds z => ?_, R.sep, R.tab.same e.same e.out e.cl⟩
  · obtain ⟨v, h1, h2⟩ := R.get i d z
    exact ⟨v, h1, h2.mono e.le⟩
  · obtain ⟨a, vs, h1, h2, h3, h4⟩ := R.own i p ds z
    exact ⟨a, vs, h1, e.same _ _ h2, e.out _ _ h2 h3, Reps.mono e.le _ _ h4⟩

/-! ### what code does, over slots -/
abbrev M (α : Type) := Ro → Option (α × Ro)
/-- one behind the other -/
def bd {α β : Type} (m : M α) (k : α → M β) : M β := fun r => match m r with
  | none => none
  | some (x, r1) => k x r1
def rt {α : Type} (x : α) : M α := fun r => some (x, r)
def of {α : Type} (o : Option α) : M α := fun r => match o with
  | none => none
  | some x => some (x, r)
theorem bd_some {α β : Type} {m : M α} {k : α → M β} {r : Ro} {y : β × Ro} (h : bd m k r = some y) : ∃ x r1, m r = some (x, r1) ∧ k x r1 = some y := by
  unfold bd at h
  cases e : m r with
  | none => rw [e] at h; cases h
  | some p =>
    obtain ⟨x, r1⟩ := p
    rw [e] at h
    exact ⟨x, r1, rfl, h⟩
theorem of_some {α : Type} {o : Option α} {r : Ro} {x : α} {r' : Ro} (h : of o r = some (x, r')) : o = some x ∧ r' = r := by
  unfold of at h
  cases o with
  | none => cases h
  | some y => cases h; exact ⟨rfl, rfl⟩
theorem rt_some {α : Type} {y : α} {r : Ro} {x : α} {r' : Ro} (h : rt y r = some (x, r')) : x = y ∧ r' = r := by
  unfold rt at h
  cases h
  exact ⟨rfl, rfl⟩

/-- o comes, and P holds behind it -/
def Cn (Θ : List (Addr × Str)) {α : Type} (K : PySem.W.Frag) (G H : Hp) (r : Ro) (σ : St) (o : Option (α × Ro)) (P : α → Hp → Hp → Prop) : Prop :=
  ∃ d r', o = some (d, r') ∧ ∀ G' H', Rel Θ K G' H' r' σ → Fr G H r σ G' H' r' σ → P d G' H'
section
variable {K : PySem.W.Frag} {G H : Hp} {r : Ro} {σ : St} {α β : Type}
theorem Cn.mono {o : Option (α × Ro)} {P P' : α → Hp → Hp → Prop} (c : Cn Θ K G H r σ o P) (h : ∀ d G' H', P d G' H' → P' d G' H') : Cn Θ K G H r σ o P' := by
  obtain ⟨d, r', e, k⟩ := c
  exact ⟨d, r', e, fun G' H' R F => h _ _ _ (k G' H' R F)⟩
theorem cn_bd {m : M α} {k : α → M β} {P : β → Hp → Hp → Prop} (c : Cn Θ K G H r σ (bd m k r) P) :
    Cn Θ K G H r σ (m r) fun x G1 H1 => ∃ r1, Rel Θ K G1 H1 r1 σ ∧ Same G G1 ∧ Cn Θ K G1 H1 r1 σ (k x r1) P := by
  obtain ⟨d, r', e, q⟩ := c
  obtain ⟨x, r1, e1, e2⟩ := bd_some e
  exact ⟨x, r1, e1, fun G1 H1 R1 F1 => ⟨r1, R1, F1.le, d, r', e2, fun G' H' R F => q G' H' R (F1.trans F)⟩⟩
theorem cn_of {o : Option α} {P : α → Hp → Hp → Prop} (R : Rel Θ K G H r σ) (c : Cn Θ K G H r σ (of o r) P) : ∃ z, o = some z ∧ ∀ G' H', Ext G H G' H' → P z G' H' := by
  obtain ⟨z, r', e, k⟩ := c
  obtain ⟨e1, rfl⟩ := of_some e
  exact ⟨z, e1, fun G' H' x => k G' H' (x.rel R) (x.fr _ _)⟩
theorem cn_rt {x : α} {P : α → Hp → Hp → Prop} (R : Rel Θ K G H r σ) (c : Cn Θ K G H r σ (rt x r) P) : ∀ G' H', Ext G H G' H' → P x G' H' := by
  obtain ⟨z, r', e, k⟩ := c
  obtain ⟨rfl, rfl⟩ := rt_some e
  exact fun G' H' x => k G' H' (x.rel R) (x.fr _ _)
end
def rdE (Θ : List (Addr × Str)) (K : PySem.W.Frag) (m : M D) : TE := fun σ H Q => ∃ G r, Rel Θ K G H r σ ∧ Cn Θ K G H r σ (m r) fun d G' H' => ∀ v, Rep K G' d v → Q v H'
def rdT (Θ : List (Addr × Str)) (K : PySem.W.Frag) (m : M Bool) : TT := fun σ H Q => ∃ G r, Rel Θ K G H r σ ∧ Cn Θ K G H r σ (m r) fun b _ H' => Q b H'
def rdA (Θ : List (Addr × Str)) (K : PySem.W.Frag) (m : M (List D)) : TA := fun σ H Q => ∃ G r, Rel Θ K G H r σ ∧ Cn Θ K G H r σ (m r) fun ds G' H' => ∀ vs, Reps K G' ds vs → Q vs H'
inductive Fl where
  | nx | rt (d : D) | bk | ct
  /-- a new list, given out -/
  | rf (ds : List D)
def EndP (K : PySem.W.Frag) (E : Ends) (f : Fl) (H0 G : Hp) (r : Ro) (σ : St) (H : Hp) : Prop := match f with
  | .nx => E.nx σ H
  | .rt d => ∀ v, Rep K G d v → E.rt v H
  | .bk => E.bk σ H
  | .ct => E.ct σ H
  | .rf ds => ∀ p vs, nw H0 p → H p = some (.lst vs) → G p = none → ¬ Owned r σ p → Reps K G ds vs → E.rt (.ref p) H
theorem EndP.shift {K : PySem.W.Frag} {E : Ends} {f : Fl} {H0 H1 G H : Hp} {r : Ro} {σ : St} (h : ∀ b, nw H1 b → nw H0 b) (q : EndP K E f H0 G r σ H) : EndP K E f H1 G r σ H := by
  cases f with
  | rf ds => exact fun p vs h1 h2 h3 h4 h5 => q p vs (h p h1) h2 h3 h4 h5
  | _ => exact q
def CS (Θ : List (Addr × Str)) (K : PySem.W.Frag) (G H : Hp) (r : Ro) (σ : St) (o : Option (Fl × Ro)) (E : Ends) : Prop :=
  ∃ f r', o = some (f, r') ∧ ∀ G' H' σ', Rel Θ K G' H' r' σ' → Fr G H r σ G' H' r' σ' → EndP K E f H G' r' σ' H'
def rdS (Θ : List (Addr × Str)) (K : PySem.W.Frag) (m : M Fl) : TS := fun E σ H => ∃ G r, Rel Θ K G H r σ ∧ CS Θ K G H r σ (m r) E
theorem CS.shift {K : PySem.W.Frag} {G H G1 H1 : Hp} {r r1 : Ro} {σ σ1 : St} {o : Option (Fl × Ro)} {E : Ends} (c : CS Θ K G H r σ o E) (F : Fr G H r σ G1 H1 r1 σ1) : CS Θ K G1 H1 r1 σ1 o E := by
  obtain ⟨f, r', e, k⟩ := c
  exact ⟨f, r', e, fun G' H' σ' R F2 => (k G' H' σ' R (F.trans F2)).shift F.mono⟩
theorem cs_bd {K : PySem.W.Frag} {G H : Hp} {r : Ro} {σ : St} {α : Type} {m : M α} {k : α → M Fl} {E : Ends} (c : CS Θ K G H r σ (bd m k r) E) :
    Cn Θ K G H r σ (m r) fun x G1 H1 => ∃ r1, Rel Θ K G1 H1 r1 σ ∧ Same G G1 ∧ CS Θ K G1 H1 r1 σ (k x r1) E := by
  obtain ⟨d, r', e, q⟩ := c
  obtain ⟨x, r1, e1, e2⟩ := bd_some e
  exact ⟨x, r1, e1, fun G1 H1 R1 F1 => ⟨r1, R1, F1.le, d, r', e2, fun G' H' σ' R F => (q G' H' σ' R (F1.trans F)).shift F1.mono⟩⟩

abbrev SE (Θ : List (Addr × Str)) (X : Cx) (e : Expr) (m : M D) : Prop := PE X e (rdE Θ X.K m)
abbrev STs (Θ : List (Addr × Str)) (X : Cx) (e : Expr) (m : M Bool) : Prop := PT X e (rdT Θ X.K m)
abbrev SA (Θ : List (Addr × Str)) (X : Cx) (es : List Expr) (m : M (List D)) : Prop := PA X es (rdA Θ X.K m)
abbrev SS (Θ : List (Addr × Str)) (X : Cx) (st : Stmt) (m : M Fl) : Prop := PS X st (rdS Θ X.K m)
abbrev SB (Θ : List (Addr × Str)) (X : Cx) (st : List Stmt) (m : M Fl) : Prop := PSs X st (rdS Θ X.K m)

section
variable {X : Cx} {e a b c : Expr} {es : List Expr}
theorem pe_imp {t t' : TE} (h : PE X e t) (i : ∀ σ H Q, t' σ H Q → t σ H Q) : PE X e t' := ⟨fun pins s σ H Q I q => h.run pins s σ H Q I (i _ _ _ q)⟩
theorem pt_imp {t t' : TT} (h : PT X e t) (i : ∀ σ H Q, t' σ H Q → t σ H Q) : PT X e t' := ⟨fun pins s σ H Q I q => h.run pins s σ H Q I (i _ _ _ q)⟩
theorem pa_imp {t t' : TA} (h : PA X es t) (i : ∀ σ H Q, t' σ H Q → t σ H Q) : PA X es t' := ⟨fun pos pins s σ H Q I q => h.run pos pins s σ H Q I (i _ _ _ q)⟩
theorem ps_imp {st : Stmt} {t t' : TS} (h : PS X st t) (i : ∀ σ H Q, t' Q σ H → t Q σ H) : PS X st t' := ⟨fun pins s σ H Q I q => h.run pins s σ H Q I (i _ _ _ q)⟩
theorem pss_imp {st : List Stmt} {t t' : TS} (h : PSs X st t) (i : ∀ σ H Q, t' Q σ H → t Q σ H) : PSs X st t' := ⟨fun pins s σ H Q I q => h.run pins s σ H Q I (i _ _ _ q)⟩

/-! ### constants, names -/
theorem se_const {d : D} {v : V} (h : PE X e (tC v)) (r : ∀ G, Rep X.K G d v) : SE Θ X e (Pk.rt d) := pe_imp h fun σ H Q q => by
  obtain ⟨G, r0, R, c⟩ := q
  exact cn_rt R c G H (Ext.refl _ _) v (r G)
theorem se_int {i : Int} {j pos} : SE Θ X (.Constant (.int i) j pos) (Pk.rt (.int i)) := se_const pe_int fun _ => .int_of
theorem se_bl {i : Bool} {j pos} : SE Θ X (.Constant (.bool i) j pos) (Pk.rt (.bl i)) := se_const pe_bl fun _ => .bl_of
theorem se_non {j pos} : SE Θ X (.Constant .none j pos) (Pk.rt .non) := se_const pe_non fun _ => .non_of
theorem se_str {x j pos} : SE Θ X (.Constant (.str x) j pos) (Pk.rt (.str x)) := se_const pe_str fun _ => .str_of
/-- the value of a name -/
def ld (i : Nat) : M D := fun r => match r[i]? with
  | some (some (.d d)) => some (d, r)
  | _ => none
theorem ld_some {i : Nat} {r r' : Ro} {d : D} (h : ld i r = some (d, r')) : r[i]? = some (some (.d d)) ∧ r' = r := by
  unfold ld at h
  split at h
  · cases h; exact ⟨by assumption, rfl⟩
  · cases h
theorem se_ld {i : Nat} (h : PE X e (tVar i)) : SE Θ X e (ld i) := pe_imp h fun σ H Q q => by
  obtain ⟨G, r0, R, d', r', hm, k⟩ := q
  obtain ⟨hi, rfl⟩ := ld_some hm
  obtain ⟨v, h1, h2⟩ := R.get i _ hi
  exact ⟨v, h1, k G H R (Fr.refl _ _ _ _) v h2⟩
end
end Pk

namespace Pk
open PySem PySem.Spec PyProof.Rows L2

/-! ### operators by values -/
/-- f does g on data -/
def OpG (X : Cx) (f : Value → Value → Sem Value) (g : D → D → Option D) : Prop :=
  ∃ r, OpR X f r ∧ ∀ x y z, g x y = some z → ∀ (G H : Hp) (vx vy : V) (Q : VK), Same G H → Rep X.K G x vx → Rep X.K G y vy →
    (∀ G' H' v, Ext G H G' H' → Rep X.K G' z v → Q v H') → r vx vy H Q
theorem OpG.or {X : Cx} {f : Value → Value → Sem Value} {g g1 g2 : D → D → Option D} (a : OpG X f g1) (b : OpG X f g2) (h : ∀ x y z, g x y = some z → g1 x y = some z ∨ g2 x y = some z) : OpG X f g := by
  obtain ⟨r1, o1, i1⟩ := a
  obtain ⟨r2, o2, i2⟩ := b
  refine ⟨fun x y H Q => r1 x y H Q ∨ r2 x y H Q, fun pins s σ H x y v u Q I rx ry q => ?_, fun x y z e G H vx vy Q s rx ry k => ?_⟩
  · rcases q with q | q
    · exact o1 pins s σ H x y v u Q I rx ry q
    · exact o2 pins s σ H x y v u Q I rx ry q
  · rcases h x y z e with e | e
    · exact .inl (i1 x y z e G H vx vy Q s rx ry k)
    · exact .inr (i2 x y z e G H vx vy Q s rx ry k)

/-- a value that is flat: no heap -/
theorem fin_flat {X : Cx} {G H : Hp} {Q : VK} {z : D} {v : V} (k : ∀ G' H' v, Ext G H G' H' → Rep X.K G' z v → Q v H') (r : Rep X.K G z v) : Q v H := k G H v (Ext.refl _ _) r
theorem fin_tup {X : Cx} {G H : Hp} {Q : VK} {ds : List D} {vs : List V} (s : Same G H) (k : ∀ G' H' v, Ext G H G' H' → Rep X.K G' (.tup ds) v → Q v H') (r : Reps X.K G ds vs) :
    ∀ p, H p = none → Q (.ref p) (upd H p (.tup vs)) := fun p hp =>
  k (upd G p (.tup vs)) _ _ (Ext.new s hp _) (.tup_of (SqT.of upd_same) (Reps.mono (Ext.new s hp _).le _ _ r))
theorem fin_lst {X : Cx} {G H : Hp} {Q : VK} {ds : List D} {vs : List V} (s : Same G H) (k : ∀ G' H' v, Ext G H G' H' → Rep X.K G' (.lst ds) v → Q v H') (r : Reps X.K G ds vs) :
    ∀ p, H p = none → Q (.ref p) (upd H p (.lst vs)) := fun p hp =>
  k (upd G p (.lst vs)) _ _ (Ext.new s hp _) (.lst_of (Rd.of upd_same) (Reps.mono (Ext.new s hp _).le _ _ r))

section
variable {X : Cx}
/-- ints to a flat value -/
def onI (C : Int → Int → Bool) (g : Int → Int → D) : D → D → Option D
  | .int i, .int j => if C i j then some (g i j) else none
  | _, _ => none
theorem opg_int {f : Value → Value → Sem Value} {C : Int → Int → Prop} {B : Int → Int → Bool} {g : Int → Int → V} {g' : Int → Int → D} (o : OpR X f (rI C g)) (hC : ∀ i j, B i j = true → C i j) (hg : ∀ i j G, Rep X.K G (g' i j) (g i j)) : OpG X f (onI B g') := by
  refine ⟨_, o, fun x y z e G H vx vy Q s rx ry k => ?_⟩
  unfold onI at e
  split at e
  · rename_i i j
    split at e
    · rename_i hc
      cases e
      obtain rfl := rx.int_inv
      obtain rfl := ry.int_inv
      exact ⟨i, j, rfl, rfl, hC i j hc, fin_flat (z := g' i j) k (hg i j G)⟩
    · cases e
  · cases e
theorem opg_int0 {f : Value → Value → Sem Value} {g : Int → Int → V} {g' : Int → Int → D} (o : OpR X f (rI0 g)) (hg : ∀ i j G, Rep X.K G (g' i j) (g i j)) : OpG X f (onI (fun _ _ => true) g') := by
  refine ⟨_, o, fun x y z e G H vx vy Q s rx ry k => ?_⟩
  unfold onI at e
  split at e
  · rename_i i j
    simp only [if_true] at e
    cases e
    obtain rfl := rx.int_inv
    obtain rfl := ry.int_inv
    exact ⟨i, j, rfl, rfl, fin_flat (z := g' i j) k (hg i j G)⟩
  · cases e
def catS : D → D → Option D
  | .str x, .str y => if x.length + y.length ≤ sizeLine then some (.str (x ++ y)) else none
  | _, _ => none
def catT : D → D → Option D
  | .tup x, .tup y => if x.length + y.length ≤ sizeLine then some (.tup (x ++ y)) else none
  | _, _ => none
def catL : D → D → Option D
  | .lst x, .lst y => if x.length + y.length ≤ sizeLine then some (.lst (x ++ y)) else none
  | _, _ => none
theorem opg_catS : OpG X (binaryOp .Add) catS := by
  refine ⟨_, op_add_str, fun x y z e G H vx vy Q s rx ry k => ?_⟩
  unfold catS at e
  split at e
  · rename_i i j
    split at e
    · rename_i hc
      cases e
      obtain rfl := rx.str_inv
      obtain rfl := ry.str_inv
      exact ⟨i, j, rfl, rfl, hc, fin_flat (z := .str (i ++ j)) k .str_of⟩
    · cases e
  · cases e
theorem opg_catT : OpG X (binaryOp .Add) catT := by
  refine ⟨_, op_catA, fun x y z e G H vx vy Q s rx ry k => ?_⟩
  unfold catT at e
  split at e
  · rename_i i j
    split at e
    · rename_i hc
      cases e
      obtain ⟨a, xs, rfl, h1, r1⟩ := rx.tup_inv
      obtain ⟨b, ys, rfl, h2, r2⟩ := ry.tup_inv
      refine ⟨a, b, xs, ys, rfl, rfl, sqT_mono s h1, sqT_mono s h2, by rw [r1.length, r2.length]; exact hc, fun z => ?_, fun _ z => ?_, fun _ _ => fin_tup s k (r1.app r2)⟩
      · have e : i = [] := List.eq_nil_of_length_eq_zero (by rw [← r1.length, z]; rfl)
        subst e
        exact k G H _ (Ext.refl _ _) (.tup_of h2 r2)
      · have e : j = [] := List.eq_nil_of_length_eq_zero (by rw [← r2.length, z]; rfl)
        subst e
        rw [List.append_nil] at k
        exact k G H _ (Ext.refl _ _) (.tup_of h1 r1)
    · cases e
  · cases e
def rCatL' : R2 := fun x y H Q => ∃ l b xs zs, x = .ref l ∧ y = .ref b ∧ Rd H l (.lst xs) ∧ Rd H b (.lst zs) ∧ xs.length + zs.length ≤ sizeLine ∧ ∀ p, H p = none → Q (.ref p) (upd H p (.lst (xs ++ zs)))
theorem op_catL' : OpR X (binaryOp .Add) rCatL' := by
  intro pins s σ H x y v u Q I rx ry h
  obtain ⟨l, b, xs, zs, rfl, rfl, hH, hB, hz, q⟩ := h
  cases rx
  cases ry
  obtain ⟨hl, its, n, r, e⟩ := hH.ok I.hok
  obtain ⟨hl2, its2, n2, r2, e2⟩ := hB.ok I.hok
  have l1 := r.length
  have l2 := r2.length
  refine PySem.P.add_list e e2 ?_ (by rw [List.size_toArray, List.size_toArray]; omega)
  have ea : its.toArray ++ its2.toArray = (its ++ its2).toArray := by simp
  rw [ea]
  exact ⟨.ref _, _, I.lnew (t' := s.toks) (r.append r2) (by rw [List.length_append]; omega), rfl, q _ I.fresh⟩
theorem opg_catL : OpG X (binaryOp .Add) catL := by
  refine ⟨_, op_catL', fun x y z e G H vx vy Q s rx ry k => ?_⟩
  unfold catL at e
  split at e
  · rename_i i j
    split at e
    · rename_i hc
      cases e
      obtain ⟨a, xs, rfl, h1, r1⟩ := rx.lst_inv
      obtain ⟨b, ys, rfl, h2, r2⟩ := ry.lst_inv
      exact ⟨a, b, xs, ys, rfl, rfl, rd_mono s h1, rd_mono s h2, by rw [r1.length, r2.length]; exact hc, fin_lst s k (r1.app r2)⟩
    · cases e
  · cases e
/-- + -/
def addD : D → D → Option D
  | .int i, .int j => some (.int (i + j))
  | .str x, .str y => if x.length + y.length ≤ sizeLine then some (.str (x ++ y)) else none
  | .tup x, .tup y => if x.length + y.length ≤ sizeLine then some (.tup (x ++ y)) else none
  | .lst x, .lst y => if x.length + y.length ≤ sizeLine then some (.lst (x ++ y)) else none
  | _, _ => none
theorem opg_add : OpG X (binaryOp .Add) addD := by
  refine OpG.or (opg_int0 (g' := fun i j => .int (i + j)) op_add fun _ _ _ => .int_of) (OpG.or opg_catS (OpG.or opg_catT opg_catL (g := fun x y => match catT x y with | some z => some z | none => catL x y) fun x y z h => ?_)
    (g := fun x y => match catS x y with | some z => some z | none => match catT x y with | some z => some z | none => catL x y) fun x y z h => ?_) fun x y z h => ?_
  · cases e : catT x y <;> simp only [e] at h <;> simp [h]
  · cases e : catS x y <;> simp only [e] at h
    · cases e2 : catT x y <;> simp only [e2] at h ⊢ <;> simp [h]
    · simp [h]
  · cases x <;> cases y <;> simp only [addD] at h <;> first | (cases h) | skip
    all_goals simp only [onI, catS, catT, catL] at *
    all_goals first | (left; simpa using h) | (right; split at h <;> simp_all)
def subD : D → D → Option D := onI (fun _ _ => true) fun i j => .int (i - j)
theorem opg_sub : OpG X (binaryOp .Sub) subD := opg_int0 op_sub fun _ _ _ => .int_of
/-- * of two ints of together less than 2^26 bits -/
def CMulY (i j : Int) : Prop := i.natAbs.log2 + j.natAbs.log2 < 67108864
theorem CMulY.ok {i j : Int} (h : CMulY i j) : IntMulOk i j := by
  have b : ∀ x : Int, Builtin.Int.intBits x ≤ x.natAbs.log2 + 1 := fun x => by
    unfold Builtin.Int.intBits
    split <;> omega
  have h1 := b i
  have h2 := b j
  have h3 : i.natAbs.log2 + j.natAbs.log2 < 67108864 := h
  have e : bitsLine = 134217728 := by decide
  unfold IntMulOk
  intro z
  rw [Bool.and_eq_true] at z
  have z2 := z.2
  unfold Builtin.Int.intTooBig at z2
  have z3 := of_decide_eq_true z2
  rw [e] at z3
  omega
theorem op_mulY : OpR X (binaryOp .Mult) (rI CMulY fun i j => .int (i * j)) := opI fun _ _ _ _ _ _ _ hc q => PyProof.Rows.mul_int q hc.ok
def mulI : D → D → Option D := onI (fun i j => decide (i.natAbs.log2 + j.natAbs.log2 < 67108864)) fun i j => .int (i * j)
theorem opg_mulI : OpG X (binaryOp .Mult) mulI := opg_int (C := CMulY) op_mulY (fun i j h => by unfold CMulY; exact of_decide_eq_true h) fun _ _ _ => .int_of
def mulS : D → D → Option D
  | .str x, .int n => if -(2 ^ 63) ≤ n ∧ n ≤ 1048576 ∧ x.length ≤ 16 then some (.str (Txt.mul x n)) else none
  | _, _ => none
theorem op_mulS : OpR X (binaryOp .Mult) (fun x y H Q => ∃ z n, x = .str z ∧ y = .int n ∧ (-(2 ^ 63) ≤ n ∧ n ≤ 1048576 ∧ z.length ≤ 16) ∧ Q (.str (Txt.mul z n)) H) := by
  intro pins s σ H x y v u Q I rx ry h
  obtain ⟨z, n, rfl, rfl, ⟨h1, h2, h3⟩, q⟩ := h
  obtain ⟨t, rfl⟩ := rx
  obtain ⟨t', rfl⟩ := ry
  exact PySem.W.KXi.mul rfl h3 h1 (by omega) fun t' k _ _ => ⟨.str _, H, I.tok _, ⟨_, rfl⟩, q⟩
theorem opg_mulS : OpG X (binaryOp .Mult) mulS := by
  refine ⟨_, op_mulS, fun x y z e G H vx vy Q s rx ry k => ?_⟩
  unfold mulS at e
  split at e
  · rename_i i j
    split at e
    · rename_i hc
      cases e
      obtain rfl := rx.str_inv
      obtain rfl := ry.int_inv
      exact ⟨i, j, rfl, rfl, hc, fin_flat (z := .str (Txt.mul i j)) k .str_of⟩
    · cases e
  · cases e
/-- * -/
def mulD : D → D → Option D
  | .int i, .int j => if i.natAbs.log2 + j.natAbs.log2 < 67108864 then some (.int (i * j)) else none
  | .str x, .int n => if -(2 ^ 63) ≤ n ∧ n ≤ 1048576 ∧ x.length ≤ 16 then some (.str (Txt.mul x n)) else none
  | _, _ => none
theorem opg_mul : OpG X (binaryOp .Mult) mulD := OpG.or opg_mulI opg_mulS fun x y z h => by
  cases x <;> cases y <;> simp only [mulD, mulI, mulS, onI, decide_eq_true_eq] at h ⊢ <;> simp_all
def modD : D → D → Option D := onI (fun _ j => decide (j ≠ 0)) fun i j => .int (i.fmod j)
theorem opg_mod : OpG X (binaryOp .Mod) modD := opg_int op_modN (fun _ _ h => of_decide_eq_true h) fun _ _ _ => .int_of
/-- // by a divisor below 2^9000 -/
def CDivY (_ j : Int) : Prop := j ≠ 0 ∧ j.natAbs.log2 < 9000
theorem op_fdivY : OpR X (binaryOp .FloorDiv) (rI CDivY fun i j => .int (i.fdiv j)) := opI fun _ _ _ _ _ _ _ hc q => PyProof.Rows.floordiv_int hc.1 q (.inl (PyProof.noPylong_of_log2 hc.2))
def fdivD : D → D → Option D := onI (fun _ j => decide (j ≠ 0 ∧ j.natAbs.log2 < 9000)) fun i j => .int (i.fdiv j)
theorem opg_fdiv : OpG X (binaryOp .FloorDiv) fdivD := opg_int op_fdivY (fun _ _ h => by unfold CDivY; exact of_decide_eq_true h) fun _ _ _ => .int_of
def powD : D → D → Option D := onI (fun i j => decide (0 ≤ j ∧ j ≤ 1000000 ∧ i.natAbs < 2 ^ 64)) fun i j => .int (i ^ j.toNat)
theorem opg_pow : OpG X (binaryOp .Pow) powD := opg_int op_pow (fun _ _ h => by unfold CPow; exact of_decide_eq_true h) fun _ _ _ => .int_of
end
end Pk

namespace Pk
open PySem PySem.Spec PyProof.Rows L2

mutual
def D.py : D → PyData
  | .non => .none
  | .bl b => .bool b
  | .int i => .int i
  | .str x => .str x
  | .tup ds => .tuple (pys ds)
  | .lst ds => .list (pys ds)
  | .ro ds => .list (pys ds)
def pys : List D → List PyData
  | [] => []
  | d :: ds => D.py d :: pys ds
end
theorem pys_map : ∀ ds : List D, pys ds = ds.map D.py
  | [] => by rw [pys]; rfl
  | d :: ds => by rw [pys, pys_map ds]; rfl
section
variable {K : PySem.W.Frag} {G H : Hp}
mutual
theorem Rep.dp (s : Same G H) : ∀ (d : D) (v : V), Rep K G d v → Dp K H v d.py
  | .non, v, h => by rw [h.non_inv, D.py]; exact .non
  | .bl b, v, h => by rw [h.bl_inv, D.py]; exact .bl b
  | .int i, v, h => by rw [h.int_inv, D.py]; exact .int i
  | .str x, v, h => by rw [h.str_inv, D.py]; exact .str x
  | .tup ds, v, h => by
    obtain ⟨a, vs, rfl, q, r⟩ := h.tup_inv
    rw [D.py]; exact .tup (sqT_mono s q) (Reps.dp s ds vs r)
  | .lst ds, v, h => by
    obtain ⟨a, vs, rfl, q, r⟩ := h.lst_inv
    rw [D.py]; exact .lst (.inl (rd_mono s q)) (Reps.dp s ds vs r)
  | .ro ds, v, h => by
    obtain ⟨a, vs, rfl, q, r⟩ := h.ro_inv
    rw [D.py]; exact .lst (sqL_mono s q) (Reps.dp s ds vs r)
theorem Reps.dp (s : Same G H) : ∀ (ds : List D) (vs : List V), Reps K G ds vs → DpAll K H vs (pys ds)
  | [], vs, h => by rw [h.nil_inv, pys]; exact .nil
  | d :: ds, vs, h => by
    obtain ⟨v, r, rfl, q, t⟩ := h.cons_inv
    rw [pys]; exact .cons (Rep.dp s d v q) (Reps.dp s ds r t)
end
end
/-- Python's == on data -/
def eqv (x y : D) : Bool := PyData.eqv x.py y.py
def okEq (x y : D) : Bool := x.py.canLay0 && y.py.canLay0 && decide (min x.py.depth y.py.depth ≤ 200)
def eqD (x y : D) : Option D := if okEq x y then some (.bl (eqv x y)) else none
def neD (x y : D) : Option D := if okEq x y then some (.bl (!eqv x y)) else none
section
variable {X : Cx}
theorem okEq_out {x y : D} (h : okEq x y = true) (hu : X.A.units + 200 < cLine) : x.py.canLay0 = true ∧ y.py.canLay0 = true ∧ X.A.units + min x.py.depth y.py.depth < cLine := by
  unfold okEq at h
  simp only [Bool.and_eq_true, decide_eq_true_eq] at h
  exact ⟨h.1.1, h.1.2, by omega⟩
def rEqY (K : PySem.W.Frag) (A : Around) (neg : Bool) : R2 := fun x y H Q => ∃ d e, Dp K H x d ∧ Dp K H y e ∧ d.canLay0 = true ∧ e.canLay0 = true ∧ A.units + min d.depth e.depth < cLine ∧ Q (.bl (if neg then !PyData.eqv d e else PyData.eqv d e)) H
theorem op_eqY : OpR X (compareOp .Eq) (rEqY X.K X.A false) := by
  intro pins s σ H x y v u Q I rx ry h
  obtain ⟨d, e, hd, he, sd, se, hm, q⟩ := h
  obtain ⟨as, r1⟩ := Dp.reads I d x v hd rx
  obtain ⟨bs, r2⟩ := Dp.reads I e y u he ry
  exact SeqAt.compareEq_reads r1 r2 sd se hm ⟨.bl _, H, I, rfl, q⟩
theorem op_neY : OpR X (compareOp .NotEq) (rEqY X.K X.A true) := by
  intro pins s σ H x y v u Q I rx ry h
  obtain ⟨d, e, hd, he, sd, se, hm, q⟩ := h
  obtain ⟨as, r1⟩ := Dp.reads I d x v hd rx
  obtain ⟨bs, r2⟩ := Dp.reads I e y u he ry
  exact SeqAt.compareNe_reads r1 r2 sd se hm ⟨.bl _, H, I, rfl, q⟩
theorem opg_eq (hu : X.A.units + 200 < cLine) : OpG X (compareOp .Eq) eqD := by
  refine ⟨_, op_eqY, fun x y z e G H vx vy Q s rx ry k => ?_⟩
  unfold eqD at e
  split at e
  · rename_i hc
    cases e
    obtain ⟨h1, h2, h3⟩ := okEq_out hc hu
    exact ⟨_, _, Rep.dp s x vx rx, Rep.dp s y vy ry, h1, h2, h3, fin_flat (z := .bl (eqv x y)) k .bl_of⟩
  · cases e
theorem opg_ne (hu : X.A.units + 200 < cLine) : OpG X (compareOp .NotEq) neD := by
  refine ⟨_, op_neY, fun x y z e G H vx vy Q s rx ry k => ?_⟩
  unfold neD at e
  split at e
  · rename_i hc
    cases e
    obtain ⟨h1, h2, h3⟩ := okEq_out hc hu
    exact ⟨_, _, Rep.dp s x vx rx, Rep.dp s y vy ry, h1, h2, h3, fin_flat (z := .bl (!eqv x y)) k .bl_of⟩
  · cases e
/-- an order of ints and texts -/
def ordD (f : Int → Int → Bool) (g : List Nat → List Nat → Bool) : D → D → Option D
  | .int i, .int j => some (.bl (f i j))
  | .str x, .str y => some (.bl (g x.cps.toList y.cps.toList))
  | _, _ => none
theorem opg_ord {op : CmpOp} {f : Int → Int → Bool} {g : List Nat → List Nat → Bool} (oi : OpR X (compareOp op) (rI0 fun i j => .bl (f i j)))
    (os : OpR X (compareOp op) (fun x y H Q => ∃ i j : Str, x = .str i ∧ y = .str j ∧ Q (.bl (g i.cps.toList j.cps.toList)) H)) : OpG X (compareOp op) (ordD f g) := by
  refine OpG.or (opg_int0 (g' := fun i j => .bl (f i j)) oi fun _ _ _ => .bl_of) (g2 := fun x y => match x, y with | .str x, .str y => some (.bl (g x.cps.toList y.cps.toList)) | _, _ => none) ⟨_, os, fun x y z e G H vx vy Q s rx ry k => ?_⟩ fun x y z h => ?_
  · dsimp only at e
    split at e
    · rename_i i j
      cases e
      obtain rfl := rx.str_inv
      obtain rfl := ry.str_inv
      exact ⟨i, j, rfl, rfl, fin_flat (z := .bl (g i.cps.toList j.cps.toList)) k .bl_of⟩
    · cases e
  · cases x <;> cases y <;> simp_all [ordD, onI]
def ltD := ordD (fun i j => decide (i < j)) fun x y => decide (x < y)
def gtD := ordD (fun i j => decide (j < i)) fun x y => decide (y < x)
def leD := ordD (fun i j => decide (i ≤ j)) fun x y => !decide (y < x)
def geD := ordD (fun i j => decide (j ≤ i)) fun x y => !decide (x < y)
theorem opg_lt : OpG X (compareOp .Lt) ltD := opg_ord op_lt op_lt_str
theorem opg_gt : OpG X (compareOp .Gt) gtD := opg_ord op_gt op_gt_str
theorem opg_le : OpG X (compareOp .LtE) leD := opg_ord op_le op_le_str
theorem opg_ge : OpG X (compareOp .GtE) geD := opg_ord op_ge op_ge_str
def D.isNon : D → Bool
  | .non => true
  | _ => false
theorem Rep.isNon {K : PySem.W.Frag} {G : Hp} {d : D} {v : V} (h : Rep K G d v) : decide (v = .non) = d.isNon := by
  cases d with
  | non => rw [h.non_inv]; rfl
  | bl b => rw [h.bl_inv]; rfl
  | int i => rw [h.int_inv]; rfl
  | str x => rw [h.str_inv]; rfl
  | tup ds => obtain ⟨a, vs, rfl, _⟩ := h.tup_inv; rfl
  | lst ds => obtain ⟨a, vs, rfl, _⟩ := h.lst_inv; rfl
  | ro ds => obtain ⟨a, vs, rfl, _⟩ := h.ro_inv; rfl
def isD : D → D → Option D
  | x, .non => some (.bl x.isNon)
  | _, _ => none
def isNotD : D → D → Option D
  | x, .non => some (.bl (!x.isNon))
  | _, _ => none
theorem opg_is : OpG X (compareOp .Is) isD := by
  refine ⟨_, op_isN, fun x y z e G H vx vy Q s rx ry k => ?_⟩
  unfold isD at e
  split at e
  · cases e
    refine ⟨ry.non_inv, ?_⟩
    rw [rx.isNon]
    exact fin_flat (z := .bl x.isNon) k .bl_of
  · cases e
theorem opg_isNot : OpG X (compareOp .IsNot) isNotD := by
  refine ⟨_, op_notN, fun x y z e G H vx vy Q s rx ry k => ?_⟩
  unfold isNotD at e
  split at e
  · cases e
    refine ⟨ry.non_inv, ?_⟩
    rw [rx.isNon]
    exact fin_flat (z := .bl (!x.isNon)) k .bl_of
  · cases e
/-- x in a list of data -/
def inD : D → D → Option D
  | x, .lst ds => if SeqAt.shaped x.py && SeqAt.shaped (D.lst ds).py then some (.bl (ds.any fun z => eqv z x)) else none
  | _, _ => none
def notInD : D → D → Option D
  | x, .lst ds => if SeqAt.shaped x.py && SeqAt.shaped (D.lst ds).py then some (.bl (!ds.any fun z => eqv z x)) else none
  | _, _ => none
theorem any_pys (ds : List D) (x : D) : ((pys ds).any fun z => PyData.eqv z x.py) = ds.any fun z => eqv z x := by
  rw [pys_map, List.any_map]; rfl
theorem opg_in (hu : X.A.units + 200 < cLine) : OpG X (compareOp .In) inD := by
  refine ⟨_, op_inD (by omega), fun x y z e G H vx vy Q s rx ry k => ?_⟩
  unfold inD at e
  split at e
  · rename_i ds
    split at e
    · rename_i hc
      cases e
      rw [Bool.and_eq_true] at hc
      have hy := Rep.dp s _ vy ry
      rw [D.py] at hy hc
      refine ⟨_, _, Rep.dp s x vx rx, hy, hc.1, hc.2, ?_⟩
      rw [any_pys]
      exact fin_flat (z := .bl (ds.any fun z => eqv z x)) k .bl_of
    · cases e
  · cases e
theorem opg_notIn (hu : X.A.units + 200 < cLine) : OpG X (compareOp .NotIn) notInD := by
  refine ⟨_, op_notInD (by omega), fun x y z e G H vx vy Q s rx ry k => ?_⟩
  unfold notInD at e
  split at e
  · rename_i ds
    split at e
    · rename_i hc
      cases e
      rw [Bool.and_eq_true] at hc
      have hy := Rep.dp s _ vy ry
      rw [D.py] at hy hc
      refine ⟨_, _, Rep.dp s x vx rx, hy, hc.1, hc.2, ?_⟩
      rw [any_pys]
      exact fin_flat (z := .bl (!ds.any fun z => eqv z x)) k .bl_of
    · cases e
  · cases e

/-! ### unary -/
def UnG (X : Cx) (f : Value → Sem Value) (g : D → Option D) : Prop :=
  ∃ r, UnR X f r ∧ ∀ x z, g x = some z → ∀ (G H : Hp) (vx : V) (Q : VK), Same G H → Rep X.K G x vx → (∀ G' H' v, Ext G H G' H' → Rep X.K G' z v → Q v H') → r vx H Q
def negD : D → Option D
  | .int i => some (.int (-i))
  | _ => none
theorem ung_neg : UnG X (unaryOp .USub) negD := by
  refine ⟨_, un_neg, fun x z e G H vx Q s rx k => ?_⟩
  cases x <;> simp only [negD] at e <;> first | (cases e) | skip
  rename_i i
  obtain rfl := rx.int_inv
  exact ⟨i, rfl, fin_flat (z := .int (-i)) k .int_of⟩

/-! ### subscripts -/
theorem Reps.atI {K : PySem.W.Frag} {G : Hp} {ds : List D} {vs : List V} {i : Int} {d : D} (r : Reps K G ds vs) (h : L2.atI ds i = some d) : ∃ v, L2.atI vs i = some v ∧ Rep K G d v := by
  unfold L2.atI at h ⊢
  rw [r.length]
  cases e : ixN ds.length i with
  | none => rw [e] at h; cases h
  | some j =>
    rw [e] at h
    exact r.get h
def IxG (X : Cx) (g : D → D → Option D) : Prop :=
  ∃ r, IxR X r ∧ ∀ x y z, g x y = some z → ∀ (G H : Hp) (vx vy : V) (Q : VK), Same G H → Rep X.K G x vx → Rep X.K G y vy →
    (∀ G' H' v, Ext G H G' H' → Rep X.K G' z v → Q v H') → r vx vy H Q
/-- x[i] -/
def ixD : D → D → Option D
  | .tup ds, .int i => L2.atI ds i
  | .lst ds, .int i => L2.atI ds i
  | .ro ds, .int i => L2.atI ds i
  | .str z, .int i => if z.length ≤ sizeLine then (L2.atI z.cps.toList i).map fun c => .str ⟨#[c]⟩ else none
  | _, _ => none
theorem ixg : IxG X ixD := by
  refine ⟨_, ix_seq, fun x y z e G H vx vy Q s rx ry k => ?_⟩
  unfold ixD at e
  split at e
  · rename_i ds i
    obtain rfl := ry.int_inv
    obtain ⟨a, xs, rfl, h1, r1⟩ := rx.tup_inv
    obtain ⟨v, hv, rv⟩ := r1.atI e
    exact .inr (.inl ⟨a, xs, i, v, rfl, rfl, sqT_mono s h1, hv, k G H v (Ext.refl _ _) rv⟩)
  · rename_i ds i
    obtain rfl := ry.int_inv
    obtain ⟨a, xs, rfl, h1, r1⟩ := rx.lst_inv
    obtain ⟨v, hv, rv⟩ := r1.atI e
    exact .inl ⟨a, xs, i, v, rfl, rfl, .inl (rd_mono s h1), hv, k G H v (Ext.refl _ _) rv⟩
  · rename_i ds i
    obtain rfl := ry.int_inv
    obtain ⟨a, xs, rfl, h1, r1⟩ := rx.ro_inv
    obtain ⟨v, hv, rv⟩ := r1.atI e
    exact .inl ⟨a, xs, i, v, rfl, rfl, sqL_mono s h1, hv, k G H v (Ext.refl _ _) rv⟩
  · rename_i w i
    split at e
    · rename_i hc
      obtain rfl := ry.int_inv
      obtain rfl := rx.str_inv
      cases e2 : L2.atI w.cps.toList i with
      | none => rw [e2] at e; cases e
      | some c =>
        rw [e2] at e
        cases e
        exact .inr (.inr ⟨w, i, c, rfl, rfl, hc, e2, k G H _ (Ext.refl _ _) .str_of⟩)
    · cases e
  · cases e

/-! ### slices -/
def cutD (ds : List D) (lo hi : Option Int) : List D := (ds.drop (HT.sIx ds.length 0 lo)).take (HT.sIx ds.length ds.length hi - HT.sIx ds.length 0 lo)
theorem Reps.cut {K : PySem.W.Frag} {G : Hp} {ds : List D} {vs : List V} (r : Reps K G ds vs) (lo hi : Option Int) : Reps K G (cutD ds lo hi) (cutV vs lo hi) := by
  unfold cutD cutV
  rw [r.length]
  exact (r.drop _).take _
theorem cut_whole {ds : List D} {lo hi : Option Int} (h : HT.sIx ds.length 0 lo = 0 ∧ HT.sIx ds.length ds.length hi = ds.length) : cutD ds lo hi = ds := by
  unfold cutD
  rw [h.1, h.2, List.drop_zero, Nat.sub_zero, List.take_length]
def slD : D → Option Int → Option Int → Option D
  | .tup ds, lo, hi => some (.tup (cutD ds lo hi))
  | .lst ds, lo, hi => some (.lst (cutD ds lo hi))
  | .ro ds, lo, hi => some (.lst (cutD ds lo hi))
  | .str z, lo, hi => if z.length ≤ sizeLine then some (.str (cutS z lo hi)) else none
  | _, _, _ => none
theorem slg : ∃ r, SlR X r ∧ ∀ x lo hi z, slD x lo hi = some z → ∀ (G H : Hp) (vx : V) (Q : VK), Same G H → Rep X.K G x vx → (∀ G' H' v, Ext G H G' H' → Rep X.K G' z v → Q v H') → r vx lo hi H Q := by
  refine ⟨_, SlR.or sl_tupA (SlR.or sl_list sl_str), fun x lo hi z e G H vx Q s rx k => ?_⟩
  cases x with
  | tup ds =>
    simp only [slD] at e
    cases e
    obtain ⟨a, xs, rfl, h1, r1⟩ := rx.tup_inv
    refine .inl ⟨a, xs, rfl, sqT_mono s h1, fun w => ?_, fun w => fin_tup s k (r1.cut lo hi)⟩
    rw [r1.length] at w
    rw [cut_whole w] at k
    exact k G H _ (Ext.refl _ _) rx
  | lst ds =>
    simp only [slD] at e
    cases e
    obtain ⟨a, xs, rfl, h1, r1⟩ := rx.lst_inv
    exact .inr (.inl ⟨a, xs, rfl, .inl (rd_mono s h1), fin_lst s k (r1.cut lo hi)⟩)
  | ro ds =>
    simp only [slD] at e
    cases e
    obtain ⟨a, xs, rfl, h1, r1⟩ := rx.ro_inv
    exact .inr (.inl ⟨a, xs, rfl, sqL_mono s h1, fin_lst s k (r1.cut lo hi)⟩)
  | str w =>
    simp only [slD] at e
    split at e
    · rename_i hc
      cases e
      obtain rfl := rx.str_inv
      exact .inr (.inr ⟨w, rfl, hc, k G H _ (Ext.refl _ _) .str_of⟩)
    · cases e
  | _ => simp only [slD] at e; cases e
end
end Pk

namespace Pk
open PySem PySem.Spec PyProof.Rows L2
section
variable {X : Cx} {e a b c : Expr} {es : List Expr} {pos : Pos} {ma mb mc m : M D}
theorem op_read {r : R2} {g : D → D → Option D} (hg : ∀ x y z, g x y = some z → ∀ (G H : Hp) (vx vy : V) (Q : VK), Same G H → Rep X.K G x vx → Rep X.K G y vy →
    (∀ G' H' v, Ext G H G' H' → Rep X.K G' z v → Q v H') → r vx vy H Q) {σ : L2.St} {H : Hp} {Q : VK} (q : rdE Θ X.K (bd ma fun x => bd mb fun y => of (g x y)) σ H Q) : tOp r (rdE Θ X.K ma) (rdE Θ X.K mb) σ H Q := by
  obtain ⟨G, r0, R, c⟩ := q
  refine ⟨G, r0, R, (cn_bd c).mono fun x G1 H1 ⟨r1, R1, s1, c1⟩ vx rx => ⟨G1, r1, R1, (cn_bd c1).mono fun y G2 H2 ⟨r2, R2, s2, c2⟩ vy ry => ?_⟩⟩
  obtain ⟨z, hz, k⟩ := cn_of R2 c2
  exact hg x y z hz G2 H2 vx vy Q R2.sub (Rep.mono s2 _ _ rx) ry fun G' H' v ex rz => k G' H' ex v rz
theorem se_bin {op : Operator} {g : D → D → Option D} (ho : OpG X (binaryOp op) g) (ha : SE Θ X a ma) (hb : SE Θ X b mb) : SE Θ X (.BinOp a op b pos) (bd ma fun x => bd mb fun y => of (g x y)) := by
  obtain ⟨r, o, hg⟩ := ho
  exact pe_imp (pe_op o ha hb) fun σ H Q q => op_read hg q
theorem se_cmp {op : CmpOp} {g : D → D → Option D} (ho : OpG X (compareOp op) g) (ha : SE Θ X a ma) (hb : SE Θ X b mb) (hm : behindInMarks op b = false) : SE Θ X (.Compare a [op] [b] pos) (bd ma fun x => bd mb fun y => of (g x y)) := by
  obtain ⟨r, o, hg⟩ := ho
  exact pe_imp (pe_cmpR o ha hb hm) fun σ H Q q => op_read hg q
theorem se_un {op : UnaryOp} {g : D → Option D} (ho : UnG X (unaryOp op) g) (ha : SE Θ X a ma) : SE Θ X (.UnaryOp op a pos) (bd ma fun x => of (g x)) := by
  obtain ⟨r, o, hg⟩ := ho
  refine pe_imp (pe_un o ha) fun σ H Q q => ?_
  obtain ⟨G, r0, R, c⟩ := q
  refine ⟨G, r0, R, (cn_bd c).mono fun x G1 H1 ⟨r1, R1, s1, c1⟩ vx rx => ?_⟩
  obtain ⟨z, hz, k⟩ := cn_of R1 c1
  exact hg x z hz G1 H1 vx Q R1.sub rx fun G' H' v ex rz => k G' H' ex v rz
theorem se_ix (ha : SE Θ X a ma) (hb : SE Θ X b mb) (hs : PlainIx b) : SE Θ X (.Subscript a b pos) (bd ma fun x => bd mb fun y => of (ixD x y)) := by
  obtain ⟨r, o, hg⟩ := ixg (X := X)
  exact pe_imp (pe_ix o ha hb hs) fun σ H Q q => op_read hg q

/-! ### slices -/
def rdO (Θ : List (Addr × Str)) (K : PySem.W.Frag) (m : M (Option Int)) : TO := fun σ H Q => ∃ G r, Rel Θ K G H r σ ∧ Cn Θ K G H r σ (m r) fun o _ H' => Q o H'
abbrev SO (Θ : List (Addr × Str)) (X : Cx) (e : Option Expr) (m : M (Option Int)) : Prop := PO X e (rdO Θ X.K m)
theorem po_imp {oe : Option Expr} {t t' : TO} (h : PO X oe t) (i : ∀ σ H Q, t' σ H Q → t σ H Q) : PO X oe t' := ⟨fun pins s σ H Q I q => h.run pins s σ H Q I (i _ _ _ q)⟩
theorem so_none : SO Θ X none (rt none) := po_imp po_none fun σ H Q q => by
  obtain ⟨G, r0, R, c⟩ := q
  exact cn_rt R c G H (Ext.refl _ _)
def asI : D → Option (Option Int)
  | .int i => some (some i)
  | _ => none
theorem so_some (h : SE Θ X e m) : SO Θ X (some e) (bd m fun x => of (asI x)) := po_imp (po_some h) fun σ H Q q => by
  obtain ⟨G, r0, R, c⟩ := q
  refine ⟨G, r0, R, (cn_bd c).mono fun x G1 H1 ⟨r1, R1, s1, c1⟩ vx rx => ?_⟩
  obtain ⟨z, hz, k⟩ := cn_of R1 c1
  cases x with
  | int i =>
    cases hz
    exact ⟨i, rx.int_inv, k G1 H1 (Ext.refl _ _)⟩
  | _ => cases hz
theorem se_slice {lo hi : Option Expr} {p2 : Pos} {ml mh : M (Option Int)} (ha : SE Θ X a ma) (hl : SO Θ X lo ml) (hh : SO Θ X hi mh) : SE Θ X (.Subscript a (.Slice lo hi none p2) pos) (bd ma fun x => bd ml fun l => bd mh fun h => of (slD x l h)) := by
  obtain ⟨r, o, hg⟩ := slg (X := X)
  refine pe_imp (pe_slice o ha hl hh) fun σ H Q q => ?_
  obtain ⟨G, r0, R, c⟩ := q
  refine ⟨G, r0, R, (cn_bd c).mono fun x G1 H1 ⟨r1, R1, s1, c1⟩ vx rx => ⟨G1, r1, R1, (cn_bd c1).mono fun l G2 H2 ⟨r2, R2, s2, c2⟩ => ⟨G2, r2, R2, (cn_bd c2).mono fun h G3 H3 ⟨r3, R3, s3, c3⟩ => ?_⟩⟩⟩
  obtain ⟨z, hz, k⟩ := cn_of R3 c3
  exact hg x l h z hz G3 H3 vx Q R3.sub (Rep.mono (s2.trans s3) _ _ rx) fun G' H' v ex rz => k G' H' ex v rz

/-! ### arguments, displays -/
theorem sa_nil : SA Θ X [] (rt []) := pa_imp pa_nil fun σ H Q q => by
  obtain ⟨G, r0, R, c⟩ := q
  exact cn_rt R c G H (Ext.refl _ _) [] .nil
theorem sa_cons {ml : M (List D)} (ha : SE Θ X e m) (hr : SA Θ X es ml) (hs : starEach (e :: es) X.env = (false, eval e X.env) :: starEach es X.env := by rfl) : SA Θ X (e :: es) (bd m fun x => bd ml fun xs => rt (x :: xs)) := pa_imp (pa_cons ha hr hs) fun σ H Q q => by
  obtain ⟨G, r0, R, c⟩ := q
  refine ⟨G, r0, R, (cn_bd c).mono fun x G1 H1 ⟨r1, R1, s1, c1⟩ vx rx => ⟨G1, r1, R1, (cn_bd c1).mono fun xs G2 H2 ⟨r2, R2, s2, c2⟩ vs rs => ?_⟩⟩
  exact cn_rt R2 c2 G2 H2 (Ext.refl _ _) _ (.cons (Rep.mono s2 _ _ rx) rs)
def mkT (ds : List D) : Option D := if ds.length ≤ sizeLine then some (.tup ds) else none
def mkL (ds : List D) : Option D := if ds.length ≤ sizeLine then some (.lst ds) else none
theorem se_tup {ml : M (List D)} {x1} (h : SA Θ X es ml) : SE Θ X (.Tuple es x1 pos) (bd ml fun ds => of (mkT ds)) := pe_imp (pe_tup h) fun σ H Q q => by
  obtain ⟨G, r0, R, c⟩ := q
  refine ⟨G, r0, R, (cn_bd c).mono fun ds G1 H1 ⟨r1, R1, s1, c1⟩ vs rs => ?_⟩
  obtain ⟨z, hz, k⟩ := cn_of R1 c1
  unfold mkT at hz
  split at hz
  · rename_i hl
    cases hz
    exact ⟨by rw [rs.length]; exact hl, fin_tup R1.sub (fun G' H' v ex rv => k G' H' ex v rv) rs⟩
  · cases hz
theorem se_lst {ml : M (List D)} (h : SA Θ X es ml) : SE Θ X (.List es pos) (bd ml fun ds => of (mkL ds)) := pe_imp (pe_lst h) fun σ H Q q => by
  obtain ⟨G, r0, R, c⟩ := q
  refine ⟨G, r0, R, (cn_bd c).mono fun ds G1 H1 ⟨r1, R1, s1, c1⟩ vs rs => ?_⟩
  obtain ⟨z, hz, k⟩ := cn_of R1 c1
  unfold mkL at hz
  split at hz
  · rename_i hl
    cases hz
    exact ⟨by rw [rs.length]; exact hl, fin_lst R1.sub (fun G' H' v ex rv => k G' H' ex v rv) rs⟩
  · cases hz

/-! ### tests -/
def asB : D → Option Bool
  | .bl b => some b
  | _ => none
theorem tb_read {σ : L2.St} {H : Hp} {Q : Bool → Hp → Prop} (q : rdT Θ X.K (bd m fun x => of (asB x)) σ H Q) : tB (rdE Θ X.K m) σ H Q := by
  obtain ⟨G, r0, R, c⟩ := q
  refine ⟨G, r0, R, (cn_bd c).mono fun x G1 H1 ⟨r1, R1, s1, c1⟩ vx rx => ?_⟩
  obtain ⟨z, hz, k⟩ := cn_of R1 c1
  cases x with
  | bl b =>
    cases hz
    exact ⟨_, rx.bl_inv, k G1 H1 (Ext.refl _ _)⟩
  | _ => cases hz
/-- a comparison as a test -/
theorem st_cmp {op : CmpOp} {g : D → D → Option D} (ho : OpG X (compareOp op) g) (ha : SE Θ X a ma) (hb : SE Θ X b mb) (hm : behindInMarks op b = false) : STs Θ X (.Compare a [op] [b] pos) (bd (bd ma fun x => bd mb fun y => of (g x y)) fun x => of (asB x)) := by
  obtain ⟨r, o, hg⟩ := ho
  refine pt_imp (pt_cmpR o ha hb hm) fun σ H Q q => ?_
  exact op_read hg (tb_read q)
/-- any expression that gives a bool -/
theorem st_val (h : SE Θ X e m) (he : ∀ whole, isTrue e X.env whole = (do let v ← whole; standAt e.pos; holding [v] (truthy v)) := by intro _; rfl) : STs Θ X e (bd m fun x => of (asB x)) :=
  pt_imp (pt_val h he) fun σ H Q q => tb_read q
/-- truth -/
def truD : D → Option Bool
  | .non => some false
  | .bl b => some b
  | .int i => some (i != 0)
  | .str x => if x.length ≤ sizeLine then some ((x.length : Int) != 0) else none
  | .tup ds => some (!ds.isEmpty)
  | .lst ds => some (!ds.isEmpty)
  | .ro ds => some (!ds.isEmpty)
theorem reps_empty {K : PySem.W.Frag} {G : Hp} {ds : List D} {vs : List V} (r : Reps K G ds vs) : (!ds.isEmpty) = !vs.isEmpty := by
  have := r.length
  cases ds <;> cases vs <;> simp_all
theorem truV {K : PySem.W.Frag} {G H : Hp} (s : Same G H) {d : D} {v : V} {k : Bool} (r : Rep K G d v) (h : truD d = some k) : TruV K v H k := by
  cases d with
  | non => rw [r.non_inv]; cases h; rfl
  | bl b => rw [r.bl_inv]; cases h; rfl
  | int i => rw [r.int_inv]; cases h; rfl
  | str x =>
    rw [r.str_inv]
    simp only [truD] at h
    split at h
    · cases h; exact ⟨by assumption, rfl⟩
    · cases h
  | tup ds =>
    obtain ⟨a, vs, rfl, q, rs⟩ := r.tup_inv
    cases h
    exact .inr (.inl ⟨vs, sqT_mono s q, reps_empty rs⟩)
  | lst ds =>
    obtain ⟨a, vs, rfl, q, rs⟩ := r.lst_inv
    cases h
    exact .inl ⟨vs, .inl (rd_mono s q), reps_empty rs⟩
  | ro ds =>
    obtain ⟨a, vs, rfl, q, rs⟩ := r.ro_inv
    cases h
    exact .inl ⟨vs, sqL_mono s q, reps_empty rs⟩
theorem st_tru (h : SE Θ X e m) (he : ∀ whole, isTrue e X.env whole = (do let v ← whole; standAt e.pos; holding [v] (truthy v)) := by intro _; rfl) : STs Θ X e (bd m fun x => of (truD x)) :=
  pt_imp (pt_truth h he) fun σ H Q q => by
    obtain ⟨G, r0, R, c⟩ := q
    refine ⟨G, r0, R, (cn_bd c).mono fun x G1 H1 ⟨r1, R1, s1, c1⟩ vx rx => ?_⟩
    obtain ⟨z, hz, k⟩ := cn_of R1 c1
    exact ⟨z, truV R1.sub rx hz, k G1 H1 (Ext.refl _ _)⟩
variable {ta tb : M Bool} {rest : List Expr}
abbrev SW (Θ : List (Addr × Str)) (X : Cx) (e : Expr) (m : M Bool) : Prop := PW X e (rdT Θ X.K m)
theorem pw_imp {t t' : TT} (h : PW X e t) (i : ∀ σ H Q, t' σ H Q → t σ H Q) : PW X e t' := ⟨fun wh pins s σ H Q I q => h.run wh pins s σ H Q I (i _ _ _ q)⟩
def andM (a b : M Bool) : M Bool := bd a fun x => if x = true then b else rt false
def orM (a b : M Bool) : M Bool := bd a fun x => if x = true then rt true else b
theorem and_read {σ : L2.St} {H : Hp} {Q : Bool → Hp → Prop} (q : rdT Θ X.K (andM ta tb) σ H Q) : tAnd (rdT Θ X.K ta) (rdT Θ X.K tb) σ H Q := by
  obtain ⟨G, r0, R, c⟩ := q
  refine ⟨G, r0, R, (cn_bd c).mono fun x G1 H1 ⟨r1, R1, s1, c1⟩ => ?_⟩
  cases x with
  | true => exact ⟨G1, r1, R1, c1⟩
  | false => exact cn_rt R1 c1 G1 H1 (Ext.refl _ _)
theorem or_read {σ : L2.St} {H : Hp} {Q : Bool → Hp → Prop} (q : rdT Θ X.K (orM ta tb) σ H Q) : tOr (rdT Θ X.K ta) (rdT Θ X.K tb) σ H Q := by
  obtain ⟨G, r0, R, c⟩ := q
  refine ⟨G, r0, R, (cn_bd c).mono fun x G1 H1 ⟨r1, R1, s1, c1⟩ => ?_⟩
  cases x with
  | false => exact ⟨G1, r1, R1, c1⟩
  | true => exact cn_rt R1 c1 G1 H1 (Ext.refl _ _)
theorem sw_and1 (ha : STs Θ X a ta) : SW Θ X (.BoolOp .And [a] pos) ta := pw_and1 ha
theorem sw_or1 (ha : STs Θ X a ta) : SW Θ X (.BoolOp .Or [a] pos) ta := pw_or1 ha
theorem sw_and (ha : STs Θ X a ta) (hb : SW Θ X (.BoolOp .And (b :: rest) pos) tb) : SW Θ X (.BoolOp .And (a :: b :: rest) pos) (andM ta tb) := pw_imp (pw_and ha hb) fun σ H Q q => and_read q
theorem sw_or (ha : STs Θ X a ta) (hb : SW Θ X (.BoolOp .Or (b :: rest) pos) tb) : SW Θ X (.BoolOp .Or (a :: b :: rest) pos) (orM ta tb) := pw_imp (pw_or ha hb) fun σ H Q q => or_read q
theorem st_not (ha : STs Θ X a ta) : STs Θ X (.UnaryOp .Not a pos) (bd ta fun x => rt (!x)) := pt_imp (pt_not ha) fun σ H Q q => by
  obtain ⟨G, r0, R, c⟩ := q
  refine ⟨G, r0, R, (cn_bd c).mono fun x G1 H1 ⟨r1, R1, s1, c1⟩ => ?_⟩
  exact cn_rt R1 c1 G1 H1 (Ext.refl _ _)
/-- and, or, not as values: all bools -/
def andV (a b : M D) : M D := bd a fun x => bd (of (asB x)) fun k => if k = true then b else rt (.bl false)
def orV (a b : M D) : M D := bd a fun x => bd (of (asB x)) fun k => if k = true then rt (.bl true) else b
theorem se_one {op} (h : SE Θ X a m) : SE Θ X (.BoolOp op [a] pos) m := pe_one h
theorem asB_some {x : D} {k : Bool} (h : asB x = some k) : x = .bl k := by cases x <;> simp_all [asB]
theorem se_and (ha : SE Θ X a ma) (hb : SE Θ X (.BoolOp .And (b :: rest) pos) mb) : SE Θ X (.BoolOp .And (a :: b :: rest) pos) (andV ma mb) := pe_imp (pe_and ha hb) fun σ H Q q => by
  obtain ⟨G, r0, R, c⟩ := q
  refine ⟨G, r0, R, (cn_bd c).mono fun x G1 H1 ⟨r1, R1, s1, c1⟩ vx rx => ?_⟩
  obtain ⟨k, r2, e2, q2⟩ := cn_bd c1
  obtain ⟨e3, rfl⟩ := of_some e2
  obtain rfl := asB_some e3
  obtain ⟨r3, R3, s3, c3⟩ := q2 G1 H1 R1 (Fr.refl _ _ _ _)
  refine ⟨k, rx.bl_inv, ?_⟩
  cases k with
  | true => exact ⟨G1, r3, R3, c3⟩
  | false => exact cn_rt R3 c3 G1 H1 (Ext.refl _ _) _ .bl_of
theorem se_or (ha : SE Θ X a ma) (hb : SE Θ X (.BoolOp .Or (b :: rest) pos) mb) : SE Θ X (.BoolOp .Or (a :: b :: rest) pos) (orV ma mb) := pe_imp (pe_or ha hb) fun σ H Q q => by
  obtain ⟨G, r0, R, c⟩ := q
  refine ⟨G, r0, R, (cn_bd c).mono fun x G1 H1 ⟨r1, R1, s1, c1⟩ vx rx => ?_⟩
  obtain ⟨k, r2, e2, q2⟩ := cn_bd c1
  obtain ⟨e3, rfl⟩ := of_some e2
  obtain rfl := asB_some e3
  obtain ⟨r3, R3, s3, c3⟩ := q2 G1 H1 R1 (Fr.refl _ _ _ _)
  refine ⟨k, rx.bl_inv, ?_⟩
  cases k with
  | false => exact ⟨G1, r3, R3, c3⟩
  | true => exact cn_rt R3 c3 G1 H1 (Ext.refl _ _) _ .bl_of
theorem se_not (ha : SE Θ X a m) : SE Θ X (.UnaryOp .Not a pos) (bd m fun x => bd (of (asB x)) fun k => rt (.bl (!k))) := pe_imp (pe_not ha) fun σ H Q q => by
  obtain ⟨G, r0, R, c⟩ := q
  refine ⟨G, r0, R, (cn_bd c).mono fun x G1 H1 ⟨r1, R1, s1, c1⟩ vx rx => ?_⟩
  obtain ⟨k, r2, e2, q2⟩ := cn_bd c1
  obtain ⟨e3, rfl⟩ := of_some e2
  obtain rfl := asB_some e3
  obtain ⟨r3, R3, s3, c3⟩ := q2 G1 H1 R1 (Fr.refl _ _ _ _)
  exact ⟨k, rx.bl_inv, cn_rt R3 c3 G1 H1 (Ext.refl _ _) _ .bl_of⟩
/-- a if t else b -/
def ifM {α : Type} (t : M Bool) (a b : M α) : M α := bd t fun x => if x = true then a else b
theorem se_if (hc : STs Θ X c ta) (ha : SE Θ X a ma) (hb : SE Θ X b mb) : SE Θ X (.IfExp c a b pos) (ifM ta ma mb) := pe_imp (pe_ifExp hc ha hb) fun σ H Q q => by
  obtain ⟨G, r0, R, c⟩ := q
  refine ⟨G, r0, R, (cn_bd c).mono fun x G1 H1 ⟨r1, R1, s1, c1⟩ => ?_⟩
  cases x with
  | true => exact ⟨G1, r1, R1, c1⟩
  | false => exact ⟨G1, r1, R1, c1⟩
end
end Pk

namespace Pk
open PySem PySem.Spec PyProof.Rows L2
/-! ### built-ins -/
theorem bo_len : bootBuiltins "len" = some (.builtin "len") := by decide +kernel
theorem bo_list : bootBuiltins "list" = some (.type "list") := by decide +kernel
theorem bo_tuple : bootBuiltins "tuple" = some (.type "tuple") := by decide +kernel
theorem bo_int : bootBuiltins "int" = some (.type "int") := by decide +kernel
theorem bo_str : bootBuiltins "str" = some (.type "str") := by decide +kernel
theorem bo_bool : bootBuiltins "bool" = some (.type "bool") := by decide +kernel
theorem bo_ord : bootBuiltins "ord" = some (.builtin "ord") := by decide +kernel
theorem bo_min : bootBuiltins "min" = some (.builtin "min") := by decide +kernel
theorem bo_max : bootBuiltins "max" = some (.builtin "max") := by decide +kernel
theorem bo_abs : bootBuiltins "abs" = some (.builtin "abs") := by decide +kernel
theorem bo_all : bootBuiltins "all" = some (.builtin "all") := by decide +kernel
theorem bo_any : bootBuiltins "any" = some (.builtin "any") := by decide +kernel
theorem bo_isinstance : bootBuiltins "isinstance" = some (.builtin "isinstance") := by decide +kernel
section
variable {X : Cx} {e : Expr} {es : List Expr} {pos p : Pos} {m : M D} {ml : M (List D)} {x : Str}
def CallG (X : Cx) (f : Value) (g : List D → Option D) : Prop :=
  ∃ r, CallR X f r ∧ ∀ xs z, g xs = some z → ∀ (G H : Hp) (vs : List V) (Q : VK), Same G H → Reps X.K G xs vs → (∀ G' H' v, Ext G H G' H' → Rep X.K G' z v → Q v H') → r vs H Q
theorem call_read {r : List V → Hp → VK → Prop} {g : List D → Option D} (hg : ∀ xs z, g xs = some z → ∀ (G H : Hp) (vs : List V) (Q : VK), Same G H → Reps X.K G xs vs → (∀ G' H' v, Ext G H G' H' → Rep X.K G' z v → Q v H') → r vs H Q)
    {σ : L2.St} {H : Hp} {Q : VK} (q : rdE Θ X.K (bd ml fun xs => of (g xs)) σ H Q) : tCB r (rdA Θ X.K ml) σ H Q := by
  obtain ⟨G, r0, R, c⟩ := q
  refine ⟨G, r0, R, (cn_bd c).mono fun xs G1 H1 ⟨r1, R1, s1, c1⟩ vs rs => ?_⟩
  obtain ⟨z, hz, k⟩ := cn_of R1 c1
  exact hg xs z hz G1 H1 vs Q R1.sub rs fun G' H' v ex rz => k G' H' ex v rz
theorem se_callB {id : String} {g : List D → Option D} (hc : CallG X (.builtin id) g) (hg : Gl X x) (hm : X.mg x = none) (hv : bootBuiltins x = some (.builtin id)) (ha : SA Θ X (e :: es) ml) (hn : x ≠ "__name__" := by decide) (hdb : (x == ("__debug__" : Str)) = false := by decide)
    (he : starEach (e :: es) X.env = (false, eval e X.env) :: starEach es X.env := by rfl) (hpl : (backTo pos (starEach es X.env)).any (·.1) = false := by rfl) : SE Θ X (.Call (.Name x p) (e :: es) [] pos) (bd ml fun xs => of (g xs)) := by
  obtain ⟨r, o, h⟩ := hc
  exact pe_imp (pe_callB o hg hm hv ha hn hdb he hpl) fun σ H Q q => call_read h q
theorem se_callTy {T : String} {g : List D → Option D} (hc : CallG X (.type T) g) (hg : Gl X x) (hm : X.mg x = none) (hv : bootBuiltins x = some (.type T)) (ha : SA Θ X (e :: es) ml) (hn : x ≠ "__name__" := by decide) (hdb : (x == ("__debug__" : Str)) = false := by decide)
    (he : starEach (e :: es) X.env = (false, eval e X.env) :: starEach es X.env := by rfl) (hpl : (backTo pos (starEach es X.env)).any (·.1) = false := by rfl) : SE Θ X (.Call (.Name x p) (e :: es) [] pos) (bd ml fun xs => of (g xs)) := by
  obtain ⟨r, o, h⟩ := hc
  exact pe_imp (pe_callTy o hg hm hv ha hn hdb he hpl) fun σ H Q q => call_read h q
theorem Reps.one {K : PySem.W.Frag} {G : Hp} {d : D} {vs : List V} (h : Reps K G [d] vs) : ∃ v, vs = [v] ∧ Rep K G d v := by
  obtain ⟨v, r, rfl, q, t⟩ := h.cons_inv
  rw [t.nil_inv]
  exact ⟨v, rfl, q⟩
theorem Reps.two {K : PySem.W.Frag} {G : Hp} {d e : D} {vs : List V} (h : Reps K G [d, e] vs) : ∃ v u, vs = [v, u] ∧ Rep K G d v ∧ Rep K G e u := by
  obtain ⟨v, r, rfl, q, t⟩ := h.cons_inv
  obtain ⟨u, rfl, q2⟩ := t.one
  exact ⟨v, u, rfl, q, q2⟩
def lenD : List D → Option D
  | [.str x] => if x.length ≤ sizeLine then some (.int x.length) else none
  | [.tup ds] => some (.int ds.length)
  | [.lst ds] => some (.int ds.length)
  | [.ro ds] => some (.int ds.length)
  | _ => none
theorem cg_len : CallG X (.builtin "len") lenD := by
  refine ⟨_, call_len, fun xs z e G H vs Q s rs k => ?_⟩
  unfold lenD at e
  split at e
  · split at e
    · rename_i y hc
      cases e
      obtain ⟨v, rfl, r⟩ := rs.one
      obtain rfl := r.str_inv
      exact ⟨_, _, rfl, ⟨hc, rfl⟩, fin_flat k .int_of⟩
    · cases e
  · rename_i ds
    cases e
    obtain ⟨v, rfl, r⟩ := rs.one
    obtain ⟨a, us, rfl, q, rr⟩ := r.tup_inv
    exact ⟨_, _, rfl, .inr ⟨us, sqT_mono s q, rfl⟩, by rw [rr.length]; exact fin_flat k .int_of⟩
  · rename_i ds
    cases e
    obtain ⟨v, rfl, r⟩ := rs.one
    obtain ⟨a, us, rfl, q, rr⟩ := r.lst_inv
    exact ⟨_, _, rfl, .inl ⟨us, .inl (rd_mono s q), rfl⟩, by rw [rr.length]; exact fin_flat k .int_of⟩
  · rename_i ds
    cases e
    obtain ⟨v, rfl, r⟩ := rs.one
    obtain ⟨a, us, rfl, q, rr⟩ := r.ro_inv
    exact ⟨_, _, rfl, .inl ⟨us, sqL_mono s q, rfl⟩, by rw [rr.length]; exact fin_flat k .int_of⟩
  · cases e
def listD : List D → Option D
  | [.tup ds] => some (.lst ds)
  | [.lst ds] => some (.lst ds)
  | [.ro ds] => some (.lst ds)
  | _ => none
theorem cg_list : CallG X (.type "list") listD := by
  refine ⟨_, call_list_of, fun xs z e G H vs Q s rs k => ?_⟩
  unfold listD at e
  split at e
  · rename_i ds
    cases e
    obtain ⟨v, rfl, r⟩ := rs.one
    obtain ⟨a, us, rfl, q, rr⟩ := r.tup_inv
    exact ⟨a, us, rfl, .inr (sqT_mono s q), fin_lst s k rr⟩
  · rename_i ds
    cases e
    obtain ⟨v, rfl, r⟩ := rs.one
    obtain ⟨a, us, rfl, q, rr⟩ := r.lst_inv
    exact ⟨a, us, rfl, .inl (.inl (rd_mono s q)), fin_lst s k rr⟩
  · rename_i ds
    cases e
    obtain ⟨v, rfl, r⟩ := rs.one
    obtain ⟨a, us, rfl, q, rr⟩ := r.ro_inv
    exact ⟨a, us, rfl, .inl (sqL_mono s q), fin_lst s k rr⟩
  · cases e
def tupleD : List D → Option D
  | [.tup ds] => some (.tup ds)
  | [.lst ds] => some (.tup ds)
  | _ => none
theorem cg_tuple : CallG X (.type "tuple") tupleD := by
  refine ⟨_, call_tuple_of, fun xs z e G H vs Q s rs k => ?_⟩
  unfold tupleD at e
  split at e
  · rename_i ds
    cases e
    obtain ⟨v, rfl, r⟩ := rs.one
    obtain ⟨a, us, rfl, q, rr⟩ := r.tup_inv
    exact ⟨a, us, rfl, .inr ⟨sqT_mono s q, k G H _ (Ext.refl _ _) r⟩⟩
  · rename_i ds
    cases e
    obtain ⟨v, rfl, r⟩ := rs.one
    obtain ⟨a, us, rfl, q, rr⟩ := r.lst_inv
    exact ⟨a, us, rfl, .inl ⟨.inl (rd_mono s q), fin_tup s k rr⟩⟩
  · cases e
def intD : List D → Option D
  | [.int i] => some (.int i)
  | [.bl b] => some (.int (if b then 1 else 0))
  | _ => none
theorem cg_int : CallG X (.type "int") intD := by
  refine ⟨_, call_int1, fun xs z e G H vs Q s rs k => ?_⟩
  unfold intD at e
  split at e
  · rename_i i
    cases e
    obtain ⟨v, rfl, r⟩ := rs.one
    obtain rfl := r.int_inv
    exact .inl ⟨i, rfl, fin_flat k .int_of⟩
  · rename_i b
    cases e
    obtain ⟨v, rfl, r⟩ := rs.one
    obtain rfl := r.bl_inv
    exact .inr ⟨b, rfl, fin_flat k .int_of⟩
  · cases e
def ordC : List D → Option D
  | [.str x] => if x.length = 1 then some (.int (x.cps.getD 0 0 : Nat)) else none
  | _ => none
theorem cg_ord : CallG X (.builtin "ord") ordC := by
  refine ⟨_, call_ord, fun xs z e G H vs Q s rs k => ?_⟩
  unfold ordC at e
  split at e
  · split at e
    · rename_i y hc
      cases e
      obtain ⟨v, rfl, r⟩ := rs.one
      obtain rfl := r.str_inv
      exact ⟨y, rfl, hc, fin_flat k .int_of⟩
    · cases e
  · cases e
def minD : List D → Option D
  | [.int i, .int j] => some (.int (if j < i then j else i))
  | _ => none
theorem cg_min (hc : X.calm = true) : CallG X (.builtin "min") minD := by
  refine ⟨_, call_min2 hc, fun xs z e G H vs Q s rs k => ?_⟩
  unfold minD at e
  split at e
  · rename_i i j
    cases e
    obtain ⟨v, u, rfl, r1, r2⟩ := rs.two
    obtain rfl := r1.int_inv
    obtain rfl := r2.int_inv
    exact ⟨i, j, rfl, fin_flat k .int_of⟩
  · cases e
def maxD : List D → Option D
  | [.int i, .int j] => some (.int (if j > i then j else i))
  | _ => none
theorem cg_max (hc : X.calm = true) : CallG X (.builtin "max") maxD := by
  refine ⟨_, call_max2 hc, fun xs z e G H vs Q s rs k => ?_⟩
  unfold maxD at e
  split at e
  · rename_i i j
    cases e
    obtain ⟨v, u, rfl, r1, r2⟩ := rs.two
    obtain rfl := r1.int_inv
    obtain rfl := r2.int_inv
    exact ⟨i, j, rfl, fin_flat k .int_of⟩
  · cases e
def absD : List D → Option D
  | [.int i] => some (.int (if i < 0 then -i else i))
  | _ => none
theorem cg_abs : CallG X (.builtin "abs") absD := by
  refine ⟨_, call_abs, fun xs z e G H vs Q s rs k => ?_⟩
  unfold absD at e
  split at e
  · rename_i i
    cases e
    obtain ⟨v, rfl, r⟩ := rs.one
    obtain rfl := r.int_inv
    exact ⟨i, rfl, fin_flat k .int_of⟩
  · cases e
def strI : List D → Option D
  | [.int i] => if i.natAbs.log2 < 1920 then some (.str (toString i)) else none
  | _ => none
theorem cg_str : CallG X (.type "str") strI := by
  refine ⟨_, call_str_int, fun xs z e G H vs Q s rs k => ?_⟩
  unfold strI at e
  split at e
  · split at e
    · rename_i i hc
      cases e
      obtain ⟨v, rfl, r⟩ := rs.one
      obtain rfl := r.int_inv
      exact ⟨i, rfl, hc, fin_flat k .str_of⟩
    · cases e
  · cases e
def bools : List D → Option (List Bool)
  | [] => some []
  | .bl b :: ds => (bools ds).map fun bs => b :: bs
  | _ :: _ => none
theorem bools_reps {K : PySem.W.Frag} {G : Hp} : ∀ {ds : List D} {bs : List Bool} {vs : List V}, bools ds = some bs → Reps K G ds vs → vs = bs.map V.bl
  | [], bs, vs, h, r => by cases h; rw [r.nil_inv]; rfl
  | d :: ds, bs, vs, h, r => by
    cases d with
    | bl b =>
      simp only [bools] at h
      cases e : bools ds with
      | none => rw [e] at h; cases h
      | some cs =>
        rw [e] at h
        cases h
        obtain ⟨v, us, rfl, q, t⟩ := r.cons_inv
        rw [q.bl_inv, bools_reps e t]
        rfl
    | _ => simp [bools] at h
def allD : List D → Option D
  | [.lst ds] => (bools ds).map fun bs => .bl (bs.all _root_.id)
  | _ => none
theorem cg_all (hc : X.calm = true) : CallG X (.builtin "all") allD := by
  refine ⟨_, cr_all hc, fun xs z e G H vs Q s rs k => ?_⟩
  unfold allD at e
  split at e
  · rename_i ds
    cases e2 : bools ds with
    | none => rw [e2] at e; cases e
    | some bs =>
      rw [e2] at e
      cases e
      obtain ⟨v, rfl, r⟩ := rs.one
      obtain ⟨a, us, rfl, q, rr⟩ := r.lst_inv
      obtain rfl := bools_reps e2 rr
      exact ⟨a, bs, rfl, .inl (rd_mono s q), fin_flat k .bl_of⟩
  · cases e
def anyD : List D → Option D
  | [.lst ds] => (bools ds).map fun bs => .bl (bs.any _root_.id)
  | _ => none
theorem cg_any (hc : X.calm = true) : CallG X (.builtin "any") anyD := by
  refine ⟨_, cr_any hc, fun xs z e G H vs Q s rs k => ?_⟩
  unfold anyD at e
  split at e
  · rename_i ds
    cases e2 : bools ds with
    | none => rw [e2] at e; cases e
    | some bs =>
      rw [e2] at e
      cases e
      obtain ⟨v, rfl, r⟩ := rs.one
      obtain ⟨a, us, rfl, q, rr⟩ := r.lst_inv
      obtain rfl := bools_reps e2 rr
      exact ⟨a, bs, rfl, .inl (rd_mono s q), fin_flat k .bl_of⟩
  · cases e
/-! ### isinstance(e, T) -/
def D.ty : D → String
  | .non => "NoneType"
  | .bl _ => "bool"
  | .int _ => "int"
  | .str _ => "str"
  | .tup _ => "tuple"
  | .lst _ => "list"
  | .ro _ => "list"
theorem Rep.tyx {K : PySem.W.Frag} {G H : Hp} (s : Same G H) {d : D} {v : V} (r : Rep K G d v) : TyX K H v (.type d.ty) := by
  cases d with
  | non => rw [r.non_inv]; exact .base .non
  | bl b => rw [r.bl_inv]; exact .base (.bl b)
  | int i => rw [r.int_inv]; exact .base (.int i)
  | str x => rw [r.str_inv]; exact .base (.str x)
  | tup ds =>
    obtain ⟨a, vs, rfl, q, rs⟩ := r.tup_inv
    rcases q with (q | ⟨o, q⟩) | ⟨o, its, n, q, c, _⟩
    · exact .base (.tup (s _ _ q))
    · exact .fTuple (s _ _ q)
    · exact .kTuple q c
  | lst ds =>
    obtain ⟨a, vs, rfl, q, rs⟩ := r.lst_inv
    rcases q with q | ⟨o, q⟩
    · exact .base (.lst (s _ _ q))
    · exact .base (.frz (s _ _ q))
  | ro ds =>
    obtain ⟨a, vs, rfl, q, rs⟩ := r.ro_inv
    rcases q with (q | ⟨o, q⟩) | ⟨o, its, n, q, c, _⟩
    · exact .base (.lst (s _ _ q))
    · exact .base (.frz (s _ _ q))
    · exact .kList q c
def isiD (T : String) (d : D) : Option D := (kitB d.ty T).map .bl
theorem se_isi {T : String} {px p : Pos} {y : Str} (he : SE Θ X e m) (hg : Gl X "isinstance") (hm : X.mg "isinstance" = none) (gy : Gl X y) (my : X.mg y = none) (vy : bootBuiltins y = some (.type T)) (hy : y ≠ "__name__" := by decide) (hyd : (y == ("__debug__" : Str)) = false := by decide)
    (he2 : starEach (e :: [.Name y px]) X.env = (false, eval e X.env) :: starEach [.Name y px] X.env := by rfl) (he3 : starEach (.Name y px :: []) X.env = (false, eval (.Name y px) X.env) :: starEach [] X.env := by rfl) (hpl : (backTo pos (starEach [.Name y px] X.env)).any (·.1) = false := by rfl) :
    SE Θ X (.Call (.Name "isinstance" p) [e, .Name y px] [] pos) (bd m fun x => of (isiD T x)) := by
  refine pe_imp (pe_callB call_isi hg hm bo_isinstance (pa_cons he (pa_cons (pe_bltn (v := .ty T) gy my vy rfl hy hyd) pa_nil he3) he2) (by decide) (by decide) he2 hpl) fun σ H Q q => ?_
  obtain ⟨G, r0, R, c⟩ := q
  refine ⟨G, r0, R, (cn_bd c).mono fun x G1 H1 ⟨r1, R1, s1, c1⟩ vx rx => ?_⟩
  obtain ⟨z, hz, k⟩ := cn_of R1 c1
  unfold isiD at hz
  cases e2 : kitB x.ty T with
  | none => rw [e2] at hz; cases hz
  | some b =>
    rw [e2] at hz
    cases hz
    exact ⟨vx, .ty T, _, _, b, rfl, .ty T, rx.tyx R1.sub, kit_ty e2, fin_flat (X := X) (fun G' H' v ex rv => k G' H' ex v rv) .bl_of⟩
/-! ### sep.join(list) -/
def texts : List D → Option (List Str)
  | [] => some []
  | .str b :: ds => (texts ds).map fun bs => b :: bs
  | _ :: _ => none
theorem texts_reps {K : PySem.W.Frag} {G : Hp} : ∀ {ds : List D} {bs : List Str} {vs : List V}, texts ds = some bs → Reps K G ds vs → vs = bs.map V.str
  | [], bs, vs, h, r => by cases h; rw [r.nil_inv]; rfl
  | d :: ds, bs, vs, h, r => by
    cases d with
    | str b =>
      simp only [texts] at h
      cases e : texts ds with
      | none => rw [e] at h; cases h
      | some cs =>
        rw [e] at h
        cases h
        obtain ⟨v, us, rfl, q, t⟩ := r.cons_inv
        rw [q.str_inv, texts_reps e t]
        rfl
    | _ => simp [texts] at h
def joinL (a : Str) (ds : List D) : Option D := match texts ds with
  | some ys => if (ys.map (·.length)).sum + ys.length * a.length ≤ 16777216 then some (.str (Txt.join a ys)) else none
  | none => none
def joinD : D → D → Option D
  | .str a, .lst ds => joinL a ds
  | .str a, .tup ds => joinL a ds
  | _, _ => none
theorem joinL_some {a : Str} {ds : List D} {z : D} (h : joinL a ds = some z) : ∃ ys, texts ds = some ys ∧ (ys.map (·.length)).sum + ys.length * a.length ≤ 16777216 ∧ z = .str (Txt.join a ys) := by
  unfold joinL at h
  split at h
  · rename_i ys e
    split at h
    · rename_i hc
      cases h
      exact ⟨ys, e, hc, rfl⟩
    · cases h
  · cases h
def asS : D → Option Str
  | .str z => some z
  | _ => none
theorem se_join {o : Expr} {mo : M D} {apos : Pos} (ho : SE Θ X o mo) (he : SE Θ X e m) (hs : starEach [e] X.env = [(false, eval e X.env)] := by rfl) (hbase : attributeBase o "join" X.env (eval o X.env) = eval o X.env := by rfl) (hline : (apos.endLine == pos.line) = true := by rfl) :
    SE Θ X (.Call (.Attribute o "join" apos) [e] [] pos) (bd mo fun a => bd (of (asS a)) fun z => bd m fun x => of (joinD (.str z) x)) := by
  refine pe_imp (pe_join ho he hs hbase hline) fun σ H Q q => ?_
  obtain ⟨G, r0, R, c⟩ := q
  refine ⟨G, r0, R, (cn_bd c).mono fun a G1 H1 ⟨r1, R1, s1, c1⟩ va ra => ?_⟩
  obtain ⟨y, r2, e2, q2⟩ := cn_bd c1
  obtain ⟨e3, rfl⟩ := of_some e2
  obtain ⟨r3, R3, s3, c3⟩ := q2 G1 H1 R1 (Fr.refl _ _ _ _)
  cases a with
  | str w =>
    obtain rfl : w = y := Option.some.inj e3
    obtain rfl := ra.str_inv
    refine ⟨⟨w, rfl⟩, G1, r3, R3, (cn_bd c3).mono fun x G2 H2 ⟨r4, R4, s4, c4⟩ vx rx => ?_⟩
    obtain ⟨z, hz, k⟩ := cn_of R4 c4
    cases x with
    | lst ds =>
      obtain ⟨ys, h1, h2, rfl⟩ := joinL_some (show joinL w ds = some z from hz)
      obtain ⟨p, us, rfl, q, rr⟩ := rx.lst_inv
      obtain rfl := texts_reps h1 rr
      exact ⟨w, p, ys, rfl, rfl, .inl (.inl (rd_mono R4.sub q)), h2, fin_flat (X := X) (fun G' H' v ex rv => k G' H' ex v rv) .str_of⟩
    | tup ds =>
      obtain ⟨ys, h1, h2, rfl⟩ := joinL_some (show joinL w ds = some z from hz)
      obtain ⟨p, us, rfl, q, rr⟩ := rx.tup_inv
      obtain rfl := texts_reps h1 rr
      exact ⟨w, p, ys, rfl, rfl, .inr (sqT_mono R4.sub q), h2, fin_flat (X := X) (fun G' H' v ex rv => k G' H' ex v rv) .str_of⟩
    | _ => cases hz
  | _ => cases e3
end
end Pk

namespace Pk
open PySem PySem.Spec PyProof.Rows L2

/-! ### stores to slots -/
section
variable {K : PySem.W.Frag} {G H : Hp} {r r' : Ro} {σ : L2.St} {i : Nat}
theorem set_get {α : Type} {l : List α} {i j : Nat} {a b : α} (h : (l.set i a)[j]? = some b) : (j = i ∧ b = a) ∨ (j ≠ i ∧ l[j]? = some b) := by
  by_cases e : i = j
  · subst e
    by_cases hl : i < l.length
    · rw [List.getElem?_set_self hl] at h
      exact .inl ⟨rfl, (Option.some.inj h).symm⟩
    · rw [List.getElem?_eq_none (by simpa using hl)] at h; cases h
  · rw [List.getElem?_set_ne e] at h
    exact .inr ⟨fun z => e z.symm, h⟩
/-- may be stored to -/
def free (r : Ro) (i : Nat) : Bool := match r[i]? with
  | none => false
  | some (some (.own true _)) => false
  | some (some .lock) => false
  | some _ => true
theorem free_lt (h : free r i = true) : i < r.length := by
  unfold free at h
  cases e : r[i]? with
  | none => rw [e] at h; cases h
  | some x => exact (List.getElem?_eq_some_iff.mp e).1
theorem free_pin (h : free r i = true) {ds : List D} : r[i]? ≠ some (some (.own true ds)) := fun z => by
  unfold free at h
  rw [z] at h
  cases h
theorem free_lock (h : free r i = true) : r[i]? ≠ some (some .lock) := fun z => by
  unfold free at h
  rw [z] at h
  cases h
def setD (i : Nat) (d : D) : Ro → Option Ro := fun r => if free r i then some (r.set i (some (.d d))) else none
def setO (i : Nat) (ds : List D) : Ro → Option Ro := fun r => if free r i then some (r.set i (some (.own false ds))) else none
theorem setD_some {d : D} (h : setD i d r = some r') : free r i = true ∧ r' = r.set i (some (.d d)) := by
  unfold setD at h
  split at h
  · cases h; exact ⟨by assumption, rfl⟩
  · cases h
theorem setO_some {ds : List D} (h : setO i ds r = some r') : free r i = true ∧ r' = r.set i (some (.own false ds)) := by
  unfold setO at h
  split at h
  · cases h; exact ⟨by assumption, rfl⟩
  · cases h
theorem setD_rel (R : Rel Θ K G H r σ) {d : D} (h : setD i d r = some r') {v : V} (rv : Rep K G d v) : Rel Θ K G H r' (σ.set i (some v)) ∧ Fr G H r σ G H r' (σ.set i (some v)) := by
  obtain ⟨hf, rfl⟩ := setD_some h
  have hl := free_lt hf
  have hs : i < σ.length := by rw [← R.len]; exact hl
  have own : ∀ (j : Nat) (p : Bool) (ds : List D), (r.set i (some (.d d)))[j]? = some (some (.own p ds)) → j ≠ i ∧ r[j]? = some (some (.own p ds)) := fun j p ds z => by
    rcases set_get z with ⟨_, e⟩ | ⟨n, e⟩
    · cases e
    · exact ⟨n, e⟩
  have sig : ∀ j, j ≠ i → (σ.set i (some v))[j]? = σ[j]? := fun j n => List.getElem?_set_ne (fun z => n z.symm)
  refine ⟨⟨by rw [List.length_set, List.length_set]; exact R.len, R.sub, fun j d' z => ?_, fun j p ds z => ?_, fun j k p ds q es a z1 z2 e1 e2 => ?_, R.tab⟩, ⟨Same.refl _, fun b u e _ n => ⟨e, ?_, fun z => z⟩, fun j ds z => ?_, fun j z => ?_, fun _ h => h⟩⟩
  · rcases set_get z with ⟨rfl, e⟩ | ⟨n, e⟩
    · cases e
      exact ⟨v, List.getElem?_set_self hs, rv⟩
    · rw [sig j n]; exact R.get j d' e
  · obtain ⟨n, e⟩ := own j p ds z
    rw [sig j n]; exact R.own j p ds e
  · obtain ⟨n1, z1⟩ := own j p ds z1
    obtain ⟨n2, z2⟩ := own k q es z2
    rw [sig j n1] at e1
    rw [sig k n2] at e2
    exact R.sep j k p ds q es a z1 z2 e1 e2
  · rintro ⟨j, p, ds, z, e2⟩
    obtain ⟨n1, z⟩ := own j p ds z
    rw [sig j n1] at e2
    exact n ⟨j, p, ds, z, e2⟩
  · have n : j ≠ i := fun e => by subst e; exact free_pin hf z
    rw [sig j n]
    exact ⟨⟨ds, by rw [List.getElem?_set_ne (fun e => n e.symm)]; exact z⟩, rfl⟩
  · have n : j ≠ i := fun e => by subst e; exact free_lock hf z
    rw [sig j n]
    exact ⟨by rw [List.getElem?_set_ne (fun e => n e.symm)]; exact z, rfl⟩
theorem setO_rel (R : Rel Θ K G H r σ) {ds : List D} (h : setO i ds r = some r') {vs : List V} (rv : Reps K G ds vs) {p : Addr} (hp : H p = none) :
    Rel Θ K G (upd H p (.lst vs)) r' (σ.set i (some (.ref p))) ∧ Fr G H r σ G (upd H p (.lst vs)) r' (σ.set i (some (.ref p))) := by
  obtain ⟨hf, rfl⟩ := setO_some h
  have hl := free_lt hf
  have hs : i < σ.length := by rw [← R.len]; exact hl
  have own : ∀ (j : Nat) (q : Bool) (es : List D), (r.set i (some (.own false ds)))[j]? = some (some (.own q es)) → (j = i ∧ q = false ∧ es = ds) ∨ (j ≠ i ∧ r[j]? = some (some (.own q es))) := fun j p ds z => by
    rcases set_get z with ⟨e1, e⟩ | ⟨n, e⟩
    · cases e; exact .inl ⟨e1, rfl, rfl⟩
    · exact .inr ⟨n, e⟩
  have sig : ∀ j, j ≠ i → (σ.set i (some (.ref p)))[j]? = σ[j]? := fun j n => List.getElem?_set_ne (fun z => n z.symm)
  have sigi : (σ.set i (some (.ref p)))[i]? = some (some (.ref p)) := List.getElem?_set_self hs
  have out : ∀ (j : Nat) (q : Bool) (es : List D), r[j]? = some (some (.own q es)) → σ[j]? ≠ some (some (.ref p)) := fun j q es z e => by
    obtain ⟨a, us, e1, e2, _⟩ := R.own j q es z
    rw [e1] at e
    cases e
    rw [hp] at e2; cases e2
  refine ⟨⟨by rw [List.length_set, List.length_set]; exact R.len, fun b u e => same_new hp _ _ _ (R.sub _ _ e), fun j d' z => ?_, fun j q es z => ?_, fun j k q es q' es' a z1 z2 e1 e2 => ?_, R.tab.new hp⟩, ⟨Same.refl _, fun b u e _ n => ⟨same_new hp _ _ _ e, ?_, fun z => z⟩, fun j ds z => ?_, fun j z => ?_, fun _ h => same_nw (same_new hp _) h⟩⟩
  · rcases set_get z with ⟨rfl, e⟩ | ⟨n, e⟩
    · cases e
    · rw [sig j n]; exact R.get j d' e
  · rcases own j q es z with ⟨rfl, rfl, rfl⟩ | ⟨n, e⟩
    · exact ⟨p, vs, sigi, upd_same, free_of R.sub hp, rv⟩
    · rw [sig j n]
      obtain ⟨a, us, e1, e2, e3, e4⟩ := R.own j q es e
      exact ⟨a, us, e1, same_new hp _ _ _ e2, e3, e4⟩
  · rcases own j q es z1 with ⟨w1, _⟩ | ⟨n1, w1⟩
    · rcases own k q' es' z2 with ⟨w2, _⟩ | ⟨n2, w2⟩
      · rw [w1, w2]
      · rw [w1, sigi] at e1; cases e1
        rw [sig k n2] at e2
        exact absurd e2 (out k q' es' w2)
    · rcases own k q' es' z2 with ⟨w2, _⟩ | ⟨n2, w2⟩
      · rw [w2, sigi] at e2; cases e2
        rw [sig j n1] at e1
        exact absurd e1 (out j q es w1)
      · rw [sig j n1] at e1
        rw [sig k n2] at e2
        exact R.sep j k q es q' es' a w1 w2 e1 e2
  · rintro ⟨j, q, es, z, e2⟩
    rcases own j q es z with ⟨rfl, _⟩ | ⟨n1, z⟩
    · rw [sigi] at e2; cases e2
      rw [hp] at e; cases e
    · rw [sig j n1] at e2
      exact n ⟨j, q, es, z, e2⟩
  · have n : j ≠ i := fun e => by subst e; exact free_pin hf z
    rw [sig j n]
    exact ⟨⟨ds, by rw [List.getElem?_set_ne (fun e => n e.symm)]; exact z⟩, rfl⟩
  · have n : j ≠ i := fun e => by subst e; exact free_lock hf z
    rw [sig j n]
    exact ⟨by rw [List.getElem?_set_ne (fun e => n e.symm)]; exact z, rfl⟩
/-- one's own list is changed -/
theorem chg_rel (R : Rel Θ K G H r σ) {p : Bool} {ds es : List D} (h : r[i]? = some (some (.own p ds))) {a : Addr} {vs us : List V} (ha : σ[i]? = some (some (.ref a))) (hH : H a = some (.lst vs)) (hG : G a = none) (rv : Reps K G es us) :
    Rel Θ K G (upd H a (.lst us)) (r.set i (some (.own p es))) σ ∧ Fr G H r σ G (upd H a (.lst us)) (r.set i (some (.own p es))) σ := by
  have hl : i < r.length := (List.getElem?_eq_some_iff.mp h).1
  have own : ∀ (j : Nat) (q : Bool) (fs : List D), (r.set i (some (.own p es)))[j]? = some (some (.own q fs)) → (j = i ∧ q = p ∧ fs = es) ∨ (j ≠ i ∧ r[j]? = some (some (.own q fs))) := fun j q fs z => by
    rcases set_get z with ⟨e1, e⟩ | ⟨n, e⟩
    · cases e; exact .inl ⟨e1, rfl, rfl⟩
    · exact .inr ⟨n, e⟩
  have owner : ∀ (j : Nat) (q : Bool) (fs : List D), (r.set i (some (.own p es)))[j]? = some (some (.own q fs)) → ∃ q' fs', r[j]? = some (some (.own q' fs')) := fun j q fs z => by
    rcases own j q fs z with ⟨rfl, _⟩ | ⟨_, e⟩
    · exact ⟨p, ds, h⟩
    · exact ⟨q, fs, e⟩
  refine ⟨⟨by rw [List.length_set]; exact R.len, fun b u e => ?_, fun j d' z => ?_, fun j q fs z => ?_, fun j k q fs q' fs' b z1 z2 e1 e2 => ?_, R.tab.lst hH⟩, ⟨Same.refl _, fun b u e _ n => ⟨?_, ?_, fun z => z⟩, fun j fs z => ?_, fun j z => ?_, fun b h => ?_⟩⟩
  · rw [upd_ne (fun z => by subst z; rw [hG] at e; cases e)]
    exact R.sub _ _ e
  · rcases set_get z with ⟨rfl, e⟩ | ⟨n, e⟩
    · cases e
    · exact R.get j d' e
  · rcases own j q fs z with ⟨rfl, rfl, rfl⟩ | ⟨n, e⟩
    · exact ⟨a, us, ha, upd_same, hG, rv⟩
    · obtain ⟨b, ws, e1, e2, e3, e4⟩ := R.own j q fs e
      refine ⟨b, ws, e1, ?_, e3, e4⟩
      rw [upd_ne]
      · exact e2
      · intro z
        subst z
        exact n (R.sep j i q fs p ds b e h e1 ha)
  · obtain ⟨q1, fs1, z1⟩ := owner j q fs z1
    obtain ⟨q2, fs2, z2⟩ := owner k q' fs' z2
    exact R.sep j k q1 fs1 q2 fs2 b z1 z2 e1 e2
  · rw [upd_ne]
    · exact e
    · intro z
      subst z
      exact n ⟨i, p, ds, h, ha⟩
  · rintro ⟨j, q, fs, z, e2⟩
    obtain ⟨q1, fs1, z1⟩ := owner j q fs z
    exact n ⟨j, q1, fs1, z1, e2⟩
  · refine ⟨?_, rfl⟩
    by_cases e : i = j
    · subst e
      rw [h] at z
      cases z
      exact ⟨es, List.getElem?_set_self hl⟩
    · exact ⟨fs, by rw [List.getElem?_set_ne e]; exact z⟩
  · refine ⟨?_, rfl⟩
    by_cases e : i = j
    · subst e
      rw [h] at z
      cases z
    · rw [List.getElem?_set_ne e]; exact z
  · by_cases e : b = a
    · subst e; cases h _ upd_same
    · exact fun u z => h u (by rw [upd_ne e]; exact z)
/-- one's own list becomes a still one -/
theorem frz_rel (R : Rel Θ K G H r σ) {ds : List D} (h : r[i]? = some (some (.own false ds))) {a : Addr} {vs : List V} (ha : σ[i]? = some (some (.ref a))) (hH : H a = some (.lst vs)) (hG : G a = none) (rv : Reps K G ds vs) :
    Rel Θ K (upd G a (.lst vs)) H (r.set i (some (.d (.lst ds)))) σ ∧ Fr G H r σ (upd G a (.lst vs)) H (r.set i (some (.d (.lst ds)))) σ := by
  have hl : i < r.length := (List.getElem?_eq_some_iff.mp h).1
  have own : ∀ (j : Nat) (q : Bool) (fs : List D), (r.set i (some (.d (.lst ds))))[j]? = some (some (.own q fs)) → j ≠ i ∧ r[j]? = some (some (.own q fs)) := fun j q fs z => by
    rcases set_get z with ⟨e1, e⟩ | ⟨n, e⟩
    · cases e
    · exact ⟨n, e⟩
  have le : Same G (upd G a (.lst vs)) := same_new hG _
  refine ⟨⟨by rw [List.length_set]; exact R.len, fun b u e => ?_, fun j d' z => ?_, fun j q fs z => ?_, fun j k q fs q' fs' b z1 z2 e1 e2 => ?_, R.tab.frz le fun b u e z => by
    by_cases q : b = a
    · subst q; rw [upd_same] at e; cases e; exact ⟨vs, rfl, hH⟩
    · rw [upd_ne q, z] at e; cases e⟩, ⟨le, fun b u e _ n => ⟨e, ?_, fun z => ?_⟩, fun j fs z => ?_, fun j z => ?_, fun _ h => h⟩⟩
  · by_cases z : b = a
    · subst z; rw [upd_same] at e; cases e; exact hH
    · rw [upd_ne z] at e; exact R.sub _ _ e
  · rcases set_get z with ⟨rfl, e⟩ | ⟨n, e⟩
    · cases e
      exact ⟨.ref a, ha, .lst_of (Rd.of upd_same) (Reps.mono le _ _ rv)⟩
    · obtain ⟨v, h1, h2⟩ := R.get j d' e
      exact ⟨v, h1, h2.mono le⟩
  · obtain ⟨n, e⟩ := own j q fs z
    obtain ⟨b, ws, e1, e2, e3, e4⟩ := R.own j q fs e
    refine ⟨b, ws, e1, e2, ?_, Reps.mono le _ _ e4⟩
    rw [upd_ne]
    · exact e3
    · intro z
      subst z
      exact n (R.sep j i q fs false ds b e h e1 ha)
  · obtain ⟨n1, z1⟩ := own j q fs z1
    obtain ⟨n2, z2⟩ := own k q' fs' z2
    exact R.sep j k q fs q' fs' b z1 z2 e1 e2
  · rintro ⟨j, q, fs, z, e2⟩
    obtain ⟨n1, z1⟩ := own j q fs z
    exact n ⟨j, q, fs, z1, e2⟩
  · rw [upd_ne]
    · exact z
    · intro z
      subst z
      exact n ⟨i, false, ds, h, ha⟩
  · refine ⟨?_, rfl⟩
    by_cases e : i = j
    · subst e
      rw [h] at z
      cases z
    · exact ⟨fs, by rw [List.getElem?_set_ne e]; exact z⟩
  · refine ⟨?_, rfl⟩
    by_cases e : i = j
    · subst e
      rw [h] at z
      cases z
    · rw [List.getElem?_set_ne e]; exact z
end

/-! ### names that hold a list of one's own -/
section
variable {X : Cx} {e a b c : Expr} {es : List Expr} {pos : Pos} {ma mb mc m : M D} {i : Nat} {ml : M (List D)}
/-- the name as a value: from now on the list stands still -/
def ldF (i : Nat) : M D := fun r => match r[i]? with
  | some (some (.d d)) => some (d, r)
  | some (some (.own false ds)) => some (.lst ds, r.set i (some (.d (.lst ds))))
  | _ => none
theorem se_ldF (h : PE X e (tVar i)) : SE Θ X e (ldF i) := pe_imp h fun σ H Q q => by
  obtain ⟨G, r0, R, d', r', hm, k⟩ := q
  unfold ldF at hm
  split at hm
  · rename_i d hi
    cases hm
    obtain ⟨v, h1, h2⟩ := R.get i _ hi
    exact ⟨v, h1, k G H R (Fr.refl _ _ _ _) v h2⟩
  · rename_i ds hi
    cases hm
    obtain ⟨a, vs, h1, h2, h3, h4⟩ := R.own i _ _ hi
    obtain ⟨R', F'⟩ := frz_rel R hi h1 h2 h3 h4
    exact ⟨.ref a, h1, k _ H R' F' (.ref a) (.lst_of (Rd.of upd_same) (Reps.mono F'.le _ _ h4))⟩
  · cases hm
/-- what stands in one's own list -/
def own (i : Nat) : M (List D) := fun r => match r[i]? with
  | some (some (.own _ ds)) => some (ds, r)
  | _ => none
theorem own_some {r r' : Ro} {ds : List D} (h : own i r = some (ds, r')) : (∃ p, r[i]? = some (some (.own p ds))) ∧ r' = r := by
  unfold own at h
  split at h
  · cases h; exact ⟨⟨_, by assumption⟩, rfl⟩
  · cases h
theorem cn_own {K : PySem.W.Frag} {G H : Hp} {r : Ro} {σ : L2.St} {β : Type} {k : List D → M β} {P : β → Hp → Hp → Prop} (c : Cn Θ K G H r σ (bd (own i) k r) P) : ∃ p ds, r[i]? = some (some (.own p ds)) ∧ Cn Θ K G H r σ (k ds r) P := by
  obtain ⟨d, r', e, q⟩ := c
  obtain ⟨x, r1, e1, e2⟩ := bd_some e
  obtain ⟨⟨p, hi⟩, rfl⟩ := own_some e1
  exact ⟨p, x, hi, d, r', e2, q⟩
theorem cs_own {K : PySem.W.Frag} {G H : Hp} {r : Ro} {σ : L2.St} {k : List D → M Fl} {E : Ends} (c : CS Θ K G H r σ (bd (own i) k r) E) : ∃ p ds, r[i]? = some (some (.own p ds)) ∧ CS Θ K G H r σ (k ds r) E := by
  obtain ⟨d, r', e, q⟩ := c
  obtain ⟨x, r1, e1, e2⟩ := bd_some e
  obtain ⟨⟨p, hi⟩, rfl⟩ := own_some e1
  exact ⟨p, x, hi, d, r', e2, q⟩
/-- x[k] of one's own list -/
theorem se_ixO (ha : PE X a (tVar i)) (hb : SE Θ X b mb) (hs : PlainIx b) : SE Θ X (.Subscript a b pos) (bd (own i) fun _ => bd mb fun y => bd (own i) fun ds => of (ixD (.lst ds) y)) := by
  refine pe_imp (pe_ix ix_seq ha hb hs) fun σ H Q q => ?_
  obtain ⟨G, r0, R, c⟩ := q
  obtain ⟨p0, ds0, hi0, c⟩ := cn_own c
  obtain ⟨a, vs0, h1, h2, h3, h4⟩ := R.own i p0 ds0 hi0
  refine ⟨.ref a, h1, G, r0, R, (cn_bd c).mono fun y G2 H2 ⟨r2, R2, s2, c2⟩ vy ry => ?_⟩
  obtain ⟨p2, ds2, hi2, c2⟩ := cn_own c2
  obtain ⟨a', vs2, g1, g2, g3, g4⟩ := R2.own i p2 ds2 hi2
  rw [h1] at g1
  cases g1
  obtain ⟨z, hz, k⟩ := cn_of R2 c2
  cases y with
  | int n =>
    obtain rfl := ry.int_inv
    obtain ⟨v, hv, rv⟩ := g4.atI (show L2.atI ds2 n = some z from hz)
    exact .inl ⟨a, vs2, n, v, rfl, rfl, SqL.of g2, hv, k G2 H2 (Ext.refl _ _) v rv⟩
  | _ => cases hz
/-- len(x), list(x), a slice, truth of one's own list -/
theorem se_lenO {x : Str} {p : Pos} (ha : PE X a (tVar i)) (hg : Gl X x) (hm : X.mg x = none) (hv : bootBuiltins x = some (.builtin "len")) (hn : x ≠ "__name__" := by decide) (hdb : (x == ("__debug__" : Str)) = false := by decide)
    (he : starEach [a] X.env = (false, eval a X.env) :: starEach [] X.env := by rfl) (hpl : (backTo pos (starEach [] X.env)).any (·.1) = false := by rfl) : SE Θ X (.Call (.Name x p) [a] [] pos) (bd (own i) fun ds => rt (.int ds.length)) := by
  refine pe_imp (pe_callB call_len hg hm hv (pa_cons ha pa_nil he) hn hdb he hpl) fun σ H Q q => ?_
  obtain ⟨G, r0, R, c⟩ := q
  obtain ⟨p0, ds0, hi0, c⟩ := cn_own c
  obtain ⟨a, vs0, h1, h2, h3, h4⟩ := R.own i p0 ds0 hi0
  exact ⟨.ref a, h1, _, _, rfl, .inl ⟨vs0, SqL.of h2, rfl⟩, by rw [h4.length]; exact cn_rt R c G H (Ext.refl _ _) _ .int_of⟩
theorem se_listO {x : Str} {p : Pos} (ha : PE X a (tVar i)) (hg : Gl X x) (hm : X.mg x = none) (hv : bootBuiltins x = some (.type "list")) (hn : x ≠ "__name__" := by decide) (hdb : (x == ("__debug__" : Str)) = false := by decide)
    (he : starEach [a] X.env = (false, eval a X.env) :: starEach [] X.env := by rfl) (hpl : (backTo pos (starEach [] X.env)).any (·.1) = false := by rfl) : SE Θ X (.Call (.Name x p) [a] [] pos) (bd (own i) fun ds => rt (.lst ds)) := by
  refine pe_imp (pe_callTy call_list_of hg hm hv (pa_cons ha pa_nil he) hn hdb he hpl) fun σ H Q q => ?_
  obtain ⟨G, r0, R, c⟩ := q
  obtain ⟨p0, ds0, hi0, c⟩ := cn_own c
  obtain ⟨a, vs0, h1, h2, h3, h4⟩ := R.own i p0 ds0 hi0
  exact ⟨.ref a, h1, _, _, rfl, .inl (SqL.of h2), fin_lst (X := X) R.sub (fun G' H' v ex rv => cn_rt R c G' H' ex v rv) h4⟩
theorem se_tupleO {x : Str} {p : Pos} (ha : PE X a (tVar i)) (hg : Gl X x) (hm : X.mg x = none) (hv : bootBuiltins x = some (.type "tuple")) (hn : x ≠ "__name__" := by decide) (hdb : (x == ("__debug__" : Str)) = false := by decide)
    (he : starEach [a] X.env = (false, eval a X.env) :: starEach [] X.env := by rfl) (hpl : (backTo pos (starEach [] X.env)).any (·.1) = false := by rfl) : SE Θ X (.Call (.Name x p) [a] [] pos) (bd (own i) fun ds => rt (.tup ds)) := by
  refine pe_imp (pe_callTy call_tuple_of hg hm hv (pa_cons ha pa_nil he) hn hdb he hpl) fun σ H Q q => ?_
  obtain ⟨G, r0, R, c⟩ := q
  obtain ⟨p0, ds0, hi0, c⟩ := cn_own c
  obtain ⟨a, vs0, h1, h2, h3, h4⟩ := R.own i p0 ds0 hi0
  exact ⟨.ref a, h1, _, _, rfl, .inl ⟨SqL.of h2, fin_tup (X := X) R.sub (fun G' H' v ex rv => cn_rt R c G' H' ex v rv) h4⟩⟩
theorem st_truO (ha : PE X a (tVar i)) (he : ∀ whole, isTrue a X.env whole = (do let v ← whole; standAt a.pos; holding [v] (truthy v)) := by intro _; rfl) : STs Θ X a (bd (own i) fun ds => rt (!ds.isEmpty)) :=
  pt_imp (pt_truth ha he) fun σ H Q q => by
    obtain ⟨G, r0, R, c⟩ := q
    obtain ⟨p0, ds0, hi0, c⟩ := cn_own c
    obtain ⟨a, vs0, h1, h2, h3, h4⟩ := R.own i p0 ds0 hi0
    exact ⟨.ref a, h1, _, .inl ⟨vs0, SqL.of h2, reps_empty h4⟩, cn_rt R c G H (Ext.refl _ _)⟩
/-- x.pop() -/
def popM (i : Nat) : M D := fun r => match r[i]? with
  | some (some (.own p ds)) => match ds.getLast? with
    | some d => some (d, r.set i (some (.own p ds.dropLast)))
    | none => none
  | _ => none
theorem Reps.last {K : PySem.W.Frag} {G : Hp} {ds : List D} {vs : List V} {d : D} (r : Reps K G ds vs) (h : ds.getLast? = some d) : ∃ v, vs[vs.length - 1]? = some v ∧ Rep K G d v ∧ Reps K G ds.dropLast vs.dropLast := by
  rw [List.getLast?_eq_getElem?] at h
  obtain ⟨v, h1, h2⟩ := r.get h
  rw [← r.length] at h1
  refine ⟨v, h1, h2, ?_⟩
  rw [List.dropLast_eq_take, List.dropLast_eq_take, r.length]
  exact r.take _
theorem se_pop {apos : Pos} (ho : PE X a (tVar i)) (hbase : attributeBase a "pop" X.env (eval a X.env) = eval a X.env := by rfl) (hline : (apos.endLine == pos.line) = true := by rfl) : SE Θ X (.Call (.Attribute a "pop" apos) [] [] pos) (popM i) := by
  refine pe_imp (pe_bm0 PySem.F.plainAttrs_list PySem.F.slot_list_pop PySem.F.type_list_pop mt_pop ho hbase hline) fun σ H Q q => ?_
  obtain ⟨G, r0, R, d', r', hm, k⟩ := q
  unfold popM at hm
  split at hm
  · rename_i p ds hi
    split at hm
    · rename_i d hd
      cases hm
      obtain ⟨a, vs, h1, h2, h3, h4⟩ := R.own i _ _ hi
      obtain ⟨v, hv, rv, rs⟩ := h4.last hd
      obtain ⟨R', F'⟩ := chg_rel R hi h1 h2 h3 rs
      exact ⟨.ref a, h1, .inl ⟨rfl, _, SqL.of h2⟩, a, vs, v, rfl, rfl, h2, hv, k G _ R' F' v rv⟩
    · cases hm
  · cases hm

/-! ### statements -/
def nxt (f : Ro → Option Ro) : M Fl := fun r => match f r with
  | some r' => some (.nx, r')
  | none => none
theorem nxt_some {f : Ro → Option Ro} {r : Ro} {y : Fl × Ro} (h : nxt f r = some y) : ∃ r', f r = some r' ∧ y = (.nx, r') := by
  unfold nxt at h
  split at h
  · cases h; exact ⟨_, by assumption, rfl⟩
  · cases h
theorem cs_nxt {K : PySem.W.Frag} {G H : Hp} {r : Ro} {σ : L2.St} {f : Ro → Option Ro} {E : Ends} (c : CS Θ K G H r σ (nxt f r) E) : ∃ r', f r = some r' ∧ ∀ G' H' σ', Rel Θ K G' H' r' σ' → Fr G H r σ G' H' r' σ' → E.nx σ' H' := by
  obtain ⟨fl, r', e, k⟩ := c
  obtain ⟨r1, e1, e2⟩ := nxt_some e
  cases e2
  exact ⟨r', e1, fun G' H' σ' R F => k G' H' σ' R F⟩
/-- x.append(e) -/
def appM (i : Nat) (d : D) : Ro → Option Ro := fun r => match r[i]? with
  | some (some (.own p ds)) => if ds.length < sizeLine then some (r.set i (some (.own p (ds ++ [d])))) else none
  | _ => none
theorem ss_app {apos ppos : Pos} (ho : PE X a (tVar i)) (he : SE Θ X e m) (hbase : attributeBase a "append" X.env (eval a X.env) = eval a X.env := by rfl)
    (hfew : ((backTo ppos (starEach [e] X.env)).all (fun x => !x.1) && (backToKw ppos (keywordEach [] X.env)).all (fun x => x.1.isSome)
      && decide (([e] : List Expr).length + ([] : List Keyword).length + (if ([] : List Keyword).isEmpty then 0 else 1) < 30)) = true := by rfl)
    (hline : (apos.endLine == ppos.line) = true := by rfl) (hs : starEach [e] X.env = (false, eval e X.env) :: starEach [] X.env := by rfl) (hplain : (backTo ppos (starEach [] X.env)).any (·.1) = false := by rfl)
    (hsw : swapsWith (.Call (.Attribute a "append" apos) [e] [] ppos) none pos.line X.env = pure false := by rfl) :
    SS Θ X (.Expr (.Call (.Attribute a "append" apos) [e] [] ppos) pos) (bd (own i) fun _ => bd m fun d => nxt (appM i d)) := by
  refine ps_imp (ps_expr (pe_bm PySem.F.plainAttrs_list PySem.F.slot_list_append PySem.F.type_list_append mt_append ho (pa_cons he pa_nil hs) hbase hfew hline hs hplain) hsw) fun σ H E q => ?_
  obtain ⟨G, r0, R, c⟩ := q
  obtain ⟨p0, ds0, hi0, c⟩ := cs_own c
  obtain ⟨a, vs0, h1, h2, h3, h4⟩ := R.own i p0 ds0 hi0
  refine ⟨.ref a, h1, .inl ⟨rfl, _, SqL.of h2⟩, G, r0, R, (cs_bd c).mono fun d G2 H2 ⟨r2, R2, s2, c2⟩ v rv => ?_⟩
  obtain ⟨r3, e3, k⟩ := cs_nxt c2
  unfold appM at e3
  split at e3
  · rename_i p ds hi
    split at e3
    · rename_i hc
      cases e3
      obtain ⟨a', vs, g1, g2, g3, g4⟩ := R2.own i _ _ hi
      rw [h1] at g1
      cases g1
      obtain ⟨R', F'⟩ := chg_rel R2 hi h1 g2 g3 (g4.snoc rv)
      exact ⟨a, vs, v, rfl, rfl, g2, by rw [g4.length]; exact hc, k G2 _ σ R' F'⟩
    · cases e3
  · cases e3
/-- x.extend(e) -/
def extM (i : Nat) (d : D) : Ro → Option Ro := fun r => match r[i]?, d with
  | some (some (.own p ds)), .lst es => if ds.length + es.length ≤ sizeLine then some (r.set i (some (.own p (ds ++ es)))) else none
  | _, _ => none
end
end Pk

namespace Pk
open PySem PySem.Spec PyProof.Rows L2
section
variable {X : Cx} {e a b c : Expr} {es : List Expr} {pos : Pos} {ma mb mc m : M D} {i : Nat} {ml : M (List D)}
def rExtend' : V → List V → Hp → VK → Prop := fun x vs H Q => ∃ l b xs zs, x = .ref l ∧ vs = [.ref b] ∧ H l = some (.lst xs) ∧ Rd H b (.lst zs) ∧ xs.length + zs.length ≤ sizeLine ∧ Q .non (upd H l (.lst (xs ++ zs)))
theorem mt_extend' : MtM X "list.extend" rExtend' := by
  intro pins s σ H x vs v us Q I rx rv h
  obtain ⟨l, b, xs, zs, rfl, rfl, hH, hB, hz, q⟩ := h
  cases rx
  obtain ⟨u, rfl, ru⟩ := rv.one
  cases ru
  obtain ⟨z, its, n, r, hl, e⟩ := I.lstM hH
  obtain ⟨z2, its2, n2, r2, e2⟩ := hB.ok I.hok
  have hl2 := r2.length
  have hsz : its.toArray.size + its2.toArray.size ≤ sizeLine := by rw [List.size_toArray, List.size_toArray]; omega
  have hlong : ¬ (!its.toArray.isEmpty && Builtin.List.listTooLong (its.toArray.size + its2.toArray.size)) = true := by
    rw [notLongL hsz, Bool.and_false]
    exact Bool.false_ne_true
  refine call_meets F.slot_list_extend ⟨_, e, rfl⟩ F.entry_list_extend (F.args_list_extend_2 _ _)
    (AutoSeq1.list_extend_list_list_0 l its.toArray n b its2.toArray n2 hlong (by rw [List.size_toArray]; omega) (by omega)) ⟨e, e2, ?_⟩
  refine ⟨.non, _, I.lset (its' := its ++ its2) hH e (by simp) (r.append r2) ?_, rfl, q⟩
  rw [List.length_append]
  omega
theorem extM_some {d : D} {r r' : Ro} (h : extM i d r = some r') : ∃ p ds es, r[i]? = some (some (.own p ds)) ∧ d = .lst es ∧ ds.length + es.length ≤ sizeLine ∧ r' = r.set i (some (.own p (ds ++ es))) := by
  unfold extM at h
  split at h
  · rename_i p ds es hi
    split at h
    · cases h; exact ⟨p, ds, es, hi, rfl, by assumption, rfl⟩
    · cases h
  · cases h
theorem ss_ext {apos ppos : Pos} (ho : PE X a (tVar i)) (he : SE Θ X e m) (hbase : attributeBase a "extend" X.env (eval a X.env) = eval a X.env := by rfl)
    (hfew : ((backTo ppos (starEach [e] X.env)).all (fun x => !x.1) && (backToKw ppos (keywordEach [] X.env)).all (fun x => x.1.isSome)
      && decide (([e] : List Expr).length + ([] : List Keyword).length + (if ([] : List Keyword).isEmpty then 0 else 1) < 30)) = true := by rfl)
    (hline : (apos.endLine == ppos.line) = true := by rfl) (hs : starEach [e] X.env = (false, eval e X.env) :: starEach [] X.env := by rfl) (hplain : (backTo ppos (starEach [] X.env)).any (·.1) = false := by rfl)
    (hsw : swapsWith (.Call (.Attribute a "extend" apos) [e] [] ppos) none pos.line X.env = pure false := by rfl) :
    SS Θ X (.Expr (.Call (.Attribute a "extend" apos) [e] [] ppos) pos) (bd (own i) fun _ => bd m fun d => nxt (extM i d)) := by
  refine ps_imp (ps_expr (pe_bm PySem.F.plainAttrs_list PySem.F.slot_list_extend PySem.F.type_list_extend mt_extend' ho (pa_cons he pa_nil hs) hbase hfew hline hs hplain) hsw) fun σ H E q => ?_
  obtain ⟨G, r0, R, c⟩ := q
  obtain ⟨p0, ds0, hi0, c⟩ := cs_own c
  obtain ⟨a, vs0, h1, h2, h3, h4⟩ := R.own i p0 ds0 hi0
  refine ⟨.ref a, h1, .inl ⟨rfl, _, SqL.of h2⟩, G, r0, R, (cs_bd c).mono fun d G2 H2 ⟨r2, R2, s2, c2⟩ v rv => ?_⟩
  obtain ⟨r3, e3, k⟩ := cs_nxt c2
  obtain ⟨p, ds, es, hi, rfl, hc, rfl⟩ := extM_some e3
  obtain ⟨a', vs, g1, g2, g3, g4⟩ := R2.own i _ _ hi
  rw [h1] at g1
  cases g1
  obtain ⟨b, us, rfl, q, rs⟩ := rv.lst_inv
  obtain ⟨R', F'⟩ := chg_rel R2 hi h1 g2 g3 (g4.app rs)
  exact ⟨a, b, vs, us, rfl, rfl, g2, rd_mono R2.sub q, by rw [g4.length, rs.length]; exact hc, k G2 _ σ R' F'⟩

/-! ### targets -/
def rdG (Θ : List (Addr × Str)) (K : PySem.W.Frag) (f : D → Ro → Option Ro) : TG := fun v σ H Q => ∃ G r d r', Rel Θ K G H r σ ∧ Rep K G d v ∧ f d r = some r' ∧ ∀ σ', Rel Θ K G H r' σ' → Fr G H r σ G H r' σ' → Q σ' H
def rdGs (Θ : List (Addr × Str)) (K : PySem.W.Frag) (f : List D → Ro → Option Ro) : TGs := fun vs σ H Q => ∃ G r ds r', Rel Θ K G H r σ ∧ Reps K G ds vs ∧ f ds r = some r' ∧ ∀ σ', Rel Θ K G H r' σ' → Fr G H r σ G H r' σ' → Q σ' H
abbrev SG (Θ : List (Addr × Str)) (X : Cx) (tg : Expr) (f : D → Ro → Option Ro) : Prop := PG X tg (rdG Θ X.K f)
abbrev SGs (Θ : List (Addr × Str)) (X : Cx) (tgs : List Expr) (f : List D → Ro → Option Ro) : Prop := PGs X tgs (rdGs Θ X.K f)
theorem pg_imp {tg : Expr} {t t' : TG} (h : PG X tg t) (i : ∀ v σ H Q, t' v σ H Q → t v σ H Q) : PG X tg t' := ⟨fun pins s σ H v u Q I r q => h.run pins s σ H v u Q I r (i _ _ _ _ q)⟩
theorem pgs_imp {tgs : List Expr} {t t' : TGs} (h : PGs X tgs t) (i : ∀ v σ H Q, t' v σ H Q → t v σ H Q) : PGs X tgs t' := ⟨fun pins s σ H v u Q I r q => h.run pins s σ H v u Q I r (i _ _ _ _ q)⟩
theorem sg_name {tg : Expr} (h : PG X tg (gName i)) : SG Θ X tg (setD i) := pg_imp h fun v σ H Q q => by
  obtain ⟨G, r, d, r', R, rv, e, k⟩ := q
  obtain ⟨R', F'⟩ := setD_rel R e rv
  exact k _ R' F'
def unNil : List D → Ro → Option Ro
  | [], r => some r
  | _ :: _, _ => none
def unCons (f : D → Ro → Option Ro) (g : List D → Ro → Option Ro) : List D → Ro → Option Ro
  | d :: ds, r => match f d r with
    | some r1 => g ds r1
    | none => none
  | [], _ => none
theorem sgs_nil : SGs Θ X [] unNil := pgs_imp pgs_nil fun vs σ H Q q => by
  obtain ⟨G, r, ds, r', R, rv, e, k⟩ := q
  cases ds with
  | nil =>
    cases e
    exact ⟨rv.nil_inv, k σ R (Fr.refl _ _ _ _)⟩
  | cons d ds => cases e
theorem sgs_cons {tg : Expr} {tgs : List Expr} {f : D → Ro → Option Ro} {g : List D → Ro → Option Ro} (h1 : SG Θ X tg f) (h2 : SGs Θ X tgs g) (hs : (assignEach (tg :: tgs) X.env).map (·.2) = assign tg X.env :: (assignEach tgs X.env).map (·.2) := by rfl) :
    SGs Θ X (tg :: tgs) (unCons f g) := pgs_imp (pgs_cons h1 h2 hs) fun vs σ H Q q => by
  obtain ⟨G, r, ds, r', R, rv, e, k⟩ := q
  cases ds with
  | nil => cases e
  | cons d ds =>
    simp only [unCons] at e
    cases e1 : f d r with
    | none => rw [e1] at e; cases e
    | some r1 =>
      rw [e1] at e
      obtain ⟨v, us, rfl, q1, q2⟩ := rv.cons_inv
      refine ⟨v, us, rfl, G, r, d, r1, R, q1, e1, fun σ1 R1 F1 => ⟨G, r1, ds, r', R1, q2, e, fun σ2 R2 F2 => k σ2 R2 (F1.trans F2)⟩⟩
def tupF (n : Nat) (g : List D → Ro → Option Ro) : D → Ro → Option Ro
  | .tup ds, r => if ds.length = n then g ds r else none
  | _, _ => none
theorem sg_tup {tgs : List Expr} {k n : Nat} {g : List D → Ro → Option Ro} (hc : X.calm = true) (h : SGs Θ X tgs g) (hn : (assignEach tgs X.env).length = n := by rfl) (hst : (assignEach tgs X.env).findIdx? (·.1) = none := by rfl) : SG Θ X (.Tuple tgs k pos) (tupF n g) :=
  pg_imp (pg_tup hc h hn hst) fun v σ H Q q => by
    obtain ⟨G, r, d, r', R, rv, e, k⟩ := q
    cases d with
    | tup ds =>
      simp only [tupF] at e
      split at e
      · rename_i hl
        obtain ⟨a, vs, rfl, q, rs⟩ := rv.tup_inv
        exact ⟨a, vs, rfl, sqT_mono R.sub q, by rw [rs.length]; exact hl, G, r, ds, r', R, rs, e, k⟩
      · cases e
    | _ => cases e
theorem asg_read {f : D → Ro → Option Ro} {g : TG} (hg : ∀ v σ H Q, rdG Θ X.K f v σ H Q → g v σ H Q) {σ : L2.St} {H : Hp} {E : Ends} (q : rdS Θ X.K (bd m fun d => nxt (f d)) E σ H) : tAsg (rdE Θ X.K m) g E σ H := by
  obtain ⟨G, r0, R, c⟩ := q
  refine ⟨G, r0, R, (cs_bd c).mono fun d G2 H2 ⟨r2, R2, s2, c2⟩ v rv => ?_⟩
  obtain ⟨r3, e3, k⟩ := cs_nxt c2
  exact hg _ _ _ _ ⟨G2, r2, d, r3, R2, rv, e3, fun σ' R' F' => k G2 H2 σ' R' F'⟩
theorem nm_read (v : V) (σ : L2.St) (H : Hp) (Q : L2.St → Hp → Prop) (q : rdG Θ X.K (setD i) v σ H Q) : gName i v σ H Q := by
  obtain ⟨G, r, d, r', R, rv, e, k⟩ := q
  obtain ⟨R', F'⟩ := setD_rel R e rv
  exact k _ R' F'
theorem ss_set {x : Str} {pos' : Pos} (hN : X.N.Nodup) (hi : X.N[i]? = some x) (hx : Loc X.env.scope x) (he : SE Θ X e m) (hs : swapsWith e (some (.Name x pos')) pos.line X.env = pure false := by rfl) (hf : X.fn x = true ∨ X.env.scope.names.lookup x = some .local := by first | exact .inl rfl | exact .inr rfl | assumption) :
    SS Θ X (.Assign [.Name x pos'] e pos) (bd m fun d => nxt (setD i d)) := ps_imp (ps_set hN hi hx he hs hf) fun σ H E q => asg_read nm_read q
theorem ss_asg {tg : Expr} {f : D → Ro → Option Ro} (he : SE Θ X e m) (hg : SG Θ X tg f) (hs : swapsWithSole [tg] e pos.line X.env = pure false := by rfl) (hw : swappedStores [tg] e X.env = pure none := by rfl)
    (h1 : (assignEach [tg] X.env).map (·.2) = [assign tg X.env] := by rfl) : SS Θ X (.Assign [tg] e pos) (bd m fun d => nxt (f d)) := ps_imp (ps_asg he hg hs hw h1) fun σ H E q => asg_read (fun _ _ _ _ z => z) q
/-- x = [..]: a list of one's own -/
theorem ss_setO {x : Str} {pos' lpos : Pos} (hN : X.N.Nodup) (hi : X.N[i]? = some x) (hx : Loc X.env.scope x) (he : SA Θ X es ml) (hs : swapsWith (.List es lpos) (some (.Name x pos')) pos.line X.env = pure false := by rfl) (hf : X.fn x = true ∨ X.env.scope.names.lookup x = some .local := by first | exact .inl rfl | exact .inr rfl | assumption) :
    SS Θ X (.Assign [.Name x pos'] (.List es lpos) pos) (bd ml fun ds => if ds.length ≤ sizeLine then nxt (setO i ds) else fun _ => none) := ps_imp (ps_set hN hi hx (pe_lst he) hs hf) fun σ H E q => by
  obtain ⟨G, r0, R, c⟩ := q
  refine ⟨G, r0, R, (cs_bd c).mono fun ds G2 H2 ⟨r2, R2, s2, c2⟩ vs rs => ?_⟩
  split at c2
  · rename_i hc
    obtain ⟨r3, e3, k⟩ := cs_nxt c2
    refine ⟨by rw [rs.length]; exact hc, fun p hp => ?_⟩
    obtain ⟨R', F'⟩ := setO_rel R2 e3 rs hp
    exact k _ _ _ R' F'
  · obtain ⟨_, _, z, _⟩ := c2
    cases z
/-- x = list(e): a list of one's own -/
theorem ss_setOL {x y : Str} {pos' lpos p : Pos} (hN : X.N.Nodup) (hi : X.N[i]? = some x) (hx : Loc X.env.scope x) (he : SE Θ X e m) (hg : Gl X y) (hm : X.mg y = none) (hv : bootBuiltins y = some (.type "list")) (hn : y ≠ "__name__" := by decide) (hdb : (y == ("__debug__" : Str)) = false := by decide)
    (he1 : starEach [e] X.env = (false, eval e X.env) :: starEach [] X.env := by rfl) (hpl : (backTo lpos (starEach [] X.env)).any (·.1) = false := by rfl)
    (hs : swapsWith (.Call (.Name y p) [e] [] lpos) (some (.Name x pos')) pos.line X.env = pure false := by rfl) (hf : X.fn x = true ∨ X.env.scope.names.lookup x = some .local := by first | exact .inl rfl | exact .inr rfl | assumption) :
    SS Θ X (.Assign [.Name x pos'] (.Call (.Name y p) [e] [] lpos) pos) (bd m fun d => match d with | .lst ds => nxt (setO i ds) | .tup ds => nxt (setO i ds) | _ => fun _ => none) := ps_imp (ps_set hN hi hx (pe_callTy call_list_of hg hm hv (pa_cons he pa_nil he1) hn hdb he1 hpl) hs hf) fun σ H E q => by
  obtain ⟨G, r0, R, c⟩ := q
  refine ⟨G, r0, R, (cs_bd c).mono fun d G2 H2 ⟨r2, R2, s2, c2⟩ v rv => ?_⟩
  cases d with
  | lst ds =>
    obtain ⟨r3, e3, k⟩ := cs_nxt c2
    obtain ⟨a, vs, rfl, q, rs⟩ := rv.lst_inv
    refine ⟨a, vs, rfl, .inl (.inl (rd_mono R2.sub q)), fun p hp => ?_⟩
    obtain ⟨R', F'⟩ := setO_rel R2 e3 rs hp
    exact k _ _ _ R' F'
  | tup ds =>
    obtain ⟨r3, e3, k⟩ := cs_nxt c2
    obtain ⟨a, vs, rfl, q, rs⟩ := rv.tup_inv
    refine ⟨a, vs, rfl, .inr (sqT_mono R2.sub q), fun p hp => ?_⟩
    obtain ⟨R', F'⟩ := setO_rel R2 e3 rs hp
    exact k _ _ _ R' F'
  | _ =>
    obtain ⟨_, _, z, _⟩ := c2
    cases z
/-- x[k] = e of one's own list -/
def stM (i : Nat) (k d : D) : Ro → Option Ro := fun r => match r[i]?, k with
  | some (some (.own p ds)), .int n => match ixN ds.length n with
    | some j => some (r.set i (some (.own p (ds.set j d))))
    | none => none
  | _, _ => none
theorem stM_some {k d : D} {r r' : Ro} (h : stM i k d r = some r') : ∃ p ds n j, r[i]? = some (some (.own p ds)) ∧ k = .int n ∧ ixN ds.length n = some j ∧ r' = r.set i (some (.own p (ds.set j d))) := by
  unfold stM at h
  split at h
  · rename_i p ds n hi
    split at h
    · cases h; exact ⟨p, ds, n, _, hi, rfl, by assumption, rfl⟩
    · cases h
  · cases h
theorem ss_st {spos : Pos} (ho : PE X a (tVar i)) (hb : SE Θ X b mb) (he : SE Θ X e m)
    (ha : ∀ v, assign (.Subscript a b spos) X.env v = (do
      let ov ← holding [v] (eval a X.env)
      let iv ← holding [v, ov] (eval b X.env)
      standAt spos
      holding [v, ov, iv] (setItem ov iv v)
      release [v, ov, iv] []) := by intro _; rfl)
    (hs : swapsWithSole [.Subscript a b spos] e pos.line X.env = pure false := by rfl) (hw : swappedStores [.Subscript a b spos] e X.env = pure none := by rfl)
    (h1 : (assignEach [.Subscript a b spos] X.env).map (·.2) = [assign (.Subscript a b spos) X.env] := by rfl) :
    SS Θ X (.Assign [.Subscript a b spos] e pos) (bd m fun d => bd (own i) fun _ => bd mb fun k => nxt (stM i k d)) := by
  refine ps_imp (ps_asg he (pg_sub ho hb set_list ha) hs hw h1) fun σ H E q => ?_
  obtain ⟨G, r0, R, c⟩ := q
  refine ⟨G, r0, R, (cs_bd c).mono fun d G1 H1 ⟨r1, R1, s1, c1⟩ v rv => ?_⟩
  obtain ⟨p0, ds0, hi0, c1⟩ := cs_own c1
  obtain ⟨a, vs0, h1, h2, h3, h4⟩ := R1.own i p0 ds0 hi0
  refine ⟨.ref a, h1, G1, r1, R1, (cs_bd c1).mono fun k G2 H2 ⟨r2, R2, s2, c2⟩ vk rk => ?_⟩
  obtain ⟨r3, e3, kk⟩ := cs_nxt c2
  obtain ⟨p, ds, n, j, hi, rfl, hj, rfl⟩ := stM_some e3
  obtain ⟨a', vs, g1, g2, g3, g4⟩ := R2.own i _ _ hi
  rw [h1] at g1
  cases g1
  obtain rfl := rk.int_inv
  obtain ⟨R', F'⟩ := chg_rel R2 hi h1 g2 g3 (g4.set j (Rep.mono s2 _ _ rv))
  exact ⟨a, vs, n, j, rfl, rfl, g2, by rw [g4.length]; exact hj, kk G2 _ σ R' F'⟩
/-- x op= e -/
def augM (i : Nat) (m : M D) (g : D → D → Option D) : M Fl := bd (ld i) fun x => bd m fun y => bd (of (g x y)) fun z => nxt (setD i z)
theorem ss_aug {x : Str} {op : Operator} {g : D → D → Option D} {pos' : Pos} (hN : X.N.Nodup) (hi : X.N[i]? = some x) (hx : Loc X.env.scope x) (he : SE Θ X e m) (ho : OpG X (inplaceOp op) g) (hf : X.fn x = true ∨ X.env.scope.names.lookup x = some .local := by first | exact .inl rfl | exact .inr rfl | assumption) :
    SS Θ X (.AugAssign (.Name x pos') op e pos) (augM i m g) := by
  obtain ⟨t, o, hg⟩ := ho
  refine ps_imp (ps_aug (ti := t) hN hi hx he (fun pins s σ H x y v u Q I r1 r2 q => o pins s σ H x y v u Q I r1 r2 q) hf) fun σ H E q => ?_
  obtain ⟨G, r0, R, c⟩ := q
  obtain ⟨d0, r1, e1, c1⟩ := cs_bd c
  obtain ⟨hi0, rfl⟩ := ld_some e1
  obtain ⟨v, hv, rv⟩ := R.get i _ hi0
  obtain ⟨fl, r', e, q⟩ := c
  obtain ⟨x0, r1', e1', e2'⟩ := bd_some e
  rw [e1] at e1'
  cases e1'
  have c2 : CS Θ X.K G H r1 σ (bd m (fun y => bd (of (g d0 y)) fun z => nxt (setD i z)) r1) E := ⟨fl, r', e2', q⟩
  refine ⟨v, hv, G, r1, R, (cs_bd c2).mono fun y G2 H2 ⟨r2, R2, s2, c2⟩ vy ry => ?_⟩
  obtain ⟨z, r3, e3, q3⟩ := cs_bd c2
  obtain ⟨hz, rfl⟩ := of_some e3
  refine hg d0 y z hz G2 H2 v vy _ R2.sub (Rep.mono s2 _ _ rv) ry fun G3 H3 w ex rw' => ?_
  obtain ⟨r4, R4, s4, c4⟩ := q3 G3 H3 (ex.rel R2) (ex.fr _ _)
  obtain ⟨fl2, r5, e5, q5⟩ := c2
  obtain ⟨z6, r6, e6, e7⟩ := bd_some e5
  obtain ⟨hz6, rfl⟩ := of_some e6
  rw [hz] at hz6
  cases hz6
  obtain ⟨r8, e8, e9⟩ := nxt_some e7
  cases e9
  obtain ⟨R', F'⟩ := setD_rel (ex.rel R2) e8 rw'
  exact q5 G3 H3 _ R' ((ex.fr _ _).trans F')
theorem opg_iadd : OpG X (inplaceOp .Add) (onI (fun _ _ => true) fun i j => .int (i + j)) := opg_int0 iop_add fun _ _ _ => .int_of
theorem opg_isub : OpG X (inplaceOp .Sub) (onI (fun _ _ => true) fun i j => .int (i - j)) := opg_int0 iop_sub fun _ _ _ => .int_of

/-! ### blocks -/
def nilM : M Fl := fun r => some (.nx, r)
def seqM (m n : M Fl) : M Fl := fun r => match m r with
  | some (.nx, r1) => n r1
  | x => x
theorem sb_nil : SB Θ X [] nilM := pss_imp pss_nil fun σ H E q => by
  obtain ⟨G, r, R, f, r', e, k⟩ := q
  cases e
  exact k G H σ R (Fr.refl _ _ _ _)
theorem cs_seq {K : PySem.W.Frag} {G H : Hp} {r : Ro} {σ : L2.St} {m n : M Fl} {E : Ends} (c : CS Θ K G H r σ (seqM m n r) E) : CS Θ K G H r σ (m r) { E with nx := rdS Θ K n E } := by
  obtain ⟨f, r', e, k⟩ := c
  unfold seqM at e
  split at e
  · rename_i r1 e1
    exact ⟨.nx, r1, e1, fun G' H' σ' R F => ⟨G', r1, R, f, r', e, fun G2 H2 σ2 R2 F2 => (k G2 H2 σ2 R2 (F.trans F2)).shift F.mono⟩⟩
  · rename_i hx
    refine ⟨f, r', e, fun G' H' σ' R F => ?_⟩
    cases f with
    | nx => exact absurd e (hx r')
    | rt d => exact k G' H' σ' R F
    | bk => exact k G' H' σ' R F
    | ct => exact k G' H' σ' R F
    | rf ds => exact k G' H' σ' R F
theorem sb_cons {st : Stmt} {sts : List Stmt} {m n : M Fl} (h1 : SS Θ X st m) (h2 : SB Θ X sts n) : SB Θ X (st :: sts) (seqM m n) := pss_imp (pss_cons h1 h2) fun σ H E q => by
  obtain ⟨G, r, R, c⟩ := q
  exact ⟨G, r, R, cs_seq c⟩
theorem sb_one {st : Stmt} {m : M Fl} (h1 : SS Θ X st m) : SB Θ X [st] m := pss_one h1
theorem ss_pass : SS Θ X (.Pass pos) nilM := ps_imp ps_pass fun σ H E q => by
  obtain ⟨G, r, R, f, r', e, k⟩ := q
  cases e
  exact k G H σ R (Fr.refl _ _ _ _)
theorem ss_break : SS Θ X (.Break pos) (fun r => some (.bk, r)) := ps_imp ps_break fun σ H E q => by
  obtain ⟨G, r, R, f, r', e, k⟩ := q
  cases e
  exact k G H σ R (Fr.refl _ _ _ _)
theorem ss_cont : SS Θ X (.Continue pos) (fun r => some (.ct, r)) := ps_imp ps_continue fun σ H E q => by
  obtain ⟨G, r, R, f, r', e, k⟩ := q
  cases e
  exact k G H σ R (Fr.refl _ _ _ _)
def retM (m : M D) : M Fl := bd m fun d r => some (.rt d, r)
theorem ss_ret (he : SE Θ X e m) : SS Θ X (.Return (some e) pos) (retM m) := ps_imp (ps_ret he) fun σ H E q => by
  obtain ⟨G, r, R, c⟩ := q
  refine ⟨G, r, R, (cs_bd c).mono fun d G2 H2 ⟨r2, R2, s2, c2⟩ v rv => ?_⟩
  obtain ⟨f, r', e, k⟩ := c2
  cases e
  exact k G2 H2 σ R2 (Fr.refl _ _ _ _) v rv
theorem ss_retN : SS Θ X (.Return none pos) (fun r => some (.rt .non, r)) := ps_imp ps_retN fun σ H E q => by
  obtain ⟨G, r, R, f, r', e, k⟩ := q
  cases e
  exact k G H σ R (Fr.refl _ _ _ _) _ .non_of
theorem ss_if {t : M Bool} {x y : List Stmt} {mx my : M Fl} (hc : STs Θ X c t) (hx : SB Θ X x mx) (hy : SB Θ X y my) : SS Θ X (.If c x y pos) (ifM t mx my) := ps_imp (ps_if hc hx hy) fun σ H E q => by
  obtain ⟨G, r, R, c⟩ := q
  refine ⟨G, r, R, (cs_bd c).mono fun d G2 H2 ⟨r2, R2, s2, c2⟩ => ?_⟩
  cases d with
  | true => exact ⟨G2, r2, R2, c2⟩
  | false => exact ⟨G2, r2, R2, c2⟩
/-- an expression whose value is dropped -/
theorem ss_expr (he : SE Θ X e m) (hs : swapsWith e none pos.line X.env = pure false := by rfl) : SS Θ X (.Expr e pos) (bd m fun _ => nilM) := ps_imp (ps_expr he hs) fun σ H E q => by
  obtain ⟨G, r, R, c⟩ := q
  refine ⟨G, r, R, (cs_bd c).mono fun d G2 H2 ⟨r2, R2, s2, c2⟩ v rv => ?_⟩
  obtain ⟨f, r', e, k⟩ := c2
  cases e
  exact k G2 H2 σ R2 (Fr.refl _ _ _ _)

/-! ### loops -/
/-- a loop's body has come to its end: k is the next turn -/
def aft (k : M Fl) : Option (Fl × Ro) → Option (Fl × Ro)
  | some (.nx, r) => k r
  | some (.ct, r) => k r
  | some (.bk, r) => some (.nx, r)
  | x => x
theorem cs_aft {K : PySem.W.Frag} {G H : Hp} {r : Ro} {σ : L2.St} {o : Option (Fl × Ro)} {k : M Fl} {E : Ends} (c : CS Θ K G H r σ (aft k o) E) :
    CS Θ K G H r σ o { nx := fun σ' H' => ∃ G' r', Rel Θ K G' H' r' σ' ∧ Fr G H r σ G' H' r' σ' ∧ CS Θ K G' H' r' σ' (k r') E, ct := fun σ' H' => ∃ G' r', Rel Θ K G' H' r' σ' ∧ Fr G H r σ G' H' r' σ' ∧ CS Θ K G' H' r' σ' (k r') E, bk := E.nx, rt := E.rt } := by
  obtain ⟨f, r', e, q⟩ := c
  match o, e with
  | some (.nx, r1), e => exact ⟨.nx, r1, rfl, fun G' H' σ' R F => ⟨G', r1, R, F, f, r', e, fun G2 H2 σ2 R2 F2 => (q G2 H2 σ2 R2 (F.trans F2)).shift F.mono⟩⟩
  | some (.ct, r1), e => exact ⟨.ct, r1, rfl, fun G' H' σ' R F => ⟨G', r1, R, F, f, r', e, fun G2 H2 σ2 R2 F2 => (q G2 H2 σ2 R2 (F.trans F2)).shift F.mono⟩⟩
  | some (.bk, r1), e =>
    cases e
    exact ⟨.bk, _, rfl, fun G' H' σ' R F => q G' H' σ' R F⟩
  | some (.rt d, r1), e =>
    cases e
    exact ⟨.rt d, _, rfl, fun G' H' σ' R F => q G' H' σ' R F⟩
  | some (.rf d, r1), e =>
    cases e
    exact ⟨.rf d, _, rfl, fun G' H' σ' R F => q G' H' σ' R F⟩
def whileM (c : M Bool) (b : M Fl) : Nat → M Fl
  | 0 => fun _ => none
  | n + 1 => fun r => match c r with
    | some (true, r1) => aft (whileM c b n) (b r1)
    | some (false, r1) => some (.nx, r1)
    | none => none
theorem ss_while {t : M Bool} {body : List Stmt} {mb : M Fl} (n : Nat) (hp : PassesOwn (model X.prog X.w) X.A X.env X.xe) (hc : STs Θ X c t) (hb : SB Θ X body mb) : SS Θ X (.While c body [] pos) (whileM t mb n) :=
  ps_imp (ps_while hp hc hb) fun σ H E q => by
    obtain ⟨G, r, R, c⟩ := q
    refine ⟨fun m σ H => ∃ G r, Rel Θ X.K G H r σ ∧ CS Θ X.K G H r σ (whileM t mb m r) E, ⟨n, G, r, R, c⟩, ?_⟩
    rintro m σ1 H1 ⟨G1, r1, R1, c1⟩
    cases m with
    | zero =>
      obtain ⟨_, _, z, _⟩ := c1
      cases z
    | succ m =>
      refine ⟨G1, r1, R1, ?_⟩
      obtain ⟨f, r', e, k⟩ := c1
      simp only [whileM] at e
      split at e
      · rename_i r2 e2
        refine ⟨true, r2, e2, fun G2 H2 R2 F2 => ?_⟩
        dsimp only
        rw [if_pos rfl]
        have c3 : CS Θ X.K G2 H2 r2 σ1 (aft (whileM t mb m) (mb r2)) E := ⟨f, r', e, fun G3 H3 σ3 R3 F3 => (k G3 H3 σ3 R3 (F2.trans F3)).shift F2.mono⟩
        refine ⟨fun σ' H' => ∃ G' r', Rel Θ X.K G' H' r' σ' ∧ Fr G2 H2 r2 σ1 G' H' r' σ' ∧ CS Θ X.K G' H' r' σ' (whileM t mb m r') E, fun σ' H' ⟨G', r', R', _, c'⟩ => ⟨m, Nat.lt_succ_self m, G', r', R', c'⟩, G2, r2, R2, cs_aft c3⟩
      · rename_i r2 e2
        cases e
        refine ⟨false, _, e2, fun G2 H2 R2 F2 => ?_⟩
        dsimp only
        rw [if_neg Bool.false_ne_true]
        exact k G2 H2 σ1 R2 F2
      · cases e
def forM (f : D → Ro → Option Ro) (b : M Fl) : List D → M Fl
  | [] => fun r => some (.nx, r)
  | d :: ds => fun r => match f d r with
    | some r1 => aft (forM f b ds) (b r1)
    | none => none
/-- J walks ds, as long as C holds of the heap -/
def Wk (K : PySem.W.Frag) (J : It) (ds : List D) (G : Hp) (C : Hp → Prop) : Prop := ∀ G' H', Same G G' → Same G' H' → C H' → (∀ i, ds.length ≤ i → J.stop i H') ∧
  ∀ i d, ds[i]? = some d → J.go i H' ∧ ∀ x H2, J.yld i H' x H2 → ∃ G2, Ext G' H' G2 H2 ∧ Rep K G2 d x
def rdI (Θ : List (Addr × Str)) (K : PySem.W.Frag) (m : M (List D)) : TI := fun σ H R => ∃ G r, Rel Θ K G H r σ ∧ Cn Θ K G H r σ (m r) fun ds G' H' => ∀ J, Wk K J ds G' (fun _ => True) → R J H'
abbrev SI (Θ : List (Addr × Str)) (X : Cx) (tg iter : Expr) (m : M (List D)) : Prop := PI X tg iter (rdI Θ X.K m)
theorem pi_imp {tg iter : Expr} {t t' : TI} (h : PI X tg iter t) (i : ∀ σ H Q, t' σ H Q → t σ H Q) : PI X tg iter t' := ⟨fun pins s σ H Q I q => h.run pins s σ H Q I (i _ _ _ q)⟩
/-- the loop itself -/
theorem for_core {K : PySem.W.Frag} {J : It} {ds : List D} {f : D → Ro → Option Ro} {mb : M Fl} {G0 H0 : Hp} {r0 : Ro} {σ0 : L2.St} {E : Ends} {C : Hp → Prop} {P : Hp → Hp → Ro → L2.St → Prop}
    (hW : Wk K J ds G0 C) (hP : ∀ G H r σ G' H' r' σ', P G H r σ → Fr G H r σ G' H' r' σ' → P G' H' r' σ') (hC : ∀ G H r σ, P G H r σ → C H) (p0 : P G0 H0 r0 σ0)
    (R0 : Rel Θ K G0 H0 r0 σ0) (c0 : CS Θ K G0 H0 r0 σ0 (forM f mb ds r0) E) :
    ∃ W : Nat → Nat → L2.St → Hp → Prop, (∃ m, W 0 m σ0 H0) ∧ ∀ i m σ H, W i m σ H →
      (J.stop i H ∧ E.nx σ H) ∨ (J.go i H ∧ ∃ N : L2.St → Hp → Prop, (∀ σ' H', N σ' H' → ∃ m', m' < m ∧ W (i + 1) m' σ' H') ∧ ∀ x H', J.yld i H x H' → rdG Θ K f x σ H' fun σ2 H2 => rdS Θ K mb { E with nx := N, ct := N, bk := E.nx } σ2 H2) := by
  refine ⟨fun i m σ H => m = ds.length - i ∧ i ≤ ds.length ∧ ∃ G r, Rel Θ K G H r σ ∧ Same G0 G ∧ P G H r σ ∧ CS Θ K G H r σ (forM f mb (ds.drop i) r) E, ⟨ds.length, by simp, Nat.zero_le _, G0, r0, R0, Same.refl _, p0, by simpa using c0⟩, ?_⟩
  rintro i m σ H ⟨rfl, hi, G, r, R, s, p, c⟩
  obtain ⟨w1, w2⟩ := hW G H s R.sub (hC _ _ _ _ p)
  by_cases hlt : i < ds.length
  · have hd : ds[i]? = some ds[i] := List.getElem?_eq_getElem hlt
    obtain ⟨g, y⟩ := w2 i _ hd
    rw [List.drop_eq_getElem_cons hlt] at c
    obtain ⟨fl, r', e, k⟩ := c
    simp only [forM] at e
    split at e
    · rename_i r1 e1
      refine .inr ⟨g, fun σ' H' => ∃ G' r', Rel Θ K G' H' r' σ' ∧ Same G0 G' ∧ P G' H' r' σ' ∧ CS Θ K G' H' r' σ' (forM f mb (ds.drop (i + 1)) r') E, fun σ' H' ⟨G', r', R', s', p', c'⟩ => ⟨ds.length - (i + 1), by omega, rfl, hlt, G', r', R', s', p', c'⟩, fun x H1 hy => ?_⟩
      obtain ⟨G1, ex, rx⟩ := y x H1 hy
      refine ⟨G1, r, _, r1, ex.rel R, rx, e1, fun σ2 R2 F2 => ⟨G1, r1, R2, ?_⟩⟩
      have F1 := (ex.fr r σ).trans F2
      have c3 : CS Θ K G1 H1 r1 σ2 (aft (forM f mb (ds.drop (i + 1))) (mb r1)) E := ⟨fl, r', e, fun G3 H3 σ3 R3 F3 => (k G3 H3 σ3 R3 (F1.trans F3)).shift F1.mono⟩
      have p1 : P G1 H1 r1 σ2 := hP _ _ _ _ _ _ _ _ p F1
      obtain ⟨f4, r4, e4, k4⟩ := cs_aft c3
      refine ⟨f4, r4, e4, fun G5 H5 σ5 R5 F5 => ?_⟩
      have q := k4 G5 H5 σ5 R5 F5
      cases f4 with
      | nx =>
        obtain ⟨G6, r6, R6, F6, c6⟩ := q
        exact ⟨G6, r6, R6, s.trans (F1.trans F6).le, hP _ _ _ _ _ _ _ _ p1 F6, c6⟩
      | ct =>
        obtain ⟨G6, r6, R6, F6, c6⟩ := q
        exact ⟨G6, r6, R6, s.trans (F1.trans F6).le, hP _ _ _ _ _ _ _ _ p1 F6, c6⟩
      | bk => exact q
      | rt d => exact q
      | rf d => exact q
    · cases e
  · have e : i = ds.length := by omega
    subst e
    rw [List.drop_length] at c
    obtain ⟨fl, r', e, k⟩ := c
    cases e
    exact .inl ⟨w1 _ (Nat.le_refl _), k G H σ R (Fr.refl _ _ _ _)⟩
theorem ss_for {tg iter : Expr} {body : List Stmt} {mi : M (List D)} {f : D → Ro → Option Ro} {mb : M Fl} (hp : PassesOwn (model X.prog X.w) X.A X.env X.xe) (hc : X.calm = true) (hi : SI Θ X tg iter mi) (hg : SG Θ X tg f) (hb : SB Θ X body mb)
    (hs : ∀ x, foldedSetIterable iter X.env x = pure x := by intro _; rfl) : SS Θ X (.For tg iter body [] pos) (bd mi fun ds => forM f mb ds) :=
  ps_imp (ps_for hp hc hi hg hb hs) fun σ H E q => by
    obtain ⟨G, r, R, c⟩ := q
    refine ⟨G, r, R, (cs_bd c).mono fun ds G1 H1 ⟨r1, R1, s1, c1⟩ J hW => ?_⟩
    exact for_core (C := fun _ => True) (P := fun _ _ _ _ => True) hW (fun _ _ _ _ _ _ _ _ _ _ => trivial) (fun _ _ _ _ _ => trivial) trivial R1 c1
end
end Pk

namespace Pk
open PySem PySem.Spec PyProof.Rows L2
section
variable {X : Cx} {e a b c tg iter : Expr} {es : List Expr} {pos : Pos} {ma mb mc m : M D} {i : Nat} {ml : M (List D)}
/-! ### what is walked -/
def seqOf : D → Option (List D)
  | .lst ds => some ds
  | .ro ds => some ds
  | .tup ds => some ds
  | .str z => some (z.cps.toList.map fun c => .str ⟨#[c]⟩)
  | _ => none
theorem wk_list {K : PySem.W.Frag} {G : Hp} {a : Addr} {ds : List D} {vs : List V} (q : Rd G a (.lst vs)) (rs : Reps K G ds vs) : Wk K (Itl K a) ds G (fun _ => True) := fun G' H' g s _ => by
  have q' : SqL K H' a vs := .inl (rd_mono (g.trans s) q)
  refine ⟨fun i hi => ⟨vs, q', by rw [rs.length]; exact hi⟩, fun i d hd => ?_⟩
  obtain ⟨v, hv, rv⟩ := rs.get hd
  refine ⟨⟨vs, v, q', hv⟩, fun x H2 y => ?_⟩
  obtain ⟨rfl, y⟩ := y
  have := y vs q'
  rw [hv] at this
  cases this
  exact ⟨G', Ext.refl _ _, Rep.mono g _ _ rv⟩
theorem wk_ro {K : PySem.W.Frag} {G : Hp} {a : Addr} {ds : List D} {vs : List V} (q : SqL K G a vs) (rs : Reps K G ds vs) : Wk K (Itl K a) ds G (fun _ => True) := fun G' H' g s _ => by
  have q' : SqL K H' a vs := sqL_mono (g.trans s) q
  refine ⟨fun i hi => ⟨vs, q', by rw [rs.length]; exact hi⟩, fun i d hd => ?_⟩
  obtain ⟨v, hv, rv⟩ := rs.get hd
  refine ⟨⟨vs, v, q', hv⟩, fun x H2 y => ?_⟩
  obtain ⟨rfl, y⟩ := y
  have := y vs q'
  rw [hv] at this
  cases this
  exact ⟨G', Ext.refl _ _, Rep.mono g _ _ rv⟩
theorem wk_tup {K : PySem.W.Frag} {G : Hp} {a : Addr} {ds : List D} {vs : List V} (q : SqT K G a vs) (rs : Reps K G ds vs) : Wk K (Itt K a) ds G (fun _ => True) := fun G' H' g s _ => by
  have q' : SqT K H' a vs := sqT_mono (g.trans s) q
  refine ⟨fun i hi => ⟨vs, q', by rw [rs.length]; exact hi⟩, fun i d hd => ?_⟩
  obtain ⟨v, hv, rv⟩ := rs.get hd
  refine ⟨⟨vs, v, q', hv⟩, fun x H2 y => ?_⟩
  obtain ⟨rfl, y⟩ := y
  have := y vs q'
  rw [hv] at this
  cases this
  exact ⟨G', Ext.refl _ _, Rep.mono g _ _ rv⟩
theorem wk_str {K : PySem.W.Frag} {G : Hp} {z : Str} : Wk K (Its z) (z.cps.toList.map fun c => .str ⟨#[c]⟩) G (fun _ => True) := fun G' H' g s _ => by
  refine ⟨fun i hi => by show z.cps.size ≤ i; simpa using hi, fun i d hd => ?_⟩
  rw [List.getElem?_map] at hd
  cases e : z.cps.toList[i]? with
  | none => rw [e] at hd; cases hd
  | some c =>
    rw [e] at hd
    cases hd
    have e' : z.cps[i]? = some c := by rw [← Array.getElem?_toList]; exact e
    have hl : i < z.cps.size := (Array.getElem?_eq_some_iff.mp e').1
    refine ⟨hl, fun x H2 y => ?_⟩
    obtain ⟨rfl, c', h1, rfl⟩ := y
    rw [e'] at h1
    cases h1
    exact ⟨G', Ext.refl _ _, .str_of⟩
theorem pi_or {t t' : TI} (h : PI X tg iter t) (h' : PI X tg iter t') : PI X tg iter (fun σ H R => t σ H R ∨ t' σ H R) := ⟨fun pins s σ H R I q => by
  rcases q with q | q
  · exact h.run pins s σ H R I q
  · exact h'.run pins s σ H R I q⟩
theorem si_val (he : SE Θ X iter m) : SI Θ X tg iter (bd m fun d => of (seqOf d)) := pi_imp (pi_or (pi_list he) (pi_or (pi_tup he) (pi_str he))) fun σ H Q q => by
  obtain ⟨G, r, R, ds, r', e, k⟩ := q
  obtain ⟨d, r1, e1, e2⟩ := bd_some e
  obtain ⟨e3, rfl⟩ := of_some e2
  cases d with
  | lst ds' =>
    obtain rfl : ds' = ds := Option.some.inj e3
    refine .inl ⟨G, r, R, _, _, e1, fun G1 H1 R1 F1 v rv => ?_⟩
    obtain ⟨a, vs, rfl, q, rs⟩ := rv.lst_inv
    exact ⟨a, rfl, ⟨vs, .inl (rd_mono R1.sub q)⟩, k G1 H1 R1 F1 _ (wk_list q rs)⟩
  | ro ds' =>
    obtain rfl : ds' = ds := Option.some.inj e3
    refine .inl ⟨G, r, R, _, _, e1, fun G1 H1 R1 F1 v rv => ?_⟩
    obtain ⟨a, vs, rfl, q, rs⟩ := rv.ro_inv
    exact ⟨a, rfl, ⟨vs, sqL_mono R1.sub q⟩, k G1 H1 R1 F1 _ (wk_ro q rs)⟩
  | tup ds' =>
    obtain rfl : ds' = ds := Option.some.inj e3
    refine .inr (.inl ⟨G, r, R, _, _, e1, fun G1 H1 R1 F1 v rv => ?_⟩)
    obtain ⟨a, vs, rfl, q, rs⟩ := rv.tup_inv
    exact ⟨a, rfl, ⟨vs, sqT_mono R1.sub q⟩, k G1 H1 R1 F1 _ (wk_tup q rs)⟩
  | str z =>
    obtain rfl := Option.some.inj e3
    refine .inr (.inr ⟨G, r, R, _, _, e1, fun G1 H1 R1 F1 v rv => ?_⟩)
    exact ⟨z, rv.str_inv, k G1 H1 R1 F1 _ wk_str⟩
  | _ => cases e3
def rng (lo : Int) (n : Nat) : List D := (List.range n).map fun (k : Nat) => .int (lo + (k : Int))
theorem wk_rng {K : PySem.W.Frag} {G : Hp} {lo : Int} {n : Nat} : Wk K (Itr lo n) (rng lo n) G (fun _ => True) := fun G' H' g s _ => by
  refine ⟨fun i hi => by show n ≤ i; simpa [rng] using hi, fun i d hd => ?_⟩
  unfold rng at hd
  by_cases hl : i < n
  · rw [List.getElem?_map, List.getElem?_range hl] at hd
    cases hd
    refine ⟨hl, fun x H2 y => ?_⟩
    obtain ⟨rfl, rfl⟩ := y
    exact ⟨G', Ext.refl _ _, .int_of⟩
  · rw [List.getElem?_eq_none (by simpa using hl)] at hd
    cases hd
def rng1 : List D → Option (List D)
  | [.int j] => if -(2 ^ 62) ≤ j ∧ j < 2 ^ 62 then some (rng 0 j.toNat) else none
  | _ => none
def rng2 : List D → Option (List D)
  | [.int i, .int j] => if (-(2 ^ 62) ≤ i ∧ i < 2 ^ 62) ∧ -(2 ^ 62) ≤ j ∧ j < 2 ^ 62 then some (rng i (j - i).toNat) else none
  | _ => none
theorem rng1_some {ds zs : List D} (h : rng1 ds = some zs) : ∃ j : Int, ds = [.int j] ∧ (-(2 ^ 62) ≤ j ∧ j < 2 ^ 62) ∧ zs = rng 0 j.toNat := by
  unfold rng1 at h
  split at h
  · split at h
    · cases h; exact ⟨_, rfl, by assumption, rfl⟩
    · cases h
  · cases h
theorem rng2_some {ds zs : List D} (h : rng2 ds = some zs) : ∃ i j : Int, ds = [.int i, .int j] ∧ ((-(2 ^ 62) ≤ i ∧ i < 2 ^ 62) ∧ -(2 ^ 62) ≤ j ∧ j < 2 ^ 62) ∧ zs = rng i (j - i).toNat := by
  unfold rng2 at h
  split at h
  · split at h
    · cases h; exact ⟨_, _, rfl, by assumption, rfl⟩
    · cases h
  · cases h
theorem si_range1 {p : Pos} (hg : Gl X "range") (hm : X.mg "range" = none) (ha : SA Θ X [a] ml) (hs : starEach [a] X.env = [(false, eval a X.env)] := by rfl) : SI Θ X tg (.Call (.Name "range" p) [a] [] pos) (bd ml fun ds => of (rng1 ds)) :=
  pi_imp (pi_range1 hg hm ha hs) fun σ H Q q => by
    obtain ⟨G, r, R, c⟩ := q
    refine ⟨G, r, R, (cn_bd c).mono fun xs G1 H1 ⟨r1, R1, s1, c1⟩ vs rs => ?_⟩
    obtain ⟨z, hz, k⟩ := cn_of R1 c1
    obtain ⟨j, rfl, hj, rfl⟩ := rng1_some hz
    obtain ⟨v, rfl, r⟩ := rs.one
    obtain rfl := r.int_inv
    exact ⟨j, rfl, hj.1, hj.2, k G1 H1 (Ext.refl _ _) _ wk_rng⟩
theorem si_range2 {p : Pos} (hg : Gl X "range") (hm : X.mg "range" = none) (ha : SA Θ X [a, b] ml) (hs : starEach [a, b] X.env = [(false, eval a X.env), (false, eval b X.env)] := by rfl) (hs2 : starEach [b] X.env = [(false, eval b X.env)] := by rfl) : SI Θ X tg (.Call (.Name "range" p) [a, b] [] pos) (bd ml fun ds => of (rng2 ds)) :=
  pi_imp (pi_range2 hg hm ha hs hs2) fun σ H Q q => by
    obtain ⟨G, r, R, c⟩ := q
    refine ⟨G, r, R, (cn_bd c).mono fun xs G1 H1 ⟨r1, R1, s1, c1⟩ vs rs => ?_⟩
    obtain ⟨z, hz, k⟩ := cn_of R1 c1
    obtain ⟨i, j, rfl, hj, rfl⟩ := rng2_some hz
    obtain ⟨v, u, rfl, r, r'⟩ := rs.two
    obtain rfl := r.int_inv
    obtain rfl := r'.int_inv
    exact ⟨i, j, rfl, ⟨hj.1.1, hj.1.2, hj.2.1, hj.2.2⟩, k G1 H1 (Ext.refl _ _) _ wk_rng⟩
def revOf : D → Option (List D)
  | .lst ds => some ds.reverse
  | .tup ds => some ds.reverse
  | _ => none
theorem wk_revL {K : PySem.W.Frag} {G : Hp} {a : Addr} {ds : List D} {vs : List V} (q : Rd G a (.lst vs)) (rs : Reps K G ds vs) : Wk K (Itv K a vs.length) ds.reverse G (fun _ => True) := fun G' H' g s _ => by
  have q' : SqL K H' a vs := .inl (rd_mono (g.trans s) q)
  refine ⟨fun i hi => by rw [List.length_reverse, ← rs.length] at hi; exact hi, fun i d hd => ?_⟩
  have hl : i < ds.length := by
    have := (List.getElem?_eq_some_iff.mp hd).1
    rwa [List.length_reverse] at this
  rw [List.getElem?_reverse hl, ← rs.length] at hd
  obtain ⟨v, hv, rv⟩ := rs.get hd
  rw [← rs.length] at hl
  refine ⟨⟨hl, vs, v, q', hv⟩, fun x H2 y => ?_⟩
  obtain ⟨rfl, y⟩ := y
  have := y vs q'
  rw [hv] at this
  cases this
  exact ⟨G', Ext.refl _ _, Rep.mono g _ _ rv⟩
theorem wk_revT {K : PySem.W.Frag} {G : Hp} {a : Addr} {ds : List D} {vs : List V} (q : SqT K G a vs) (rs : Reps K G ds vs) : Wk K (RT.ItvT K a vs.length) ds.reverse G (fun _ => True) := fun G' H' g s _ => by
  have q' : SqT K H' a vs := sqT_mono (g.trans s) q
  refine ⟨fun i hi => by rw [List.length_reverse, ← rs.length] at hi; exact hi, fun i d hd => ?_⟩
  have hl : i < ds.length := by
    have := (List.getElem?_eq_some_iff.mp hd).1
    rwa [List.length_reverse] at this
  rw [List.getElem?_reverse hl, ← rs.length] at hd
  obtain ⟨v, hv, rv⟩ := rs.get hd
  rw [← rs.length] at hl
  refine ⟨⟨hl, vs, v, q', hv⟩, fun x H2 y => ?_⟩
  obtain ⟨rfl, y⟩ := y
  have := y vs q'
  rw [hv] at this
  cases this
  exact ⟨G', Ext.refl _ _, Rep.mono g _ _ rv⟩
theorem si_rev {p : Pos} (hg : Gl X "reversed") (hm : X.mg "reversed" = none) (he : SE Θ X e m) (hs : starEach [e] X.env = (false, eval e X.env) :: starEach [] X.env := by rfl) : SI Θ X tg (.Call (.Name "reversed" p) [e] [] pos) (bd m fun d => of (revOf d)) :=
  pi_imp (RT.pi_revA hg hm he hs) fun σ H Q q => by
    obtain ⟨G, r, R, c⟩ := q
    refine ⟨G, r, R, (cn_bd c).mono fun d G1 H1 ⟨r1, R1, s1, c1⟩ v rv => ?_⟩
    obtain ⟨z, hz, k⟩ := cn_of R1 c1
    cases d with
    | lst ds =>
      cases hz
      obtain ⟨a, vs, rfl, q, rs⟩ := rv.lst_inv
      exact ⟨a, vs, rfl, .inl ⟨.inl (rd_mono R1.sub q), k G1 H1 (Ext.refl _ _) _ (wk_revL q rs)⟩⟩
    | tup ds =>
      cases hz
      obtain ⟨a, vs, rfl, q, rs⟩ := rv.tup_inv
      exact ⟨a, vs, rfl, .inr ⟨sqT_mono R1.sub q, k G1 H1 (Ext.refl _ _) _ (wk_revT q rs)⟩⟩
    | _ => cases hz

/-! ### the names of a comprehension -/
def wipeR (r : Ro) : List Nat → Ro
  | [] => r
  | v :: vs => (wipeR r vs).set v none
/-- the names' slots as they were -/
def back (r r' : Ro) : List Nat → Ro
  | [] => r'
  | v :: vs => (back r r' vs).set v (r[v]?.getD none)
def okW (r : Ro) (vs : List Nat) : Bool := vs.all fun v => match r[v]? with
  | some none => true
  | some (some (.d _)) => true
  | _ => false
theorem wipeR_get {r : Ro} {j : Nat} {x : S} : ∀ {vs : List Nat}, (wipeR r vs)[j]? = some (some x) → r[j]? = some (some x) ∧ j ∉ vs
  | [], h => ⟨h, by simp⟩
  | v :: vs, h => by
    rcases set_get (show ((wipeR r vs).set v none)[j]? = some (some x) from h) with ⟨_, e⟩ | ⟨n, e⟩
    · cases e
    · obtain ⟨h1, h2⟩ := wipeR_get e
      exact ⟨h1, by simp only [List.mem_cons, not_or]; exact ⟨n, h2⟩⟩
theorem wipeR_out {r : Ro} {j : Nat} : ∀ {vs : List Nat}, j ∉ vs → (wipeR r vs)[j]? = r[j]?
  | [], _ => rfl
  | v :: vs, h => by
    simp only [List.mem_cons, not_or] at h
    show ((wipeR r vs).set v none)[j]? = _
    rw [List.getElem?_set_ne (fun e => h.1 e.symm)]
    exact wipeR_out h.2
theorem wipeR_length (r : Ro) : ∀ vs : List Nat, (wipeR r vs).length = r.length
  | [] => rfl
  | v :: vs => by show ((wipeR r vs).set v none).length = _; rw [List.length_set, wipeR_length r vs]
theorem back_length (r r' : Ro) : ∀ vs : List Nat, (back r r' vs).length = r'.length
  | [] => rfl
  | v :: vs => by show ((back r r' vs).set v _).length = _; rw [List.length_set, back_length r r' vs]
theorem back_in {r r' : Ro} {j : Nat} (hl : j < r'.length) (hr : j < r.length) : ∀ {vs : List Nat}, j ∈ vs → (back r r' vs)[j]? = r[j]?
  | v :: vs, h => by
    show ((back r r' vs).set v (r[v]?.getD none))[j]? = _
    by_cases e : v = j
    · subst e
      rw [List.getElem?_set_self (by rw [back_length]; exact hl), List.getElem?_eq_getElem hr]
      rfl
    · rw [List.getElem?_set_ne e]
      rcases List.mem_cons.mp h with z | z
      · exact absurd z.symm e
      · exact back_in hl hr z
theorem back_out {r r' : Ro} {j : Nat} : ∀ {vs : List Nat}, j ∉ vs → (back r r' vs)[j]? = r'[j]?
  | [], _ => rfl
  | v :: vs, h => by
    simp only [List.mem_cons, not_or] at h
    show ((back r r' vs).set v _)[j]? = _
    rw [List.getElem?_set_ne (fun e => h.1 e.symm)]
    exact back_out h.2
theorem wipe_outS {σ : L2.St} {j : Nat} : ∀ {vs : List Nat}, j ∉ vs → (wipe σ vs)[j]? = σ[j]?
  | [], _ => rfl
  | v :: vs, h => by
    simp only [List.mem_cons, not_or] at h
    show ((wipe σ vs).set v none)[j]? = _
    rw [List.getElem?_set_ne (fun e => h.1 e.symm)]
    exact wipe_outS h.2
theorem wipe_inS {σ : L2.St} {j : Nat} (hl : j < σ.length) : ∀ {vs : List Nat}, j ∈ vs → (wipe σ vs)[j]? = some none
  | v :: vs, h => by
    show ((wipe σ vs).set v none)[j]? = _
    by_cases e : v = j
    · subst e
      rw [List.getElem?_set_self (by rw [wipe_length]; exact hl)]
    · rw [List.getElem?_set_ne e]
      rcases List.mem_cons.mp h with z | z
      · exact absurd z.symm e
      · exact wipe_inS hl z
theorem wipe_ext {σ σ' : L2.St} {vs : List Nat} (hl : σ.length = σ'.length) (h : ∀ j, j ∉ vs → σ[j]? = σ'[j]?) : wipe σ vs = wipe σ' vs := by
  apply List.ext_getElem?
  intro j
  by_cases hj : j ∈ vs
  · by_cases hs : j < σ.length
    · rw [wipe_inS hs hj, wipe_inS (by rw [← hl]; exact hs) hj]
    · rw [List.getElem?_eq_none (by rw [wipe_length]; omega), List.getElem?_eq_none (by rw [wipe_length]; omega)]
  · rw [wipe_outS hj, wipe_outS hj, h j hj]
theorem wipe_set {σ : L2.St} {i : Nat} {v : Option V} {vs : List Nat} (h : i ∈ vs) : wipe (σ.set i v) vs = wipe σ vs :=
  wipe_ext (by rw [List.length_set]) fun j hj => List.getElem?_set_ne (fun e => hj (by rw [← e]; exact h))
theorem wipe_wipe {σ : L2.St} {vs : List Nat} : wipe (wipe σ vs) vs = wipe σ vs := wipe_ext (wipe_length _ _) fun j hj => wipe_outS hj
variable {K : PySem.W.Frag} {G H : Hp} {r : Ro} {σ : L2.St}
/-- an own slot of a wiped row, of the row -/
theorem wipe_owned {vs : List Nat} {b : Addr} (h : Owned (wipeR r vs) (wipe σ vs) b) : Owned r σ b := by
  obtain ⟨j, p, ds, h1, h2⟩ := h
  obtain ⟨h3, h4⟩ := wipeR_get h1
  rw [wipe_outS h4] at h2
  exact ⟨j, p, ds, h3, h2⟩
theorem wipe_rel {vs : List Nat} (R : Rel Θ K G H r σ) : Rel Θ K G H (wipeR r vs) (wipe σ vs) := by
  refine ⟨by rw [wipeR_length, wipe_length]; exact R.len, R.sub, fun j d z => ?_, fun j p ds z => ?_, fun j k p ds q es a z1 z2 e1 e2 => ?_, R.tab⟩
  · obtain ⟨h1, h2⟩ := wipeR_get z
    rw [wipe_outS h2]; exact R.get j d h1
  · obtain ⟨h1, h2⟩ := wipeR_get z
    rw [wipe_outS h2]; exact R.own j p ds h1
  · obtain ⟨h1, h2⟩ := wipeR_get z1
    obtain ⟨h3, h4⟩ := wipeR_get z2
    rw [wipe_outS h2] at e1
    rw [wipe_outS h4] at e2
    exact R.sep j k p ds q es a h1 h3 e1 e2
theorem okW_at {vs : List Nat} (h : okW r vs = true) {j : Nat} (hj : j ∈ vs) : r[j]? = some none ∨ ∃ d, r[j]? = some (some (.d d)) := by
  have q := List.all_eq_true.mp h j hj
  cases e : r[j]? with
  | none => rw [e] at q; cases q
  | some x =>
    cases x with
    | none => exact .inl rfl
    | some s =>
      cases s with
      | d d => exact .inr ⟨d, rfl⟩
      | own p ds => rw [e] at q; cases q
      | lock => rw [e] at q; cases q
theorem wipe_fr {vs : List Nat} (h : okW r vs = true) (R : Rel Θ K G H r σ) : ∀ b u, H b = some u → ¬ Owned r σ b → ¬ Owned (wipeR r vs) (wipe σ vs) b := fun b u _ n z => n (wipe_owned z)
/-- behind a comprehension: the names as they were -/
theorem back_rel {vs : List Nat} (hw : okW r vs = true) (R : Rel Θ K G H r σ) {G' H' : Hp} {r' : Ro} (R' : Rel Θ K G' H' r' (wipe σ vs)) (hr : ∀ j, j ∈ vs → ∀ x, r'[j]? ≠ some (some x)) (F : Fr G H (wipeR r vs) (wipe σ vs) G' H' r' (wipe σ vs)) :
    Rel Θ K G' H' (back r r' vs) σ ∧ Fr G H r σ G' H' (back r r' vs) σ := by
  have hl : r'.length = r.length := by rw [R'.len, wipe_length, R.len]
  have own : ∀ (j : Nat) (q : Bool) (fs : List D), (back r r' vs)[j]? = some (some (.own q fs)) → j ∉ vs ∧ r'[j]? = some (some (.own q fs)) := fun j q fs z => by
    by_cases hj : j ∈ vs
    · have hlt : j < r'.length := by
        have := (List.getElem?_eq_some_iff.mp z).1
        rwa [back_length] at this
      rw [back_in hlt (by omega) hj] at z
      rcases okW_at hw hj with e | ⟨d, e⟩ <;> (rw [e] at z; cases z)
    · rw [back_out hj] at z
      exact ⟨hj, z⟩
  refine ⟨⟨by rw [back_length, hl, R.len], R'.sub, fun j d z => ?_, fun j p ds z => ?_, fun j k p ds q es a z1 z2 e1 e2 => ?_, R'.tab⟩, ⟨F.le, fun b u e t n => ?_, fun j fs z => ?_, fun j z => ?_, F.mono⟩⟩
  · by_cases hj : j ∈ vs
    · have hlt : j < r'.length := by
        have := (List.getElem?_eq_some_iff.mp z).1
        rwa [back_length] at this
      rw [back_in hlt (by omega) hj] at z
      obtain ⟨v, h1, h2⟩ := R.get j d z
      exact ⟨v, h1, Rep.mono F.le _ _ h2⟩
    · rw [back_out hj] at z
      obtain ⟨v, h1, h2⟩ := R'.get j d z
      rw [wipe_outS hj] at h1
      exact ⟨v, h1, h2⟩
  · obtain ⟨hj, z⟩ := own j p ds z
    obtain ⟨a, us, h1, h2⟩ := R'.own j p ds z
    rw [wipe_outS hj] at h1
    exact ⟨a, us, h1, h2⟩
  · obtain ⟨h1, z1⟩ := own j p ds z1
    obtain ⟨h2, z2⟩ := own k q es z2
    exact R'.sep j k p ds q es a z1 z2 (by rw [wipe_outS h1]; exact e1) (by rw [wipe_outS h2]; exact e2)
  · obtain ⟨h1, h2, h3⟩ := F.keep b u e t (fun z => n (wipe_owned z))
    refine ⟨h1, fun z => ?_, h3⟩
    obtain ⟨j, q, fs, z1, z2⟩ := z
    obtain ⟨hj, z1⟩ := own j q fs z1
    exact h2 ⟨j, q, fs, z1, by rw [wipe_outS hj]; exact z2⟩
  · have hj : j ∉ vs := fun hj => by
      rcases okW_at hw hj with e | ⟨d, e⟩ <;> (rw [e] at z; cases z)
    obtain ⟨⟨ds', h1⟩, _⟩ := F.pin j fs (by rw [wipeR_out hj]; exact z)
    exact ⟨⟨ds', by rw [back_out hj]; exact h1⟩, rfl⟩
  · have hj : j ∉ vs := fun hj => by
      rcases okW_at hw hj with e | ⟨d, e⟩ <;> (rw [e] at z; cases z)
    obtain ⟨h1, _⟩ := F.lck j (by rw [wipeR_out hj]; exact z)
    exact ⟨by rw [back_out hj]; exact h1, rfl⟩
/-- a tracked thing beside all that is changed -/
theorem side_rel (R : Rel Θ K G H r σ) {p : Addr} {o : HO} (hG : G p = none) (hO : ¬ Owned r σ p) (hn : H p = none ∨ ∃ vs, H p = some (.lst vs)) : Rel Θ K G (upd H p o) r σ := by
  refine ⟨R.len, fun b u e => ?_, R.get, fun j q ds z => ?_, R.sep, by rcases hn with h | ⟨vs, h⟩; exact R.tab.new h; exact R.tab.lst h⟩
  · rw [upd_ne (fun z => by subst z; rw [hG] at e; cases e)]
    exact R.sub _ _ e
  · obtain ⟨a, us, h1, h2, h3⟩ := R.own j q ds z
    exact ⟨a, us, h1, by rw [upd_ne (fun z' => by subst z'; exact hO ⟨j, q, ds, z, h1⟩)]; exact h2, h3⟩
/-- the targets of a comprehension: only vs is changed -/
def rdW (Θ : List (Addr × Str)) (K : PySem.W.Frag) (vs : List Nat) (f : D → Ro → Option Ro) : TG := fun v σ H Q => ∃ G r d r', Rel Θ K G H r σ ∧ Rep K G d v ∧ f d r = some r' ∧ ∀ σ', Rel Θ K G H r' σ' → Fr G H r σ G H r' σ' → wipe σ' vs = wipe σ vs → Q σ' H
def rdWs (Θ : List (Addr × Str)) (K : PySem.W.Frag) (vs : List Nat) (f : List D → Ro → Option Ro) : TGs := fun us σ H Q => ∃ G r ds r', Rel Θ K G H r σ ∧ Reps K G ds us ∧ f ds r = some r' ∧ ∀ σ', Rel Θ K G H r' σ' → Fr G H r σ G H r' σ' → wipe σ' vs = wipe σ vs → Q σ' H
abbrev SGw (Θ : List (Addr × Str)) (X : Cx) (vs : List Nat) (tg : Expr) (f : D → Ro → Option Ro) : Prop := PG X tg (rdW Θ X.K vs f)
abbrev SGws (Θ : List (Addr × Str)) (X : Cx) (vs : List Nat) (tgs : List Expr) (f : List D → Ro → Option Ro) : Prop := PGs X tgs (rdWs Θ X.K vs f)
theorem sgw_name {tg : Expr} {vs : List Nat} (h : PG X tg (gName i)) (hi : i ∈ vs) : SGw Θ X vs tg (setD i) := pg_imp h fun v σ H Q q => by
  obtain ⟨G, r, d, r', R, rv, e, k⟩ := q
  obtain ⟨R', F'⟩ := setD_rel R e rv
  exact k _ R' F' (wipe_set hi)
theorem sgws_nil {vs : List Nat} : SGws Θ X vs [] unNil := pgs_imp pgs_nil fun us σ H Q q => by
  obtain ⟨G, r, ds, r', R, rv, e, k⟩ := q
  cases ds with
  | nil =>
    cases e
    exact ⟨rv.nil_inv, k σ R (Fr.refl _ _ _ _) rfl⟩
  | cons d ds => cases e
theorem sgws_cons {vs : List Nat} {tg : Expr} {tgs : List Expr} {f : D → Ro → Option Ro} {g : List D → Ro → Option Ro} (h1 : SGw Θ X vs tg f) (h2 : SGws Θ X vs tgs g) (hs : (assignEach (tg :: tgs) X.env).map (·.2) = assign tg X.env :: (assignEach tgs X.env).map (·.2) := by rfl) :
    SGws Θ X vs (tg :: tgs) (unCons f g) := pgs_imp (pgs_cons h1 h2 hs) fun us σ H Q q => by
  obtain ⟨G, r, ds, r', R, rv, e, k⟩ := q
  cases ds with
  | nil => cases e
  | cons d ds =>
    simp only [unCons] at e
    cases e1 : f d r with
    | none => rw [e1] at e; cases e
    | some r1 =>
      rw [e1] at e
      obtain ⟨v, us, rfl, q1, q2⟩ := rv.cons_inv
      exact ⟨v, us, rfl, G, r, d, r1, R, q1, e1, fun σ1 R1 F1 w1 => ⟨G, r1, ds, r', R1, q2, e, fun σ2 R2 F2 w2 => k σ2 R2 (F1.trans F2) (w2.trans w1)⟩⟩
theorem sgw_tup {vs : List Nat} {tgs : List Expr} {k n : Nat} {g : List D → Ro → Option Ro} (hc : X.calm = true) (h : SGws Θ X vs tgs g) (hn : (assignEach tgs X.env).length = n := by rfl) (hst : (assignEach tgs X.env).findIdx? (·.1) = none := by rfl) : SGw Θ X vs (.Tuple tgs k pos) (tupF n g) :=
  pg_imp (pg_tup hc h hn hst) fun v σ H Q q => by
    obtain ⟨G, r, d, r', R, rv, e, k⟩ := q
    cases d with
    | tup ds =>
      simp only [tupF] at e
      split at e
      · rename_i hl
        obtain ⟨a, us, rfl, q, rs⟩ := rv.tup_inv
        exact ⟨a, us, rfl, sqT_mono R.sub q, by rw [rs.length]; exact hl, G, r, ds, r', R, rs, e, k⟩
      · cases e
    | _ => cases e
/-- several tests of a comprehension -/
abbrev SQ (Θ : List (Addr × Str)) (X : Cx) (ifs : List Expr) (m : M Bool) : Prop := PTs X ifs (rdT Θ X.K m)
theorem pts_imp {ifs : List Expr} {t t' : TT} (h : PTs X ifs t) (i : ∀ σ H Q, t' σ H Q → t σ H Q) : PTs X ifs t' := ⟨fun pins s σ H Q I q => h.run pins s σ H Q I (i _ _ _ q)⟩
theorem sq_nil : SQ Θ X [] (rt true) := pts_imp pts_nil fun σ H Q q => by
  obtain ⟨G, r0, R, c⟩ := q
  exact cn_rt R c G H (Ext.refl _ _)
theorem sq_one {t : M Bool} (h : STs Θ X c t) : SQ Θ X [c] t := pts_one h
/-- the turns of a comprehension -/
def compM (f : D → Ro → Option Ro) (t : M Bool) (e : M D) (vs : List Nat) : List D → List D → M (List D)
  | [], acc => fun r => some (acc, r)
  | d :: ds, acc => fun r => match f d r with
    | none => none
    | some r1 => match t r1 with
      | none => none
      | some (false, r2) => compM f t e vs ds acc (wipeR r2 vs)
      | some (true, r2) => match e r2 with
        | none => none
        | some (y, r3) => if acc.length < sizeLine then compM f t e vs ds (acc ++ [y]) (wipeR r3 vs) else none
theorem comp_core {J : It} {ds : List D} {f : D → Ro → Option Ro} {t : M Bool} {me : M D} {vs : List Nat} {G0 H0 : Hp} {r0 : Ro} {σ : L2.St} {Q : V → Hp → Prop} {C : Hp → Prop} {P : Hp → Hp → Ro → Prop} {res : List D} {rf : Ro} {p : Addr}
    (hW : Wk K J ds G0 C) (hP : ∀ G H r G' H' r', P G H r → Fr G H r (wipe σ vs) G' H' r' (wipe σ vs) → P G' H' r') (hPu : ∀ G H r o, P G H r → P G (upd H p o) r) (hC : ∀ G H r, P G H r → C H) (p0 : P G0 H0 r0)
    (R0 : Rel Θ K G0 H0 r0 (wipe σ vs)) (hw0 : ∀ j, j ∈ vs → ∀ x, r0[j]? ≠ some (some x)) (hp : H0 p = none) (c0 : compM f t me vs ds [] r0 = some (res, rf))
    (hQ : ∀ G H acc, Rel Θ K G H rf (wipe σ vs) → (∀ j, j ∈ vs → ∀ x, rf[j]? ≠ some (some x)) → Fr G0 H0 r0 (wipe σ vs) G H rf (wipe σ vs) → H p = some (.lst acc) → G p = none → ¬ Owned rf (wipe σ vs) p → Reps K G res acc → Q (.ref p) H) :
    ∃ W : Nat → Nat → Hp → Prop, (∃ m, W 0 m (upd H0 p (.lst []))) ∧ ∀ i m H, W i m H →
      (J.stop i H ∧ Q (.ref p) H) ∨ (J.go i H ∧ ∃ Nx : Hp → Prop, (∀ H', Nx H' → ∃ m', m' < m ∧ W (i + 1) m' H') ∧ ∀ x H', J.yld i H x H' → rdW Θ K vs f x (wipe σ vs) H' fun σ2 H2 => wipe σ2 vs = wipe σ vs ∧ rdT Θ K t σ2 H2 fun b H3 =>
        if b = true then rdE Θ K me σ2 H3 fun y H4 => ∃ acc, H4 p = some (.lst acc) ∧ acc.length < sizeLine ∧ Nx (upd H4 p (.lst (acc ++ [y]))) else Nx H3) := by
  have gp0 : G0 p = none := free_of R0.sub hp
  have op0 : ¬ Owned r0 (wipe σ vs) p := fun ⟨j, q, fs, z1, z2⟩ => by
    obtain ⟨a, us, h1, h2, _⟩ := R0.own j q fs z1
    rw [h1] at z2
    cases z2
    rw [hp] at h2; cases h2
  let St := fun (G H : Hp) (r : Ro) (acc : List V) (accD : List D) => Rel Θ K G H r (wipe σ vs) ∧ (∀ j, j ∈ vs → ∀ x, r[j]? ≠ some (some x)) ∧ Fr G0 H0 r0 (wipe σ vs) G H r (wipe σ vs) ∧ P G H r ∧ H p = some (.lst acc) ∧ G p = none ∧ ¬ Owned r (wipe σ vs) p ∧ Reps K G accD acc
  refine ⟨fun i m H => m = ds.length - i ∧ i ≤ ds.length ∧ ∃ G r acc accD, St G H r acc accD ∧ compM f t me vs (ds.drop i) accD r = some (res, rf), ⟨ds.length, by simp, Nat.zero_le _, G0, r0, [], [], ⟨side_rel R0 gp0 op0 (.inl hp), hw0, ?_, hPu _ _ _ _ p0, upd_same, gp0, op0, .nil⟩, by simpa using c0⟩, ?_⟩
  · exact ⟨Same.refl _, fun b u e _ n => ⟨by rw [upd_ne (ne_of_none e hp)]; exact e, n, fun z => z⟩, fun j ds z => ⟨⟨ds, z⟩, rfl⟩, fun j z => ⟨z, rfl⟩, fun b h => same_nw (same_new hp _) h⟩
  rintro i m H ⟨rfl, hi, G, r, acc, accD, ⟨R, hw, F, pp, hHp, hGp, hOp, rs⟩, c⟩
  obtain ⟨w1, w2⟩ := hW G H F.le R.sub (hC _ _ _ pp)
  by_cases hlt : i < ds.length
  · have hd : ds[i]? = some ds[i] := List.getElem?_eq_getElem hlt
    obtain ⟨g, y⟩ := w2 i _ hd
    rw [List.drop_eq_getElem_cons hlt] at c
    simp only [compM] at c
    cases e1 : f ds[i] r with
    | none => rw [e1] at c; cases c
    | some r1 =>
      rw [e1] at c
      dsimp only at c
      refine .inr ⟨g, fun H' => ∃ G' r' acc' accD', St G' H' r' acc' accD' ∧ compM f t me vs (ds.drop (i + 1)) accD' r' = some (res, rf), fun H' ⟨G', r', acc', accD', st', c'⟩ => ⟨ds.length - (i + 1), by omega, rfl, hlt, G', r', acc', accD', st', c'⟩, fun x H1 hy => ?_⟩
      obtain ⟨G1, ex, rx⟩ := y x H1 hy
      refine ⟨G1, r, _, r1, ex.rel R, rx, e1, fun σ2 R2 F2 ws => ?_⟩
      rw [wipe_wipe] at ws
      have F1 : Fr G H r (wipe σ vs) G1 H1 r1 σ2 := (ex.fr r _).trans F2
      refine ⟨ws, ?_⟩
      -- from a row over σ2 back to a wiped one
      have fin : ∀ (G5 H5 : Hp) (r5 : Ro), Rel Θ K G5 H5 r5 σ2 → Fr G H r (wipe σ vs) G5 H5 r5 σ2 → Rel Θ K G5 H5 (wipeR r5 vs) (wipe σ vs) ∧ Fr G H r (wipe σ vs) G5 H5 (wipeR r5 vs) (wipe σ vs) := fun G5 H5 r5 R5 F5 => by
        have Rw := wipe_rel (vs := vs) R5
        rw [ws] at Rw
        refine ⟨Rw, F5.le, fun b u e t n => ?_, fun j fs z => ?_, fun j z => ?_, F5.mono⟩
        · obtain ⟨h1, h2, h3⟩ := F5.keep b u e t n
          refine ⟨h1, fun z => h2 ?_, h3⟩
          rw [← ws] at z
          exact wipe_owned z
        · have hj : j ∉ vs := fun hj => hw j hj _ z
          obtain ⟨⟨fs', h1⟩, h2⟩ := F5.pin j fs z
          exact ⟨⟨fs', by rw [wipeR_out hj]; exact h1⟩, rfl⟩
        · have hj : j ∉ vs := fun hj => hw j hj _ z
          obtain ⟨h1, h2⟩ := F5.lck j z
          exact ⟨by rw [wipeR_out hj]; exact h1, rfl⟩
      have hww : ∀ (r5 : Ro) (j : Nat), j ∈ vs → ∀ x, (wipeR r5 vs)[j]? ≠ some (some x) := fun r5 j hj x z => (wipeR_get z).2 hj
      cases e2 : t r1 with
      | none => rw [e2] at c; cases c
      | some q =>
        obtain ⟨bb, r2⟩ := q
        rw [e2] at c
        refine ⟨G1, r1, R2, bb, r2, e2, fun G3 H3 R3 F3 => ?_⟩
        have F13 := F1.trans F3
        cases bb with
        | false =>
          dsimp only at c ⊢
          rw [if_neg Bool.false_ne_true]
          obtain ⟨Rw, Fw⟩ := fin G3 H3 r2 R3 F13
          obtain ⟨k1, k2, k3⟩ := Fw.keep p _ hHp rfl hOp
          exact ⟨G3, wipeR r2 vs, acc, accD, ⟨Rw, hww r2, F.trans Fw, hP _ _ _ _ _ _ pp Fw, k1, k3 hGp, k2, Reps.mono Fw.le _ _ rs⟩, c⟩
        | true =>
          dsimp only at c ⊢
          rw [if_pos rfl]
          cases e3 : me r2 with
          | none => rw [e3] at c; cases c
          | some q =>
            obtain ⟨yy, r3⟩ := q
            rw [e3] at c
            dsimp only at c
            refine ⟨G3, r2, R3, yy, r3, e3, fun G4 H4 R4 F4 vy ry => ?_⟩
            have F14 := F13.trans F4
            obtain ⟨Rw, Fw⟩ := fin G4 H4 r3 R4 F14
            obtain ⟨k1, k2, k3⟩ := Fw.keep p _ hHp rfl hOp
            split at c
            · rename_i hl
              refine ⟨acc, k1, by rw [rs.length]; exact hl, G4, wipeR r3 vs, acc ++ [vy], accD ++ [yy], ⟨side_rel Rw (k3 hGp) k2 (.inr ⟨_, k1⟩), hww r3, ?_, hPu _ _ _ _ (hP _ _ _ _ _ _ pp Fw), upd_same, k3 hGp, k2, (Reps.mono Fw.le _ _ rs).snoc ry⟩, c⟩
              have FF := F.trans Fw
              exact ⟨FF.le, fun b u e t n => by
                obtain ⟨h1, h2, h3⟩ := FF.keep b u e t n
                exact ⟨by rw [upd_ne (ne_of_none e hp)]; exact h1, h2, h3⟩, FF.pin, FF.lck, fun b h => FF.mono b (by
                  by_cases e : b = p
                  · subst e; cases h _ upd_same
                  · exact fun u z => h u (by rw [upd_ne e]; exact z))⟩
            · cases c
  · have e : i = ds.length := by omega
    subst e
    rw [List.drop_length] at c
    simp only [compM] at c
    cases c
    exact .inl ⟨w1 _ (Nat.le_refl _), hQ G H acc R hw F hHp hGp hOp rs⟩
/-- [e for tg in iter if ..] -/
def lcM (mi : M (List D)) (f : D → Ro → Option Ro) (t : M Bool) (e : M D) (vs : List Nat) : M D := bd mi fun ds r => if okW r vs then match compM f t e vs ds [] (wipeR r vs) with
    | some (res, r') => some (.lst res, back r r' vs)
    | none => none
  else none
theorem lc_read {mi : M (List D)} {f : D → Ro → Option Ro} {t : M Bool} {me : M D} {vs : List Nat} {Q : VK} (q : rdE Θ K (lcM mi f t me vs) σ H Q) : tLc (rdI Θ K mi) (rdW Θ K vs f) (rdT Θ K t) (rdE Θ K me) vs σ H Q := by
  obtain ⟨G, r, R, c⟩ := q
  refine ⟨G, r, R, (cn_bd c).mono fun ds G1 H1 ⟨r1, R1, s1, c1⟩ J hW p hp => ?_⟩
  obtain ⟨d, r', e, k⟩ := c1
  split at e
  · rename_i hok
    cases e2 : compM f t me vs ds [] (wipeR r1 vs) with
    | none => rw [e2] at e; cases e
    | some q =>
      obtain ⟨res, rf⟩ := q
      rw [e2] at e
      cases e
      refine comp_core (C := fun _ => True) (P := fun _ _ _ => True) hW (fun _ _ _ _ _ _ _ _ => trivial) (fun _ _ _ _ _ => trivial) (fun _ _ _ _ => trivial) trivial (wipe_rel R1) (fun j hj x z => (wipeR_get z).2 hj) hp e2 fun G2 H2 acc R2 hw2 F2 h1 h2 h3 h4 => ?_
      obtain ⟨R3, F3⟩ := back_rel hok R1 R2 hw2 F2
      have le : Same G2 (upd G2 p (.lst acc)) := same_new h2 _
      have h3' : ¬ Owned (back r1 rf vs) σ p := fun ⟨j, q, fs, z1, z2⟩ => by
        obtain ⟨a, us, g1, g2, _⟩ := R3.own j q fs z1
        rw [z2] at g1; cases g1
        by_cases hj : j ∈ vs
        · have hlt : j < rf.length := by
            have := (List.getElem?_eq_some_iff.mp z1).1
            rwa [back_length] at this
          rw [back_in hlt (by rw [R2.len, wipe_length, ← R1.len] at hlt; exact hlt) hj] at z1
          rcases okW_at hok hj with e | ⟨d, e⟩ <;> (rw [e] at z1; cases z1)
        · rw [back_out hj] at z1
          exact h3 ⟨j, q, fs, z1, by rw [wipe_outS hj]; exact z2⟩
      refine k (upd G2 p (.lst acc)) H2 ⟨R3.len, fun b u e => ?_, fun j d z => ?_, fun j q fs z => ?_, R3.sep, R3.tab.frz le fun b u e z => by
        by_cases q : b = p
        · subst q; rw [upd_same] at e; cases e; exact ⟨acc, rfl, h1⟩
        · rw [upd_ne q, z] at e; cases e⟩ ⟨F3.le.trans le, fun b u e t n => ?_, F3.pin, F3.lck, F3.mono⟩ (.ref p) (.lst_of (Rd.of upd_same) (Reps.mono le _ _ h4))
      · by_cases z : b = p
        · subst z; rw [upd_same] at e; cases e; exact h1
        · rw [upd_ne z] at e; exact R3.sub _ _ e
      · obtain ⟨v, g1, g2⟩ := R3.get j d z
        exact ⟨v, g1, Rep.mono le _ _ g2⟩
      · obtain ⟨a, us, g1, g2, g3, g4⟩ := R3.own j q fs z
        exact ⟨a, us, g1, g2, by rw [upd_ne (fun z' => by subst z'; exact h3' ⟨j, q, fs, z, g1⟩)]; exact g3, Reps.mono le _ _ g4⟩
      · obtain ⟨g1, g2, g3⟩ := F3.keep b u e t n
        exact ⟨g1, g2, fun z => by rw [upd_ne (ne_of_none e hp)]; exact g3 z⟩
  · cases e
theorem se_lc {elt : Expr} {ifs : List Expr} {scope : Scope} {own : List (Str × Nat)} {mi : M (List D)} {f : D → Ro → Option Ro} {t : M Bool} {me : M D} (hc : X.calm = true) (hN : X.N.Nodup) (hi : SI Θ X tg iter mi) (ok : BlkOk X.N X.env.scope scope own)
    (hg : ∀ (s : Shared) (H : Hp) (C : Addr) (cl : List (Str × Addr)) (fp : List Addr), SGw Θ (X.blk s H scope (compEnvC scope cl C X.env) fp) (own.map (·.2)) tg f) (ht : ∀ (s : Shared) (H : Hp) (C : Addr) (cl : List (Str × Addr)) (fp : List Addr), SQ Θ (X.blk s H scope (compEnvC scope cl C X.env) fp) ifs t)
    (he : ∀ (s : Shared) (H : Hp) (C : Addr) (cl : List (Str × Addr)) (fp : List Addr), SE Θ (X.blk s H scope (compEnvC scope cl C X.env) fp) elt me) (hs : ∀ x, foldedSetIterable iter X.env x = pure x := by intro _; rfl) :
    SE Θ X (.ListComp elt [⟨tg, iter, ifs, 0⟩] scope pos) (lcM mi f t me (own.map (·.2))) :=
  pe_imp (pe_lc hc hN hi ok hg ht he hs) fun σ H Q q => lc_read q
theorem ss_setLc {y : Str} {py spos : Pos} {elt : Expr} {ifs : List Expr} {scope : Scope} {own : List (Str × Nat)} {mi : M (List D)} {f : D → Ro → Option Ro} {t : M Bool} {me : M D} (hc : X.calm = true) (hN : X.N.Nodup) (hy : X.N[i]? = some y) (hyl : X.env.scope.names.lookup y = some .local)
    (hsw : swapsWith (.ListComp elt [⟨tg, iter, ifs, 0⟩] scope pos) (some (.Name y py)) spos.line X.env = pure true) (hi : SI Θ X tg iter mi) (ok : BlkOk X.N X.env.scope scope own)
    (hg : ∀ (s : Shared) (H : Hp) (C : Addr) (cl : List (Str × Addr)) (fp : List Addr), SGw Θ (X.blk s H scope (compEnvC scope cl C X.env) fp) (own.map (·.2)) tg f) (ht : ∀ (s : Shared) (H : Hp) (C : Addr) (cl : List (Str × Addr)) (fp : List Addr), SQ Θ (X.blk s H scope (compEnvC scope cl C X.env) fp) ifs t)
    (he : ∀ (s : Shared) (H : Hp) (C : Addr) (cl : List (Str × Addr)) (fp : List Addr), SE Θ (X.blk s H scope (compEnvC scope cl C X.env) fp) elt me) (hs : ∀ x, foldedSetIterable iter X.env x = pure x := by intro _; rfl) :
    SS Θ X (.Assign [.Name y py] (.ListComp elt [⟨tg, iter, ifs, 0⟩] scope pos) spos) (bd (lcM mi f t me (own.map (·.2))) fun d => nxt (setD i d)) :=
  ps_imp (ps_setLc hc hN hy hyl hsw hi ok hg ht he hs) fun σ H E q => by
    have q' : tAsg (rdE Θ X.K (lcM mi f t me (own.map (·.2)))) (gName i) E σ H := asg_read nm_read q
    exact lc_read q'
end
end Pk

namespace Pk
open PySem PySem.Spec PyProof.Rows L2
/-! ### what is handed to a def: values, or names of lists of one's own -/
inductive Ar where
  | v (d : D) | s (i : Nat)
def ArR (K : PySem.W.Frag) (G : Hp) (σ : L2.St) : List Ar → List V → Prop
  | [], vs => vs = []
  | .v d :: as, vs => ∃ u r, vs = u :: r ∧ Rep K G d u ∧ ArR K G σ as r
  | .s i :: as, vs => ∃ u r, vs = u :: r ∧ σ[i]? = some (some u) ∧ ArR K G σ as r
section
variable {K : PySem.W.Frag} {G G' H : Hp} {σ : L2.St} {r : Ro}
theorem ArR.mono (g : Same G G') : ∀ {as : List Ar} {vs : List V}, ArR K G σ as vs → ArR K G' σ as vs
  | [], _, h => h
  | .v d :: as, _, ⟨u, r, e, h1, h2⟩ => ⟨u, r, e, Rep.mono g _ _ h1, ArR.mono g h2⟩
  | .s i :: as, _, ⟨u, r, e, h1, h2⟩ => ⟨u, r, e, h1, ArR.mono g h2⟩
def slots : List Ar → List Nat
  | [] => []
  | .v _ :: as => slots as
  | .s i :: as => i :: slots as
def argS (r : Ro) : List Ar → Option Ro
  | [] => some []
  | .v d :: as => match argS r as with
    | some ss => some (some (.d d) :: ss)
    | none => none
  | .s i :: as => match r[i]? with
    | some (some (.own _ ds)) => match argS r as with
      | some ss => some (some (.own true ds) :: ss)
      | none => none
    | _ => none
def putB (r : Ro) : List Ar → Ro → Ro
  | .v _ :: as, _ :: ss => putB r as ss
  | .s i :: as, some (.own _ ds) :: ss => match r[i]? with
    | some (some (.own p _)) => (putB r as ss).set i (some (.own p ds))
    | _ => putB r as ss
  | _, _ => r
theorem arR_length : ∀ {as : List Ar} {vs : List V}, ArR K G σ as vs → vs.length = as.length
  | [], _, h => by rw [show _ = [] from h]; rfl
  | .v d :: as, _, ⟨u, r, e, _, h⟩ => by subst e; rw [List.length_cons, List.length_cons, arR_length h]
  | .s i :: as, _, ⟨u, r, e, _, h⟩ => by subst e; rw [List.length_cons, List.length_cons, arR_length h]
theorem argS_length : ∀ {as : List Ar} {ss : Ro}, argS r as = some ss → ss.length = as.length
  | [], _, h => by cases h; rfl
  | .v d :: as, ss, h => by
    simp only [argS] at h
    cases e : argS r as with
    | none => rw [e] at h; cases h
    | some ss' => rw [e] at h; cases h; rw [List.length_cons, List.length_cons, argS_length e]
  | .s i :: as, ss, h => by
    simp only [argS] at h
    split at h
    · cases e : argS r as with
      | none => rw [e] at h; cases h
      | some ss' => rw [e] at h; cases h; rw [List.length_cons, List.length_cons, argS_length e]
    · cases h
theorem arg_at : ∀ {as : List Ar} {ss : Ro} {vs : List V} {k : Nat} {x : Option S}, argS r as = some ss → ArR K G σ as vs → ss[k]? = some x →
    (∃ d v, x = some (.d d) ∧ vs[k]? = some v ∧ Rep K G d v ∧ ∃ d', as[k]? = some (.v d')) ∨ (∃ i p ds v, as[k]? = some (.s i) ∧ x = some (.own true ds) ∧ r[i]? = some (some (.own p ds)) ∧ vs[k]? = some v ∧ σ[i]? = some (some v))
  | [], _, _, k, x, h, _, e => by cases h; simp at e
  | .v d :: as, ss, vs, k, x, h, ⟨u, t, e0, h1, h2⟩, e => by
    subst e0
    simp only [argS] at h
    split at h
    · rename_i ss' e1
      cases h
      cases k with
      | zero => simp at e; subst e; exact .inl ⟨d, u, rfl, rfl, h1, d, rfl⟩
      | succ k => simpa using arg_at e1 h2 (k := k) (by simpa using e)
    · cases h
  | .s i :: as, ss, vs, k, x, h, ⟨u, t, e0, h1, h2⟩, e => by
    subst e0
    simp only [argS] at h
    split at h
    · rename_i p ds hi
      split at h
      · rename_i ss' e1
        cases h
        cases k with
        | zero => simp at e; subst e; exact .inr ⟨i, p, ds, u, rfl, rfl, hi, rfl, h1⟩
        | succ k => simpa using arg_at e1 h2 (k := k) (by simpa using e)
      · cases h
    · cases h
theorem slots_mem : ∀ {as : List Ar} {k i : Nat}, as[k]? = some (.s i) → i ∈ slots as
  | [], k, i, h => by simp at h
  | .v d :: as, k, i, h => by
    cases k with
    | zero => simp at h
    | succ k => exact slots_mem (as := as) (k := k) (by simpa using h)
  | .s j :: as, k, i, h => by
    cases k with
    | zero => simp at h; subst h; exact List.mem_cons_self ..
    | succ k => exact List.mem_cons_of_mem _ (slots_mem (as := as) (k := k) (by simpa using h))
theorem slots_inj : ∀ {as : List Ar} {k l i : Nat}, (slots as).Nodup → as[k]? = some (.s i) → as[l]? = some (.s i) → k = l
  | [], k, l, i, _, h, _ => by simp at h
  | .v d :: as, k, l, i, n, h1, h2 => by
    cases k with
    | zero => simp at h1
    | succ k =>
      cases l with
      | zero => simp at h2
      | succ l => exact congrArg (· + 1) (slots_inj (as := as) (k := k) (l := l) n (by simpa using h1) (by simpa using h2))
  | .s j :: as, k, l, i, n, h1, h2 => by
    obtain ⟨n1, n2⟩ := List.nodup_cons.mp (show (j :: slots as).Nodup from n)
    cases k with
    | zero =>
      simp at h1; subst h1
      cases l with
      | zero => rfl
      | succ l => exact absurd (slots_mem (as := as) (k := l) (by simpa using h2)) n1
    | succ k =>
      cases l with
      | zero =>
        simp at h2; subst h2
        exact absurd (slots_mem (as := as) (k := k) (by simpa using h1)) n1
      | succ l => exact congrArg (· + 1) (slots_inj (as := as) (k := k) (l := l) n2 (by simpa using h1) (by simpa using h2))
theorem putB_length : ∀ {as : List Ar} {ss : Ro}, (putB r as ss).length = r.length
  | [], _ => by unfold putB; rfl
  | .v d :: as, [] => by unfold putB; rfl
  | .v d :: as, x :: ss => by unfold putB; exact putB_length
  | .s i :: as, [] => by unfold putB; rfl
  | .s i :: as, none :: ss => by unfold putB; rfl
  | .s i :: as, some (.d _) :: ss => by unfold putB; rfl
  | .s i :: as, some .lock :: ss => by unfold putB; rfl
  | .s i :: as, some (.own p ds) :: ss => by
    simp only [putB]
    split
    · rw [List.length_set]; exact putB_length
    · exact putB_length
theorem putB_at : ∀ {as : List Ar} {ss : Ro} {j : Nat}, (slots as).Nodup → as.length = ss.length → (∀ (k i : Nat), as[k]? = some (Ar.s i) → (∃ ds, ss[k]? = some (some (S.own true ds))) ∧ ∃ p ds, r[i]? = some (some (S.own p ds))) →
    (∃ (k : Nat) (ds' : List D) (p : Bool) (ds : List D), as[k]? = some (.s j) ∧ ss[k]? = some (some (.own true ds')) ∧ r[j]? = some (some (.own p ds)) ∧ (putB r as ss)[j]? = some (some (.own p ds'))) ∨ ((∀ (k : Nat), as[k]? ≠ some (Ar.s j)) ∧ (putB r as ss)[j]? = r[j]?)
  | [], ss, j, _, _, _ => .inr ⟨fun k => by simp, by unfold putB; rfl⟩
  | .v d :: as, [], j, _, l, _ => by cases l
  | .s i :: as, [], j, _, l, _ => by cases l
  | .v d :: as, x :: ss, j, n, l, h => by
    have ih := putB_at (as := as) (ss := ss) (j := j) n (by simpa using l) (fun k i e => by simpa using h (k + 1) i (by simpa using e))
    rcases ih with ⟨k, ds', p, ds, h1, h2, h3, h4⟩ | ⟨h1, h2⟩
    · exact .inl ⟨k + 1, ds', p, ds, by simpa using h1, by simpa using h2, h3, by unfold putB; exact h4⟩
    · refine .inr ⟨fun k => ?_, by unfold putB; exact h2⟩
      cases k with
      | zero => simp
      | succ k => simpa using h1 k
  | .s i :: as, x :: ss, j, n, l, h => by
    obtain ⟨n1, n2⟩ := List.nodup_cons.mp (show (i :: slots as).Nodup from n)
    obtain ⟨⟨ds0, e0⟩, p0, es0, f0⟩ := h 0 i rfl
    have ih := putB_at (as := as) (ss := ss) (j := j) n2 (by simpa using l) (fun k i e => by simpa using h (k + 1) i (by simpa using e))
    simp at e0
    subst e0
    have hp : putB r (.s i :: as) (some (.own true ds0) :: ss) = (putB r as ss).set i (some (.own p0 ds0)) := by
      conv => lhs; unfold putB
      simp only [f0]
    rw [hp]
    have hl : i < (putB r as ss).length := by rw [putB_length]; exact (List.getElem?_eq_some_iff.mp f0).1
    by_cases hj : i = j
    · subst hj
      exact .inl ⟨0, ds0, p0, es0, rfl, rfl, f0, List.getElem?_set_self hl⟩
    · rcases ih with ⟨k, ds', p, ds, h1, h2, h3, h4⟩ | ⟨h1, h2⟩
      · exact .inl ⟨k + 1, ds', p, ds, by simpa using h1, by simpa using h2, h3, by rw [List.getElem?_set_ne hj]; exact h4⟩
      · refine .inr ⟨fun k => ?_, by rw [List.getElem?_set_ne hj]; exact h2⟩
        cases k with
        | zero => simp; exact hj
        | succ k => simpa using h1 k
/-- the callee's row -/
theorem args_rel (R : Rel Θ K G H r σ) {as : List Ar} {ss : Ro} {vs : List V} (h : argS r as = some ss) (q : ArR K G σ as vs) (n : (slots as).Nodup) : Rel Θ K G H ss (vs.map some) := by
  have vget : ∀ {k : Nat} {u : V}, vs[k]? = some u → (vs.map some)[k]? = some (some u) := fun {k u} e => by rw [List.getElem?_map, e]; rfl
  refine ⟨by rw [List.length_map, argS_length h, arR_length q], R.sub, fun k d z => ?_, fun k p ds z => ?_, fun k l p ds p' es a z1 z2 e1 e2 => ?_, R.tab⟩
  · rcases arg_at h q z with ⟨d', v, e, h1, h2, _⟩ | ⟨i, p, ds, v, _, e, _⟩
    · cases e; exact ⟨v, vget h1, h2⟩
    · cases e
  · rcases arg_at h q z with ⟨d', v, e, _⟩ | ⟨i, p', es, v, h1, e, h2, h3, h4⟩
    · cases e
    · cases e
      obtain ⟨a, us, g1, g2, g3, g4⟩ := R.own i p' _ h2
      rw [h4] at g1
      cases g1
      exact ⟨a, us, vget h3, g2, g3, g4⟩
  · rcases arg_at h q z1 with ⟨d', v, e, _⟩ | ⟨i, p1, ds1, v, h1, e, h2, h3, h4⟩
    · cases e
    · rcases arg_at h q z2 with ⟨d', v', e', _⟩ | ⟨j, p2, ds2, v', h1', e', h2', h3', h4'⟩
      · cases e'
      · rw [vget h3] at e1
        rw [vget h3'] at e2
        cases e1
        cases e2
        have := R.sep i j p1 ds1 p2 ds2 a h2 h2' h4 h4'
        subst this
        exact slots_inj n h1 h1'
theorem args_owned {as : List Ar} {ss : Ro} {vs : List V} (h : argS r as = some ss) (q : ArR K G σ as vs) {b : Addr} (o : Owned ss (vs.map some) b) : Owned r σ b ∧ ∃ (k i : Nat), as[k]? = some (Ar.s i) ∧ σ[i]? = some (some (.ref b)) := by
  obtain ⟨k, p, ds, z1, z2⟩ := o
  rcases arg_at h q z1 with ⟨d', v, e, _⟩ | ⟨i, p1, ds1, v, h1, e, h2, h3, h4⟩
  · cases e
  · rw [List.getElem?_map, h3] at z2
    cases z2
    exact ⟨⟨i, p1, ds1, h2, h4⟩, k, i, h1, h4⟩
/-- behind a call -/
theorem call_rel (R : Rel Θ K G H r σ) {as : List Ar} {ss ss' : Ro} {vs : List V} (h : argS r as = some ss) (q : ArR K G σ as vs) (n : (slots as).Nodup) {G' H' : Hp} (R' : Rel Θ K G' H' ss' (vs.map some)) (F : Fr G H ss (vs.map some) G' H' ss' (vs.map some)) :
    Rel Θ K G' H' (putB r as ss') σ ∧ Fr G H r σ G' H' (putB r as ss') σ := by
  have hl : as.length = ss'.length := by rw [R'.len, List.length_map, arR_length q]
  have ask : ∀ (k i : Nat), as[k]? = some (Ar.s i) → (∃ ds, ss'[k]? = some (some (.own true ds))) ∧ ∃ p ds, r[i]? = some (some (.own p ds)) := fun k i e => by
    have hk : k < ss.length := by rw [argS_length h]; exact (List.getElem?_eq_some_iff.mp e).1
    rcases arg_at h q (List.getElem?_eq_getElem hk) with ⟨d', v, _, _, _, d2, e2⟩ | ⟨i', p, ds, v, h1, e2, h2, h3, h4⟩
    · rw [e] at e2; cases e2
    · rw [e] at h1
      cases h1
      obtain ⟨⟨ds', g1⟩, _⟩ := F.pin k ds (by rw [List.getElem?_eq_getElem hk, e2])
      exact ⟨⟨ds', g1⟩, p, ds, h2⟩
  have at_ := fun j => putB_at (r := r) (j := j) n hl ask
  have adr : ∀ {k j : Nat} {u : V}, as[k]? = some (.s j) → vs[k]? = some u → σ[j]? = some (some u) := fun {k j u} e hv => by
    have hk : k < ss.length := by rw [argS_length h]; exact (List.getElem?_eq_some_iff.mp e).1
    rcases arg_at h q (List.getElem?_eq_getElem hk) with ⟨d', v, _, _, _, d2, e2⟩ | ⟨i', p, ds, v, h1, e2, h2, h3, h4⟩
    · rw [e] at e2; cases e2
    · rw [e] at h1
      cases h1
      rw [hv] at h3
      cases h3
      exact h4
  have was : ∀ {j : Nat} {p : Bool} {ds : List D}, (putB r as ss')[j]? = some (some (.own p ds)) → ∃ es, r[j]? = some (some (.own p es)) := fun {j p ds} z => by
    rcases at_ j with ⟨k, ds', p', es, h1, h2, h3, h4⟩ | ⟨h1, h2⟩
    · rw [h4] at z
      cases z
      exact ⟨es, h3⟩
    · rw [h2] at z
      exact ⟨ds, z⟩
  refine ⟨⟨by rw [putB_length]; exact R.len, R'.sub, fun j d z => ?_, fun j p ds z => ?_, fun j k p ds p' es a z1 z2 e1 e2 => ?_, R'.tab⟩, ⟨F.le, fun b u e t no => ?_, fun j ds z => ⟨?_, rfl⟩, fun j z => ⟨?_, rfl⟩, F.mono⟩⟩
  · rcases at_ j with ⟨k, ds', p', es, h1, h2, h3, h4⟩ | ⟨h1, h2⟩
    · rw [h4] at z; cases z
    · rw [h2] at z
      obtain ⟨v, g1, g2⟩ := R.get j d z
      exact ⟨v, g1, Rep.mono F.le _ _ g2⟩
  · rcases at_ j with ⟨k, ds', p', es, h1, h2, h3, h4⟩ | ⟨h1, h2⟩
    · rw [h4] at z
      cases z
      obtain ⟨a, us, g1, g2, g3, g4⟩ := R'.own k true _ h2
      rw [List.getElem?_map] at g1
      cases hv : vs[k]? with
      | none => rw [hv] at g1; cases g1
      | some u =>
        rw [hv] at g1
        cases g1
        exact ⟨a, us, adr h1 hv, g2, g3, g4⟩
    · rw [h2] at z
      obtain ⟨a, us, g1, g2, g3, g4⟩ := R.own j p ds z
      have no : ¬ Owned ss (vs.map some) a := fun o => by
        obtain ⟨_, k, i, h3, h4⟩ := args_owned h q o
        obtain ⟨_, p', es, h5⟩ := ask k i h3
        have := R.sep i j p' es p ds a h5 z h4 g1
        subst this
        exact h1 k h3
      obtain ⟨k1, k2, k3⟩ := F.keep a _ g2 rfl no
      exact ⟨a, us, g1, k1, k3 g3, Reps.mono F.le _ _ g4⟩
  · obtain ⟨es1, w1⟩ := was z1
    obtain ⟨es2, w2⟩ := was z2
    exact R.sep j k p es1 p' es2 a w1 w2 e1 e2
  · obtain ⟨k1, k2, k3⟩ := F.keep b u e t (fun o => no (args_owned h q o).1)
    refine ⟨k1, fun o => ?_, k3⟩
    obtain ⟨j, p, ds, z1, z2⟩ := o
    obtain ⟨es, w⟩ := was z1
    exact no ⟨j, p, es, w, z2⟩
  · rcases at_ j with ⟨k, ds', p', es, h1, h2, h3, h4⟩ | ⟨h1, h2⟩
    · rw [z] at h3
      cases h3
      exact ⟨ds', h4⟩
    · exact ⟨ds, by rw [h2]; exact z⟩
  · rcases at_ j with ⟨k, ds', p', es, h1, h2, h3, h4⟩ | ⟨h1, h2⟩
    · rw [z] at h3; cases h3
    · rw [h2]; exact z
end
def rdR (Θ : List (Addr × Str)) (K : PySem.W.Frag) (m : M (List Ar)) : TA := fun σ H Q => ∃ G r, Rel Θ K G H r σ ∧ Cn Θ K G H r σ (m r) fun as G' H' => ∀ vs, ArR K G' σ as vs → Q vs H'
abbrev SR (Θ : List (Addr × Str)) (X : Cx) (es : List Expr) (m : M (List Ar)) : Prop := PA X es (rdR Θ X.K m)
/-- the promise of a def that does F with n arguments -/
def spF (Θ : List (Addr × Str)) (K : PySem.W.Frag) (n : Nat) (F : M D) : Sp := fun vs H Q _ => vs.length = n ∧ rdE Θ K F (vs.map some) H Q
def callM (n : Nat) (F : M D) (as : List Ar) : M D := fun r => if as.length = n ∧ (slots as).Nodup then match argS r as with
    | some ss => match F ss with
      | some (d, ss') => some (d, putB r as ss')
      | none => none
    | none => none
  else none
section
variable {X : Cx} {e a b c tg iter : Expr} {es : List Expr} {pos p : Pos} {ma mb mc m : M D} {i : Nat} {ml : M (List Ar)} {x : Str}
theorem sr_nil : SR Θ X [] (rt []) := pa_imp pa_nil fun σ H Q q => by
  obtain ⟨G, r0, R, c⟩ := q
  exact cn_rt R c G H (Ext.refl _ _) [] rfl
theorem sr_v (ha : SE Θ X e m) (hr : SR Θ X es ml) (hs : starEach (e :: es) X.env = (false, eval e X.env) :: starEach es X.env := by rfl) : SR Θ X (e :: es) (bd m fun x => bd ml fun xs => rt (.v x :: xs)) := pa_imp (pa_cons ha hr hs) fun σ H Q q => by
  obtain ⟨G, r0, R, c⟩ := q
  refine ⟨G, r0, R, (cn_bd c).mono fun x G1 H1 ⟨r1, R1, s1, c1⟩ vx rx => ⟨G1, r1, R1, (cn_bd c1).mono fun xs G2 H2 ⟨r2, R2, s2, c2⟩ vs rs => ?_⟩⟩
  exact cn_rt R2 c2 G2 H2 (Ext.refl _ _) _ ⟨vx, vs, rfl, Rep.mono s2 _ _ rx, rs⟩
theorem sr_s (ha : PE X e (tVar i)) (hr : SR Θ X es ml) (hs : starEach (e :: es) X.env = (false, eval e X.env) :: starEach es X.env := by rfl) : SR Θ X (e :: es) (bd (own i) fun _ => bd ml fun xs => rt (.s i :: xs)) := pa_imp (pa_cons ha hr hs) fun σ H Q q => by
  obtain ⟨G, r0, R, c⟩ := q
  obtain ⟨p0, ds0, hi0, c⟩ := cn_own c
  obtain ⟨a, vs0, h1, h2, h3, h4⟩ := R.own i p0 ds0 hi0
  refine ⟨.ref a, h1, G, r0, R, (cn_bd c).mono fun xs G2 H2 ⟨r2, R2, s2, c2⟩ vs rs => ?_⟩
  exact cn_rt R2 c2 G2 H2 (Ext.refl _ _) _ ⟨_, vs, rfl, h1, rs⟩
theorem callM_some {n : Nat} {F : M D} {as : List Ar} {r r' : Ro} {d : D} (h : callM n F as r = some (d, r')) : as.length = n ∧ (slots as).Nodup ∧ ∃ ss ss', argS r as = some ss ∧ F ss = some (d, ss') ∧ r' = putB r as ss' := by
  unfold callM at h
  split at h
  · rename_i hc
    split at h
    · rename_i ss e1
      split at h
      · rename_i d' ss' e2
        cases h
        exact ⟨hc.1, hc.2, ss, ss', e1, e2, rfl⟩
      · cases h
    · cases h
  · cases h
theorem call_rd {n : Nat} {F : M D} {E : XK} {σ : L2.St} {H : Hp} {Q : VK} (q : rdE Θ X.K (bd ml fun as => callM n F as) σ H Q) : tCall (spF Θ X.K n F) [] E (rdR Θ X.K ml) σ H Q := by
  obtain ⟨G, r0, R, c⟩ := q
  refine ⟨G, r0, R, (cn_bd c).mono fun as G1 H1 ⟨r1, R1, s1, c1⟩ vs rs => ?_⟩
  obtain ⟨d, r', e, k⟩ := c1
  obtain ⟨hn, hd, ss, ss', e1, e2, rfl⟩ := callM_some e
  rw [List.append_nil]
  refine ⟨by rw [arR_length rs]; exact hn, G1, ss, args_rel R1 e1 rs hd, d, ss', e2, fun G2 H2 R2 F2 => ?_⟩
  obtain ⟨R3, F3⟩ := call_rel R1 e1 rs hd R2 F2
  exact k G2 H2 R3 F3
theorem se_call {CX : CXT} {k n : Nat} {f : Addr} {fd : FuncData} {ps : List Str} {F : M D} (G : FnOk X.prog X.w X.K X.mg X.base CX0 k f fd ps (spF Θ X.K n F)) (hr : Room k X.A) (hg : Gl X x) (hm : X.mg x = some (.ref f)) (hk : PySem.W.keepIn X.K (.ref f) = true) (hb : Binds X.K fd ps [])
    (ha : SR Θ X (e :: es) ml) (hdb : (x == ("__debug__" : Str)) = false := by decide) (he : starEach (e :: es) X.env = (false, eval e X.env) :: starEach es X.env := by rfl) (hpl : (backTo pos (starEach es X.env)).any (·.1) = false := by rfl) :
    SE Θ X (.Call (.Name x p) (e :: es) [] pos) (bd ml fun as => callM n F as) :=
  pe_imp (pe_call (E := E0) G hr hg hm hk hb .nil pass0 ha hdb he hpl) fun σ H Q q => call_rd q
/-! ### a def by its body -/
def pinS : Option S → Option S
  | some (.own _ ds) => some (.own true ds)
  | x => x
def unS : Option S → Option S → Option S
  | some (.own p _), some (.own _ ds) => some (.own p ds)
  | x, _ => x
def outS : Ro → Ro → Ro
  | [], _ => []
  | x :: xs, [] => x :: xs
  | x :: xs, y :: ys => unS x y :: outS xs ys
theorem outS_length : ∀ {r r' : Ro}, (outS r r').length = r.length
  | [], _ => rfl
  | x :: xs, [] => rfl
  | x :: xs, y :: ys => by unfold outS; rw [List.length_cons, List.length_cons, outS_length]
theorem outS_get : ∀ {r r' : Ro} {j : Nat} {x : Option S}, (outS r r')[j]? = some x → ∃ y, r[j]? = some y ∧ ((r'[j]? = none ∧ x = y) ∨ ∃ z, r'[j]? = some z ∧ x = unS y z)
  | [], _, _, _, e => by simp [outS] at e
  | y :: xs, [], j, x, e => ⟨x, e, .inl ⟨by simp, rfl⟩⟩
  | y :: xs, z :: zs, 0, x, e => by
    simp [outS] at e
    exact ⟨y, rfl, .inr ⟨z, rfl, e.symm⟩⟩
  | y :: xs, z :: zs, j + 1, x, e => by
    have := outS_get (r := xs) (r' := zs) (j := j) (by simpa [outS] using e)
    simpa using this
def bodyF (n nl : Nat) (m : M Fl) : M D := fun r => if r.length = n then match m (r.map pinS ++ List.replicate nl none) with
    | some (.nx, r') => some (.non, outS r r')
    | some (.rt d, r') => some (d, outS r r')
    | _ => none
  else none
theorem pinS_own {x : Option S} {p : Bool} {ds : List D} (h : pinS x = some (.own p ds)) : p = true ∧ ∃ q, x = some (.own q ds) := by
  cases x with
  | none => cases h
  | some s => cases s with
    | d d => cases h
    | own q es => cases h; exact ⟨rfl, q, rfl⟩
    | lock => cases h
theorem body_in {K : PySem.W.Frag} {G H : Hp} {r : Ro} {vs : List V} {N : List Str} {nl : Nat} (R : Rel Θ K G H r (vs.map some)) (hN : N.length = vs.length + nl) : Rel Θ K G H (r.map pinS ++ List.replicate nl none) (L2.start N vs) ∧
    (∀ b, Owned (r.map pinS ++ List.replicate nl none) (L2.start N vs) b → Owned r (vs.map some) b) := by
  have hl : r.length = vs.length := by rw [R.len, List.length_map]
  have es : L2.start N vs = vs.map some ++ List.replicate nl none := by
    unfold L2.start
    rw [show N.length - vs.length = nl by omega]
  rw [es]
  have get : ∀ {j : Nat} {x : S}, (r.map pinS ++ List.replicate nl none)[j]? = some (some x) → j < r.length ∧ (r.map pinS)[j]? = some (some x) := fun {j x} z => by
    by_cases h : j < (r.map pinS).length
    · rw [List.getElem?_append_left h] at z
      exact ⟨by simpa using h, z⟩
    · rw [List.getElem?_append_right (by omega), List.getElem?_replicate] at z
      split at z <;> cases z
  have sg : ∀ {j : Nat}, j < r.length → (vs.map some ++ List.replicate nl none)[j]? = (vs.map some)[j]? := fun {j} h => List.getElem?_append_left (by rw [List.length_map]; omega)
  have own : ∀ {j : Nat} {p : Bool} {ds : List D}, (r.map pinS ++ List.replicate nl none)[j]? = some (some (.own p ds)) → j < r.length ∧ ∃ q, r[j]? = some (some (.own q ds)) := fun {j p ds} z => by
    obtain ⟨h1, h2⟩ := get z
    rw [List.getElem?_map] at h2
    cases e : r[j]? with
    | none => rw [e] at h2; cases h2
    | some x =>
      rw [e] at h2
      obtain ⟨_, q, hq⟩ := pinS_own (Option.some.inj h2)
      exact ⟨h1, q, by rw [hq]⟩
  refine ⟨⟨by simp [R.len], R.sub, fun j d z => ?_, fun j p ds z => ?_, fun j k p ds q es a z1 z2 e1 e2 => ?_, R.tab⟩, fun b o => ?_⟩
  · obtain ⟨h1, h2⟩ := get z
    rw [sg h1]
    rw [List.getElem?_map] at h2
    cases e : r[j]? with
    | none => rw [e] at h2; cases h2
    | some x =>
      rw [e] at h2
      have h3 : pinS x = some (.d d) := Option.some.inj h2
      refine R.get j d ?_
      rw [e]
      cases x with
      | none => cases h3
      | some s => cases s with
        | d d' => cases h3; rfl
        | own q es => cases h3
        | lock => cases h3
  · obtain ⟨h1, q, h2⟩ := own z
    rw [sg h1]
    exact R.own j q ds h2
  · obtain ⟨h1, q1, w1⟩ := own z1
    obtain ⟨h2, q2, w2⟩ := own z2
    rw [sg h1] at e1
    rw [sg h2] at e2
    exact R.sep j k q1 ds q2 es a w1 w2 e1 e2
  · obtain ⟨j, p, ds, z1, z2⟩ := o
    obtain ⟨h1, q1, w1⟩ := own z1
    rw [sg h1] at z2
    exact ⟨j, q1, ds, w1, z2⟩
theorem body_out {K : PySem.W.Frag} {G H G' H' : Hp} {r r' : Ro} {vs : List V} {N : List Str} {nl : Nat} {σ' : L2.St} (R : Rel Θ K G H r (vs.map some)) (hN : N.length = vs.length + nl) (R' : Rel Θ K G' H' r' σ') (F : Fr G H (r.map pinS ++ List.replicate nl none) (L2.start N vs) G' H' r' σ') :
    Rel Θ K G' H' (outS r r') (vs.map some) ∧ Fr G H r (vs.map some) G' H' (outS r r') (vs.map some) := by
  have hl : r.length = vs.length := by rw [R.len, List.length_map]
  have es : L2.start N vs = vs.map some ++ List.replicate nl none := by
    unfold L2.start
    rw [show N.length - vs.length = nl by omega]
  obtain ⟨R0, O0⟩ := body_in (nl := nl) R hN
  -- a lent list's slot, behind the body
  have lent : ∀ {j : Nat} {p : Bool} {ds : List D}, r[j]? = some (some (.own p ds)) → ∃ ds', r'[j]? = some (some (.own true ds')) ∧ σ'[j]? = (vs.map some)[j]? := fun {j p ds} z => by
    have hj : j < r.length := (List.getElem?_eq_some_iff.mp z).1
    have z' : (r.map pinS ++ List.replicate nl none)[j]? = some (some (.own true ds)) := by
      rw [List.getElem?_append_left (by rw [List.length_map]; exact hj), List.getElem?_map, z]; rfl
    obtain ⟨⟨ds', h1⟩, h2⟩ := F.pin j ds z'
    refine ⟨ds', h1, ?_⟩
    rw [h2, es, List.getElem?_append_left (by rw [List.length_map]; omega)]
  have get : ∀ {j : Nat} {d : D}, (outS r r')[j]? = some (some (.d d)) → r[j]? = some (some (.d d)) := fun {j d} z => by
    obtain ⟨y, h1, h2⟩ := outS_get z
    rcases h2 with ⟨_, rfl⟩ | ⟨w, h2, h3⟩
    · exact h1
    · rw [h1]
      cases y with
      | none => cases w <;> cases h3
      | some t => cases t with
        | d d' => cases w <;> (cases h3; rfl)
        | own p ds => cases w with
          | none => cases h3
          | some q => cases q <;> cases h3
        | lock => cases w <;> cases h3
  have own : ∀ {j : Nat} {p : Bool} {ds : List D}, (outS r r')[j]? = some (some (.own p ds)) → (∃ es, r[j]? = some (some (.own p es))) ∧ r'[j]? = some (some (.own true ds)) ∧ σ'[j]? = (vs.map some)[j]? := fun {j p ds} z => by
    obtain ⟨y, h1, h2⟩ := outS_get z
    cases y with
    | none =>
      rcases h2 with ⟨_, e⟩ | ⟨w, _, e⟩
      · cases e
      · cases w <;> cases e
    | some t => cases t with
      | d d' =>
        rcases h2 with ⟨_, e⟩ | ⟨w, _, e⟩
        · cases e
        · cases w <;> cases e
      | lock =>
        rcases h2 with ⟨_, e⟩ | ⟨w, _, e⟩
        · cases e
        · cases w <;> cases e
      | own q es =>
        obtain ⟨ds', g1, g2⟩ := lent h1
        rcases h2 with ⟨e, _⟩ | ⟨w, e1, e⟩
        · rw [e] at g1; cases g1
        · rw [g1] at e1
          cases e1
          cases e
          exact ⟨⟨es, h1⟩, g1, g2⟩
  refine ⟨⟨by rw [outS_length, R.len], R'.sub, fun j d z => ?_, fun j p ds z => ?_, fun j k p ds q es a z1 z2 e1 e2 => ?_, R'.tab⟩, ⟨F.le, fun b u e t n => ?_, fun j ds z => ⟨?_, rfl⟩, fun j z => ⟨?_, rfl⟩, F.mono⟩⟩
  · obtain ⟨v, g1, g2⟩ := R.get j d (get z)
    exact ⟨v, g1, Rep.mono F.le _ _ g2⟩
  · obtain ⟨_, h1, h2⟩ := own z
    obtain ⟨a, us, g1, g2⟩ := R'.own j true ds h1
    exact ⟨a, us, by rw [← h2]; exact g1, g2⟩
  · obtain ⟨_, h1, h2⟩ := own z1
    obtain ⟨_, h3, h4⟩ := own z2
    exact R'.sep j k true ds true es a h1 h3 (by rw [h2]; exact e1) (by rw [h4]; exact e2)
  · obtain ⟨k1, k2, k3⟩ := F.keep b u e t (fun o => n (O0 b o))
    refine ⟨k1, fun o => ?_, k3⟩
    obtain ⟨j, p, ds, z1, z2⟩ := o
    obtain ⟨_, h1, h2⟩ := own z1
    exact k2 ⟨j, true, ds, h1, by rw [h2]; exact z2⟩
  · obtain ⟨ds', g1, _⟩ := lent z
    refine ⟨ds', ?_⟩
    have hj : j < (outS r r').length := by rw [outS_length]; exact (List.getElem?_eq_some_iff.mp z).1
    obtain ⟨y, h1, h2⟩ := outS_get (List.getElem?_eq_getElem hj)
    rw [z] at h1
    cases h1
    rw [List.getElem?_eq_getElem hj]
    rcases h2 with ⟨e, _⟩ | ⟨w, e1, e⟩
    · rw [e] at g1; cases g1
    · rw [g1] at e1
      cases e1
      rw [e]; rfl
  · have hj : j < (outS r r').length := by rw [outS_length]; exact (List.getElem?_eq_some_iff.mp z).1
    obtain ⟨y, h1, h2⟩ := outS_get (List.getElem?_eq_getElem hj)
    rw [z] at h1
    cases h1
    rw [List.getElem?_eq_getElem hj]
    rcases h2 with ⟨_, e⟩ | ⟨w, _, e⟩
    · rw [e]
    · rw [e]; cases w <;> rfl
theorem body_read {K : PySem.W.Frag} {n nl : Nat} {m : M Fl} {vs : List V} {N : List Str} {H : Hp} {Q : VK} (hN : N.length = n + nl) (q : rdE Θ K (bodyF n nl m) (vs.map some) H Q) :
    rdS Θ K m { nx := fun _ H' => Q .non H', rt := Q } (L2.start N vs) H := by
  obtain ⟨G, r, R, d, ro, e, k⟩ := q
  unfold bodyF at e
  split at e
  · rename_i hr
    have hv : N.length = vs.length + nl := by rw [hN, ← hr, R.len, List.length_map]
    obtain ⟨R0, O0⟩ := body_in (nl := nl) R hv
    refine ⟨G, _, R0, ?_⟩
    split at e
    · rename_i r' e1
      cases e
      refine ⟨.nx, r', e1, fun G' H' σ' R' F' => ?_⟩
      obtain ⟨R2, F2⟩ := body_out R hv R' F'
      exact k G' H' R2 F2 .non .non_of
    · rename_i d' r' e1
      cases e
      refine ⟨.rt d, r', e1, fun G' H' σ' R' F' v rv => ?_⟩
      obtain ⟨R2, F2⟩ := body_out R hv R' F'
      exact k G' H' R2 F2 v rv
    · cases e
  · cases e
/-- THE RULE for a def -/
theorem fn_ok {P : Program} {w : World} {K : PySem.W.Frag} {mg : Str → Option Value} {base : Heap} {x qual : Str} {st : Stmt} {f : Addr} {fd : FuncData} {N ps : List Str} {k n nl : Nat} {m : M Fl} (F : Fun K x qual st f fd) (Sc : FnScope N ps (defScope st)) (hn : ps.length = n) (hN : N.length = n + nl)
    (hbody : ∀ (cdv : Value) (A : Around) (outer : List Env) (s : Shared) (H : Hp) (E : XK), Room k (A.deeper (envOfC qual (defScope st) s.heap.objs.size f cdv)) →
      SB Θ (cxOf CX0 P w K mg base N qual (defScope st) f cdv A outer s H E).nox (defBody st) m) : FnOk P w K mg base CX0 (k + 1) f fd ps (spF Θ K n (bodyF n nl m)) := by
  refine F.ok Sc (fun vs H Q E h => by rw [hn]; exact h.1) (fun cdv A outer s H vs Q E hr h => ?_)
  exact ⟨_, hbody cdv A outer s H E hr, body_read hN h.2⟩
/-- nothing can be asked of a def that does nothing -/
theorem fn_none {P : Program} {w : World} {K : PySem.W.Frag} {mg : Str → Option Value} {base : Heap} {k n : Nat} {f : Addr} {fd : FuncData} {ps : List Str} : FnOk P w K mg base CX0 k f fd ps (spF Θ K n fun _ => none) := by
  have no : ∀ vs H Q E, ¬ spF Θ K n (fun _ => none) vs H Q E := fun vs H Q E h => by
    obtain ⟨_, G, r, R, d, r', e, _⟩ := h
    cases e
  exact ⟨fun vs H Q E h => absurd h (no vs H Q E), fun A outer s H args us vs Q E _ _ _ _ h => absurd h (no vs H Q E)⟩
/-- what stands still at the law's begin: all but the tables -/
def stl (H : Hp) : Hp := fun b => match H b with
  | some u => if tf u then some u else none
  | none => none
theorem stl_some {H : Hp} {b : Addr} {u : HO} (h : H b = some u) (t : tf u = true) : stl H b = some u := by
  unfold stl; rw [h]; dsimp only; rw [if_pos t]
theorem stl_sub (H : Hp) : Same (stl H) H := fun b u e => by
  unfold stl at e
  cases h : H b with
  | none => rw [h] at e; cases e
  | some w =>
    rw [h] at e
    dsimp only at e
    split at e
    · exact e
    · cases e
theorem stl_cl (H : Hp) : ∀ b ts, stl H b ≠ some (.tbl ts) := fun b ts e => by
  unfold stl at e
  cases h : H b with
  | none => rw [h] at e; cases e
  | some w =>
    rw [h] at e
    dsimp only at e
    split at e
    · rename_i q; cases e; cases q
    · cases e
theorem stl_rd {H : Hp} {a : Addr} {u : HO} (h : Rd H a u) (t : tf u = true) : Rd (stl H) a u := by
  rcases h with h | ⟨o, h⟩
  · exact .inl (stl_some h t)
  · exact .inr ⟨o, stl_some h rfl⟩
/-- the law's promise -/
theorem spF_law {K : PySem.W.Frag} {H : Hp} {a : Addr} {ns : List Int} {F : M D} {rr : Ro} (ht : ∀ e ∈ Θ, H e.1 = some (.tbl #[])) (hS : SqL K H a (ns.map V.int)) (h : F [some (.d (.ro (ns.map D.int)))] = some (.bl true, rr)) : spF Θ K 1 F [.ref a] H (fun v _ => v = .bl true) fun _ _ _ => False := by
  have ri : ∀ ns : List Int, Reps K (stl H) (ns.map D.int) (ns.map V.int) := fun ns => by
    induction ns with
    | nil => exact .nil
    | cons i r ih => exact .cons .int_of ih
  have hS' : SqL K (stl H) a (ns.map V.int) := by
    rcases hS with h | h
    · exact .inl (stl_rd h rfl)
    · exact .inr h
  refine ⟨rfl, stl H, _, ⟨rfl, stl_sub H, fun j d z => ?_, fun j p ds z => ?_, fun j k p ds q es b z => ?_, ⟨fun e he => ⟨#[], ht e he, ?_, fun pos cv hc => by cases hc⟩, fun e he => by unfold stl; rw [ht e he]; rfl, stl_cl H⟩⟩, .bl true, rr, h, fun G' H' R F v rv => rv.bl_inv⟩
  · cases j with
    | zero => simp at z; subst z; exact ⟨.ref a, rfl, .ro_of hS' (ri ns)⟩
    | succ j => simp at z
  · cases j <;> simp at z
  · cases j <;> simp at z
  · trivial
/-! ### chains of comparisons -/
def chainM (g g' : D → D → Option D) (a b c : M D) : M D := bd a fun x => bd b fun y => bd (of (g x y)) fun z => bd (of (asB z)) fun k => if k = true then bd c fun w => of (g' y w) else rt (.bl false)
theorem chain_read {r r' : R2} {g g' : D → D → Option D} (hg : ∀ x y z, g x y = some z → ∀ (G H : Hp) (vx vy : V) (Q : VK), Same G H → Rep X.K G x vx → Rep X.K G y vy → (∀ G' H' v, Ext G H G' H' → Rep X.K G' z v → Q v H') → r vx vy H Q)
    (hg' : ∀ x y z, g' x y = some z → ∀ (G H : Hp) (vx vy : V) (Q : VK), Same G H → Rep X.K G x vx → Rep X.K G y vy → (∀ G' H' v, Ext G H G' H' → Rep X.K G' z v → Q v H') → r' vx vy H Q)
    {σ : L2.St} {H : Hp} {Q : VK} (q : rdE Θ X.K (chainM g g' ma mb mc) σ H Q) : tChain r r' (rdE Θ X.K ma) (rdE Θ X.K mb) (rdE Θ X.K mc) σ H Q := by
  obtain ⟨G, r0, R, c⟩ := q
  refine ⟨G, r0, R, (cn_bd c).mono fun x G1 H1 ⟨r1, R1, s1, c1⟩ vx rx => ⟨G1, r1, R1, (cn_bd c1).mono fun y G2 H2 ⟨r2, R2, s2, c2⟩ vy ry => ?_⟩⟩
  obtain ⟨z, r3, e3, q3⟩ := cn_bd c2
  obtain ⟨hz, rfl⟩ := of_some e3
  refine hg x y z hz G2 H2 vx vy _ R2.sub (Rep.mono s2 _ _ rx) ry fun G3 H3 v ex rz => ?_
  obtain ⟨r4, R4, s4, c4⟩ := q3 G3 H3 (ex.rel R2) (ex.fr _ _)
  obtain ⟨k, r5, e5, q5⟩ := cn_bd c4
  obtain ⟨hk, rfl⟩ := of_some e5
  obtain rfl := asB_some hk
  obtain ⟨r6, R6, s6, c6⟩ := q5 G3 H3 R4 (Fr.refl _ _ _ _)
  refine ⟨k, rz.bl_inv, ?_⟩
  cases k with
  | true =>
    rw [if_pos rfl] at c6 ⊢
    refine ⟨G3, r6, R6, (cn_bd c6).mono fun w G7 H7 ⟨r7, R7, s7, c7⟩ vw rw' => ?_⟩
    obtain ⟨u, hu, k7⟩ := cn_of R7 c7
    exact hg' y w u hu G7 H7 vy vw Q R7.sub (Rep.mono (ex.le.trans s7) _ _ ry) rw' fun G' H' v ex' rv => k7 G' H' ex' v rv
  | false =>
    rw [if_neg Bool.false_ne_true] at c6 ⊢
    exact cn_rt R6 c6 G3 H3 (Ext.refl _ _) _ .bl_of
theorem se_chain {op op' : CmpOp} {g g' : D → D → Option D} (ho : OpG X (compareOp op) g) (ho' : OpG X (compareOp op') g') (ha : SE Θ X a ma) (hb : SE Θ X b mb) (hc : SE Θ X c mc) (hm : lastMarks [op, op'] [b, c] = false := by with_unfolding_all rfl) :
    SE Θ X (.Compare a [op, op'] [b, c] pos) (chainM g g' ma mb mc) := by
  obtain ⟨r, o, hg⟩ := ho
  obtain ⟨r', o', hg'⟩ := ho'
  exact pe_imp (pe_chain o o' ha hb hc hm) fun σ H Q q => chain_read hg hg' q
theorem st_chain {op op' : CmpOp} {g g' : D → D → Option D} (ho : OpG X (compareOp op) g) (ho' : OpG X (compareOp op') g') (ha : SE Θ X a ma) (hb : SE Θ X b mb) (hc : SE Θ X c mc) (hm : lastMarks [op, op'] [b, c] = false := by with_unfolding_all rfl) :
    STs Θ X (.Compare a [op, op'] [b, c] pos) (bd (chainM g g' ma mb mc) fun x => of (asB x)) := by
  obtain ⟨r, o, hg⟩ := ho
  obtain ⟨r', o', hg'⟩ := ho'
  exact pt_imp (pt_chain o o' ha hb hc hm) fun σ H Q q => chain_read hg hg' (tb_read q)
end
end Pk

namespace Pk
open PySem PySem.Spec PyProof.Rows L2
/-! ### new lists, given out by a def -/
def rdF (Θ : List (Addr × Str)) (K : PySem.W.Frag) (m : M (List D)) : TE := fun σ H Q => ∃ G r, Rel Θ K G H r σ ∧ ∃ ds r', m r = some (ds, r') ∧ ∀ G' H' p vs, Rel Θ K G' H' r' σ → Fr G H r σ G' H' r' σ → nw H p → H' p = some (.lst vs) → G' p = none → ¬ Owned r' σ p → Reps K G' ds vs → Q (.ref p) H'
abbrev SF (Θ : List (Addr × Str)) (X : Cx) (e : Expr) (m : M (List D)) : Prop := PE X e (rdF Θ X.K m)
section
variable {X : Cx} {e a b c tg iter : Expr} {es : List Expr} {pos p : Pos} {ma mb mc m : M D} {i : Nat} {ml : M (List D)} {mr : M (List Ar)} {x : Str}
theorem new_out {K : PySem.W.Frag} {G H : Hp} {r : Ro} {σ : L2.St} (R : Rel Θ K G H r σ) {p : Addr} (hp : H p = none) : G p = none ∧ ¬ Owned r σ p := ⟨free_of R.sub hp, fun ⟨j, q, fs, z1, z2⟩ => by
  obtain ⟨a, us, h1, h2, _⟩ := R.own j q fs z1
  rw [h1] at z2
  cases z2
  rw [hp] at h2; cases h2⟩
theorem new_outN {K : PySem.W.Frag} {G H : Hp} {r : Ro} {σ : L2.St} (R : Rel Θ K G H r σ) {p : Addr} (hp : nw H p) : ¬ Owned r σ p := fun ⟨j, q, fs, z1, z2⟩ => by
  obtain ⟨a, us, h1, h2, _⟩ := R.own j q fs z1
  rw [h1] at z2
  cases z2
  cases hp _ h2
/-- a new tracked thing that nobody holds yet -/
theorem new_side {K : PySem.W.Frag} {G H : Hp} {r : Ro} {σ : L2.St} (R : Rel Θ K G H r σ) {p : Addr} (hp : H p = none) (o : HO) : Rel Θ K G (upd H p o) r σ ∧ Fr G H r σ G (upd H p o) r σ := by
  obtain ⟨g, n⟩ := new_out R hp
  exact ⟨side_rel R g n (.inl hp), Same.refl _, fun b u e _ no => ⟨same_new hp _ _ _ e, no, fun z => z⟩, fun j ds z => ⟨⟨ds, z⟩, rfl⟩, fun j z => ⟨z, rfl⟩, fun b h => same_nw (same_new hp _) h⟩
/-- return [..]: a new list -/
theorem ss_retL {lpos : Pos} (ha : SA Θ X es ml) : SS Θ X (.Return (some (.List es lpos)) pos) (bd ml fun ds r => if ds.length ≤ sizeLine then some (.rf ds, r) else none) := ps_imp (ps_ret (pe_lst ha)) fun σ H E q => by
  obtain ⟨G, r, R, c⟩ := q
  refine ⟨G, r, R, (cs_bd c).mono fun ds G2 H2 ⟨r2, R2, s2, c2⟩ vs rs => ?_⟩
  obtain ⟨f, r', e, k⟩ := c2
  split at e
  · rename_i hc
    cases e
    refine ⟨by rw [rs.length]; exact hc, fun p hp => ?_⟩
    obtain ⟨R3, F3⟩ := new_side R2 hp (.lst vs)
    obtain ⟨g, n⟩ := new_out R2 hp
    exact k G2 _ σ R3 F3 p vs (nw_none hp) upd_same g n rs
  · cases e
def bodyN (n nl : Nat) (m : M Fl) : M (List D) := fun r => if r.length = n then match m (r.map pinS ++ List.replicate nl none) with
    | some (.rf ds, r') => some (ds, outS r r')
    | _ => none
  else none
def spN (Θ : List (Addr × Str)) (K : PySem.W.Frag) (n : Nat) (F : M (List D)) : Sp := fun vs H Q _ => vs.length = n ∧ rdF Θ K F (vs.map some) H Q
theorem out_owned {K : PySem.W.Frag} {G H G' H' : Hp} {r r' : Ro} {vs : List V} {N : List Str} {nl : Nat} {σ' : L2.St} (R : Rel Θ K G H r (vs.map some)) (hN : N.length = vs.length + nl) (F : Fr G H (r.map pinS ++ List.replicate nl none) (L2.start N vs) G' H' r' σ')
    {b : Addr} (o : Owned (outS r r') (vs.map some) b) : Owned r' σ' b := by
  obtain ⟨j, p, ds, z1, z2⟩ := o
  have hl : r.length = vs.length := by rw [R.len, List.length_map]
  obtain ⟨y, h1, h2⟩ := outS_get z1
  have go : ∀ (q : Bool) (es : List D), r[j]? = some (some (.own q es)) → ∃ ds', r'[j]? = some (some (.own true ds')) ∧ σ'[j]? = (vs.map some)[j]? := fun q es z => by
    have hj : j < r.length := (List.getElem?_eq_some_iff.mp z).1
    have z' : (r.map pinS ++ List.replicate nl none)[j]? = some (some (.own true es)) := by
      rw [List.getElem?_append_left (by rw [List.length_map]; exact hj), List.getElem?_map, z]; rfl
    obtain ⟨⟨ds', h1⟩, h2⟩ := F.pin j es z'
    refine ⟨ds', h1, ?_⟩
    rw [h2]
    unfold L2.start
    rw [List.getElem?_append_left (by rw [List.length_map]; omega)]
  cases y with
  | none =>
    rcases h2 with ⟨_, e⟩ | ⟨w, _, e⟩
    · cases e
    · cases w <;> cases e
  | some t => cases t with
    | d d' =>
      rcases h2 with ⟨_, e⟩ | ⟨w, _, e⟩
      · cases e
      · cases w <;> cases e
    | lock =>
      rcases h2 with ⟨_, e⟩ | ⟨w, _, e⟩
      · cases e
      · cases w <;> cases e
    | own q es =>
      obtain ⟨ds', g1, g2⟩ := go q es h1
      exact ⟨j, true, ds', g1, by rw [g2]; exact z2⟩
theorem bodyN_read {K : PySem.W.Frag} {n nl : Nat} {m : M Fl} {vs : List V} {N : List Str} {H : Hp} {Q : VK} (hN : N.length = n + nl) (q : rdF Θ K (bodyN n nl m) (vs.map some) H Q) :
    rdS Θ K m { nx := fun _ H' => Q .non H', rt := Q } (L2.start N vs) H := by
  obtain ⟨G, r, R, ds, ro, e, k⟩ := q
  unfold bodyN at e
  split at e
  · rename_i hr
    have hv : N.length = vs.length + nl := by rw [hN, ← hr, R.len, List.length_map]
    obtain ⟨R0, O0⟩ := body_in (nl := nl) R hv
    refine ⟨G, _, R0, ?_⟩
    split at e
    · rename_i ds' r' e1
      cases e
      refine ⟨.rf ds, r', e1, fun G' H' σ' R' F' p us h1 h2 h3 h4 h5 => ?_⟩
      obtain ⟨R2, F2⟩ := body_out R hv R' F'
      exact k G' H' p us R2 F2 h1 h2 h3 (fun o => h4 (out_owned R hv F' o)) h5
    · cases e
  · cases e
theorem fn_okN {P : Program} {w : World} {K : PySem.W.Frag} {mg : Str → Option Value} {base : Heap} {x qual : Str} {st : Stmt} {f : Addr} {fd : FuncData} {N ps : List Str} {k n nl : Nat} {m : M Fl} (F : Fun K x qual st f fd) (Sc : FnScope N ps (defScope st)) (hn : ps.length = n) (hN : N.length = n + nl)
    (hbody : ∀ (cdv : Value) (A : Around) (outer : List Env) (s : Shared) (H : Hp) (E : XK), Room k (A.deeper (envOfC qual (defScope st) s.heap.objs.size f cdv)) →
      SB Θ (cxOf CX0 P w K mg base N qual (defScope st) f cdv A outer s H E).nox (defBody st) m) : FnOk P w K mg base CX0 (k + 1) f fd ps (spN Θ K n (bodyN n nl m)) := by
  refine F.ok Sc (fun vs H Q E h => by rw [hn]; exact h.1) (fun cdv A outer s H vs Q E hr h => ?_)
  exact ⟨_, hbody cdv A outer s H E hr, bodyN_read hN h.2⟩
theorem fn_noneN {P : Program} {w : World} {K : PySem.W.Frag} {mg : Str → Option Value} {base : Heap} {k n : Nat} {f : Addr} {fd : FuncData} {ps : List Str} : FnOk P w K mg base CX0 k f fd ps (spN Θ K n fun _ => none) := by
  have no : ∀ vs H Q E, ¬ spN Θ K n (fun _ => none) vs H Q E := fun vs H Q E h => by
    obtain ⟨_, G, r, R, d, r', e, _⟩ := h
    cases e
  exact ⟨fun vs H Q E h => absurd h (no vs H Q E), fun A outer s H args us vs Q E _ _ _ _ h => absurd h (no vs H Q E)⟩
/-! ### its call -/
def callN (n : Nat) (F : M (List D)) (as : List Ar) : M (List D) := fun r => if as.length = n ∧ (slots as).Nodup then match argS r as with
    | some ss => match F ss with
      | some (d, ss') => some (d, putB r as ss')
      | none => none
    | none => none
  else none
theorem callN_some {n : Nat} {F : M (List D)} {as : List Ar} {r r' : Ro} {d : List D} (h : callN n F as r = some (d, r')) : as.length = n ∧ (slots as).Nodup ∧ ∃ ss ss', argS r as = some ss ∧ F ss = some (d, ss') ∧ r' = putB r as ss' := by
  unfold callN at h
  split at h
  · rename_i hc
    split at h
    · rename_i ss e1
      split at h
      · rename_i d' ss' e2
        cases h
        exact ⟨hc.1, hc.2, ss, ss', e1, e2, rfl⟩
      · cases h
    · cases h
  · cases h
theorem put_owned {r ss' : Ro} {as : List Ar} {σ : L2.St} {b : Addr} (n : (slots as).Nodup) (hl : as.length = ss'.length) (ask : ∀ (k i : Nat), as[k]? = some (Ar.s i) → (∃ ds, ss'[k]? = some (some (S.own true ds))) ∧ ∃ p ds, r[i]? = some (some (S.own p ds))) (o : Owned (putB r as ss') σ b) : Owned r σ b := by
  obtain ⟨j, p, ds, z1, z2⟩ := o
  rcases putB_at (r := r) (j := j) n hl ask with ⟨k, ds', p', es, h1, h2, h3, h4⟩ | ⟨h1, h2⟩
  · exact ⟨j, p', es, h3, z2⟩
  · rw [h2] at z1
    exact ⟨j, p, ds, z1, z2⟩
theorem callN_rd {n : Nat} {F : M (List D)} {E : XK} {σ : L2.St} {H : Hp} {Q : VK} (q : rdF Θ X.K (bd mr fun as => callN n F as) σ H Q) : tCall (spN Θ X.K n F) [] E (rdR Θ X.K mr) σ H Q := by
  obtain ⟨G, r0, R, ds, r', e, k⟩ := q
  obtain ⟨as, r1, e1, e2⟩ := bd_some e
  refine ⟨G, r0, R, as, r1, e1, fun G1 H1 R1 F1 vs rs => ?_⟩
  obtain ⟨hn, hd, ss, ss', e3, e4, rfl⟩ := callN_some e2
  rw [List.append_nil]
  refine ⟨by rw [arR_length rs]; exact hn, G1, ss, args_rel R1 e3 rs hd, ds, ss', e4, fun G2 H2 p us R2 F2 h1 h2 h3 h4 h5 => ?_⟩
  obtain ⟨R3, F3⟩ := call_rel R1 e3 rs hd R2 F2
  -- the new list is none of the caller's
  have no1 : ¬ Owned r1 σ p := new_outN R1 h1
  have no : ¬ Owned (putB r1 as ss') σ p := fun o => by
    obtain ⟨j, q, fs, z1, z2⟩ := o
    obtain ⟨a, ws, g1, g2, _⟩ := R3.own j q fs z1
    refine no1 ?_
    have hl : as.length = ss'.length := by rw [R2.len, List.length_map, arR_length rs]
    refine put_owned hd hl (fun k i e => ?_) ⟨j, q, fs, z1, z2⟩
    have hk : k < ss.length := by rw [argS_length e3]; exact (List.getElem?_eq_some_iff.mp e).1
    rcases arg_at e3 rs (List.getElem?_eq_getElem hk) with ⟨d', v, _, _, _, d2, e6⟩ | ⟨i', p, ds, v, g3, e6, g4, g5, g6⟩
    · rw [e] at e6; cases e6
    · rw [e] at g3
      cases g3
      obtain ⟨⟨ds', g7⟩, _⟩ := F2.pin k ds (by rw [List.getElem?_eq_getElem hk, e6])
      exact ⟨⟨ds', g7⟩, p, ds, g4⟩
  exact k G2 H2 p us R3 (F1.trans F3) (F1.mono p h1) h2 h3 no h5
theorem sf_call {k n : Nat} {f : Addr} {fd : FuncData} {ps : List Str} {F : M (List D)} (G : FnOk X.prog X.w X.K X.mg X.base CX0 k f fd ps (spN Θ X.K n F)) (hr : Room k X.A) (hg : Gl X x) (hm : X.mg x = some (.ref f)) (hk : PySem.W.keepIn X.K (.ref f) = true) (hb : Binds X.K fd ps [])
    (ha : SR Θ X (e :: es) mr) (hdb : (x == ("__debug__" : Str)) = false := by decide) (he : starEach (e :: es) X.env = (false, eval e X.env) :: starEach es X.env := by rfl) (hpl : (backTo pos (starEach es X.env)).any (·.1) = false := by rfl) :
    SF Θ X (.Call (.Name x p) (e :: es) [] pos) (bd mr fun as => callN n F as) :=
  pe_imp (pe_call (E := E0) G hr hg hm hk hb .nil pass0 ha hdb he hpl) fun σ H Q q => callN_rd q
/-- a new list becomes one's own -/
theorem setN_rel {K : PySem.W.Frag} {G H : Hp} {r r' : Ro} {σ : L2.St} (R : Rel Θ K G H r σ) {ds : List D} (h : setO i ds r = some r') {vs : List V} (rv : Reps K G ds vs) {p : Addr} (hH : H p = some (.lst vs)) (hG : G p = none) (hO : ¬ Owned r σ p) :
    Rel Θ K G H r' (σ.set i (some (.ref p))) ∧ ∀ {G0 H0 : Hp} {r0 : Ro} {σ0 : L2.St}, nw H0 p → Fr G0 H0 r0 σ0 G H r σ → Fr G0 H0 r0 σ0 G H r' (σ.set i (some (.ref p))) := by
  obtain ⟨hf, rfl⟩ := setO_some h
  have hl := free_lt hf
  have hs : i < σ.length := by rw [← R.len]; exact hl
  have own : ∀ (j : Nat) (q : Bool) (es : List D), (r.set i (some (.own false ds)))[j]? = some (some (.own q es)) → (j = i ∧ q = false ∧ es = ds) ∨ (j ≠ i ∧ r[j]? = some (some (.own q es))) := fun j p ds z => by
    rcases set_get z with ⟨e1, e⟩ | ⟨n, e⟩
    · cases e; exact .inl ⟨e1, rfl, rfl⟩
    · exact .inr ⟨n, e⟩
  have sig : ∀ j, j ≠ i → (σ.set i (some (.ref p)))[j]? = σ[j]? := fun j n => List.getElem?_set_ne (fun z => n z.symm)
  have sigi : (σ.set i (some (.ref p)))[i]? = some (some (.ref p)) := List.getElem?_set_self hs
  have out : ∀ (j : Nat) (q : Bool) (es : List D), r[j]? = some (some (.own q es)) → σ[j]? ≠ some (some (.ref p)) := fun j q es z e => hO ⟨j, q, es, z, e⟩
  refine ⟨⟨by rw [List.length_set, List.length_set]; exact R.len, R.sub, fun j d' z => ?_, fun j q es z => ?_, fun j k q es q' es' a z1 z2 e1 e2 => ?_, R.tab⟩, fun {G0 H0 r0 σ0} h0 F => ⟨F.le, fun b u e t n => ?_, fun j fs z => ?_, fun j z => ?_, F.mono⟩⟩
  · rcases set_get z with ⟨rfl, e⟩ | ⟨n, e⟩
    · cases e
    · rw [sig j n]; exact R.get j d' e
  · rcases own j q es z with ⟨rfl, rfl, rfl⟩ | ⟨n, e⟩
    · exact ⟨p, vs, sigi, hH, hG, rv⟩
    · rw [sig j n]; exact R.own j q es e
  · rcases own j q es z1 with ⟨w1, _⟩ | ⟨n1, w1⟩
    · rcases own k q' es' z2 with ⟨w2, _⟩ | ⟨n2, w2⟩
      · rw [w1, w2]
      · rw [w1, sigi] at e1; cases e1
        rw [sig k n2] at e2
        exact absurd e2 (out k q' es' w2)
    · rcases own k q' es' z2 with ⟨w2, _⟩ | ⟨n2, w2⟩
      · rw [w2, sigi] at e2; cases e2
        rw [sig j n1] at e1
        exact absurd e1 (out j q es w1)
      · rw [sig j n1] at e1
        rw [sig k n2] at e2
        exact R.sep j k q es q' es' a w1 w2 e1 e2
  · obtain ⟨k1, k2, k3⟩ := F.keep b u e t n
    refine ⟨k1, ?_, k3⟩
    rintro ⟨j, q, es, z, e2⟩
    rcases own j q es z with ⟨rfl, _⟩ | ⟨n1, z⟩
    · rw [sigi] at e2; cases e2
      exact nw_ne h0 e t rfl
    · rw [sig j n1] at e2
      exact k2 ⟨j, q, es, z, e2⟩
  · obtain ⟨⟨ds', h1⟩, h2⟩ := F.pin j fs z
    have n : j ≠ i := fun e => by subst e; exact free_pin hf h1
    rw [sig j n]
    exact ⟨⟨ds', by rw [List.getElem?_set_ne (fun e => n e.symm)]; exact h1⟩, h2⟩
  · obtain ⟨h1, h2⟩ := F.lck j z
    have n : j ≠ i := fun e => by subst e; exact free_lock hf h1
    rw [sig j n]
    exact ⟨by rw [List.getElem?_set_ne (fun e => n e.symm)]; exact h1, h2⟩
theorem ss_setOF {x : Str} {pos' : Pos} (hN : X.N.Nodup) (hi : X.N[i]? = some x) (hx : Loc X.env.scope x) (he : SF Θ X e ml) (hs : swapsWith e (some (.Name x pos')) pos.line X.env = pure false := by rfl) (hf : X.fn x = true ∨ X.env.scope.names.lookup x = some .local := by first | exact .inl rfl | exact .inr rfl | assumption) :
    SS Θ X (.Assign [.Name x pos'] e pos) (bd ml fun ds => nxt (setO i ds)) := ps_imp (ps_set hN hi hx he hs hf) fun σ H E q => by
  obtain ⟨G, r, R, f, r', e, k⟩ := q
  obtain ⟨ds, r1, e1, e2⟩ := bd_some e
  refine ⟨G, r, R, ds, r1, e1, fun G1 H1 p vs R1 F1 h1 h2 h3 h4 h5 => ?_⟩
  obtain ⟨r3, e3, e4⟩ := nxt_some e2
  cases e4
  obtain ⟨R', F'⟩ := setN_rel R1 e3 h5 h2 h3 h4
  exact k G1 H1 _ R' (F' h1 F1)
/-! ### a new list, lent at once -/
theorem push_rel {K : PySem.W.Frag} {G H : Hp} {r : Ro} {σ : L2.St} (R : Rel Θ K G H r σ) {ds : List D} {vs : List V} (rv : Reps K G ds vs) {p : Addr} (hH : H p = some (.lst vs)) (hG : G p = none) (hO : ¬ Owned r σ p) : Rel Θ K G H (r ++ [some (.own false ds)]) (σ ++ [some (.ref p)]) := by
  have rl := R.len
  have get : ∀ {j : Nat} {x : Option S}, (r ++ [some (.own false ds)])[j]? = some x → (j < r.length ∧ r[j]? = some x) ∨ (j = r.length ∧ x = some (.own false ds)) := fun {j x} z => by
    by_cases h : j < r.length
    · rw [List.getElem?_append_left h] at z; exact .inl ⟨h, z⟩
    · rw [List.getElem?_append_right (by omega)] at z
      have : j - r.length = 0 := by
        have := (List.getElem?_eq_some_iff.mp z).1
        simp at this; omega
      rw [this] at z
      exact .inr ⟨by omega, (Option.some.inj z).symm⟩
  have sl : ∀ {j : Nat}, j < r.length → (σ ++ [some (.ref p)])[j]? = σ[j]? := fun {j} h => List.getElem?_append_left (by omega)
  have sr : (σ ++ [some (.ref p)])[r.length]? = some (some (.ref p)) := by rw [List.getElem?_append_right (by omega), rl]; simp
  refine ⟨by simp [rl], R.sub, fun j d z => ?_, fun j q es z => ?_, fun j k q es q' es' a z1 z2 e1 e2 => ?_, R.tab⟩
  · rcases get z with ⟨h, z⟩ | ⟨h, e⟩
    · rw [sl h]; exact R.get j d z
    · cases e
  · rcases get z with ⟨h, z⟩ | ⟨h, e⟩
    · rw [sl h]; exact R.own j q es z
    · cases e
      subst h
      exact ⟨p, vs, sr, hH, hG, rv⟩
  · rcases get z1 with ⟨h1, z1⟩ | ⟨h1, g1⟩
    · rcases get z2 with ⟨h2, z2⟩ | ⟨h2, g2⟩
      · rw [sl h1] at e1
        rw [sl h2] at e2
        exact R.sep j k q es q' es' a z1 z2 e1 e2
      · subst h2
        rw [sr] at e2
        cases e2
        rw [sl h1] at e1
        exact absurd ⟨j, q, es, z1, e1⟩ hO
    · rcases get z2 with ⟨h2, z2⟩ | ⟨h2, g2⟩
      · subst h1
        rw [sr] at e1
        cases e1
        rw [sl h2] at e2
        exact absurd ⟨k, q', es', z2, e2⟩ hO
      · rw [h1, h2]
theorem cut_rel {K : PySem.W.Frag} {G H : Hp} {r r' : Ro} {σ : L2.St} {x : Option V} (R : Rel Θ K G H r' (σ ++ [x])) (hl : r.length = σ.length) : Rel Θ K G H (r'.take r.length) σ := by
  have l' := R.len
  rw [List.length_append, List.length_singleton] at l'
  have get : ∀ {j : Nat} {y : Option S}, (r'.take r.length)[j]? = some y → j < r.length ∧ r'[j]? = some y := fun {j y} z => by
    have h := (List.getElem?_eq_some_iff.mp z).1
    rw [List.length_take] at h
    rw [List.getElem?_take_of_lt (by omega)] at z
    exact ⟨by omega, z⟩
  have sl : ∀ {j : Nat}, j < r.length → (σ ++ [x])[j]? = σ[j]? := fun {j} h => List.getElem?_append_left (by omega)
  refine ⟨by rw [List.length_take]; omega, R.sub, fun j d z => ?_, fun j q es z => ?_, fun j k q es q' es' a z1 z2 e1 e2 => ?_, R.tab⟩
  · obtain ⟨h, z⟩ := get z
    rw [← sl h]; exact R.get j d z
  · obtain ⟨h, z⟩ := get z
    rw [← sl h]; exact R.own j q es z
  · obtain ⟨h1, z1⟩ := get z1
    obtain ⟨h2, z2⟩ := get z2
    exact R.sep j k q es q' es' a z1 z2 (by rw [sl h1]; exact e1) (by rw [sl h2]; exact e2)
def callT (n : Nat) (F : M D) (ds : List D) (as : List Ar) : M D := fun r => match callM n F (.s r.length :: as) (r ++ [some (.own false ds)]) with
  | some (d, r') => some (d, r'.take r.length)
  | none => none
theorem arR_push {K : PySem.W.Frag} {G : Hp} {σ : L2.St} {x : Option V} : ∀ {as : List Ar} {vs : List V}, ArR K G σ as vs → ArR K G (σ ++ [x]) as vs
  | [], _, h => h
  | .v d :: as, _, ⟨u, r, e, h1, h2⟩ => ⟨u, r, e, h1, arR_push h2⟩
  | .s i :: as, _, ⟨u, r, e, h1, h2⟩ => ⟨u, r, e, by rw [List.getElem?_append_left (List.getElem?_eq_some_iff.mp h1).1]; exact h1, arR_push h2⟩
theorem se_callT {k n : Nat} {f : Addr} {fd : FuncData} {ps : List Str} {F : M D} (G : FnOk X.prog X.w X.K X.mg X.base CX0 k f fd ps (spF Θ X.K n F)) (hr : Room k X.A) (hg : Gl X x) (hm : X.mg x = some (.ref f)) (hk : PySem.W.keepIn X.K (.ref f) = true) (hb : Binds X.K fd ps [])
    (hf : SF Θ X e ml) (ha : SR Θ X es mr) (hdb : (x == ("__debug__" : Str)) = false := by decide) (he : starEach (e :: es) X.env = (false, eval e X.env) :: starEach es X.env := by rfl) (hpl : (backTo pos (starEach es X.env)).any (·.1) = false := by rfl) :
    SE Θ X (.Call (.Name x p) (e :: es) [] pos) (bd ml fun ds => bd mr fun as => callT n F ds as) :=
  pe_imp (pe_call (E := E0) G hr hg hm hk hb .nil pass0 (pa_cons hf ha he) hdb he hpl) fun σ H Q q => by
    obtain ⟨G, r, R, d, r', e, k⟩ := q
    obtain ⟨ds, r1, e1, e2⟩ := bd_some e
    refine ⟨G, r, R, ds, r1, e1, fun G1 H1 p us R1 F1 h1 h2 h3 h4 h5 => ?_⟩
    obtain ⟨as, r2, e3, e4⟩ := bd_some e2
    refine ⟨G1, r1, R1, as, r2, e3, fun G2 H2 R2 F2 vs rs => ?_⟩
    obtain ⟨k1, k2, k3⟩ := F2.keep p _ h2 rfl h4
    have k3 := k3 h3
    unfold callT at e4
    split at e4
    · rename_i d' r3 e5
      cases e4
      have RP := push_rel R2 (Reps.mono F2.le _ _ h5) k1 k3 k2
      have rs' : ArR X.K G2 (σ ++ [some (.ref p)]) (.s r2.length :: as) (.ref p :: vs) := ⟨_, _, rfl, by rw [R2.len, List.getElem?_append_right (Nat.le_refl _)]; simp, arR_push rs⟩
      obtain ⟨hn, hd, ss, ss', g1, g2, rfl⟩ := callM_some e5
      show spF Θ X.K n F ((V.ref p :: vs) ++ []) H2 Q E0
      rw [List.append_nil]
      refine ⟨by rw [arR_length rs']; exact hn, G2, ss, args_rel RP g1 rs' hd, d, ss', g2, fun G3 H3 R3 F3 => ?_⟩
      obtain ⟨R4, F4⟩ := call_rel RP g1 rs' hd R3 F3
      have R5 := cut_rel (r := r2) R4 R2.len
      refine k G3 H3 R5 ⟨(F1.trans F2).le.trans F4.le, fun b u eb t nb => ?_, fun j fs z => ?_, fun j z => ?_, fun b h => (F1.trans F2).mono b (F4.mono b h)⟩
      · obtain ⟨m1, m2, m3⟩ := (F1.trans F2).keep b u eb t nb
        have np : b ≠ p := nw_ne h1 eb t
        have no : ¬ Owned (r2 ++ [some (.own false ds)]) (σ ++ [some (.ref p)]) b := fun ⟨j, q, es, z1, z2⟩ => by
          by_cases hj : j < r2.length
          · rw [List.getElem?_append_left hj] at z1
            rw [List.getElem?_append_left (by rw [← R2.len]; exact hj)] at z2
            exact m2 ⟨j, q, es, z1, z2⟩
          · have : j = r2.length := by
              have := (List.getElem?_eq_some_iff.mp z1).1
              simp at this; omega
            rw [this, R2.len, List.getElem?_append_right (Nat.le_refl _)] at z2
            simp at z2
            exact np z2.symm
        obtain ⟨n1, n2, n3⟩ := F4.keep b u m1 t no
        refine ⟨n1, fun ⟨j, q, es, z1, z2⟩ => n2 ?_, fun z => n3 (m3 z)⟩
        have hj := (List.getElem?_eq_some_iff.mp z1).1
        rw [List.length_take] at hj
        rw [List.getElem?_take_of_lt (by omega)] at z1
        exact ⟨j, q, es, z1, by rw [List.getElem?_append_left (by rw [← R2.len]; omega)]; exact z2⟩
      · obtain ⟨⟨fs1, z1⟩, _⟩ := (F1.trans F2).pin j fs z
        have hj := (List.getElem?_eq_some_iff.mp z1).1
        obtain ⟨⟨fs2, z2⟩, _⟩ := F4.pin j fs1 (by rw [List.getElem?_append_left hj]; exact z1)
        exact ⟨⟨fs2, by rw [List.getElem?_take_of_lt hj]; exact z2⟩, rfl⟩
      · obtain ⟨z1, _⟩ := (F1.trans F2).lck j z
        have hj := (List.getElem?_eq_some_iff.mp z1).1
        obtain ⟨z2, _⟩ := F4.lck j (by rw [List.getElem?_append_left hj]; exact z1)
        exact ⟨by rw [List.getElem?_take_of_lt hj]; exact z2, rfl⟩
    · cases e4
end
end Pk

namespace Pk
open PySem PySem.Spec PyProof.Rows L2
theorem hu200 {k : Nat} {A : Around} (h : Room k A) : A.units + 200 < cLine := by have := h.un; omega
end Pk

namespace Pk
open PySem PySem.Spec PyProof.Rows L2
/-! ### what a reading comes to -/
def wp {α : Type} (m : M α) (P : α → Ro → Prop) (r : Ro) : Prop := ∃ x r', m r = some (x, r') ∧ P x r'
section
variable {α β : Type} {m : M α} {k : α → M β} {P : β → Ro → Prop} {r : Ro} {i : Nat}
theorem w_bd (h : wp m (fun x r1 => wp (k x) P r1) r) : wp (bd m k) P r := by
  obtain ⟨x, r1, e, y, r2, e2, q⟩ := h
  exact ⟨y, r2, by unfold bd; rw [e]; exact e2, q⟩
theorem w_rt {x : β} (h : P x r) : wp (rt x) P r := ⟨x, r, rfl, h⟩
theorem w_of {o : Option β} {x : β} (e : o = some x) (h : P x r) : wp (of o) P r := ⟨x, r, by rw [e]; rfl, h⟩
theorem w_ld {P : D → Ro → Prop} {d : D} (e : r[i]? = some (some (.d d))) (h : P d r) : wp (ld i) P r := ⟨d, r, by unfold ld; rw [e], h⟩
theorem w_ldF {P : D → Ro → Prop} {d : D} (e : r[i]? = some (some (.d d))) (h : P d r) : wp (ldF i) P r := ⟨d, r, by unfold ldF; rw [e], h⟩
theorem w_ldO {P : D → Ro → Prop} {ds : List D} (e : r[i]? = some (some (.own false ds))) (h : P (.lst ds) (r.set i (some (.d (.lst ds))))) : wp (ldF i) P r := ⟨.lst ds, _, by unfold ldF; rw [e], h⟩
theorem w_own {P : List D → Ro → Prop} {p : Bool} {ds : List D} (e : r[i]? = some (some (.own p ds))) (h : P ds r) : wp (own i) P r := ⟨ds, r, by unfold own; rw [e], h⟩
theorem w_if {t : M Bool} {a b : M β} (h : wp t (fun x r1 => wp (if x = true then a else b) P r1) r) : wp (ifM t a b) P r := w_bd h
theorem w_seq {P : Fl → Ro → Prop} {m n : M Fl} (h : wp m (fun f r1 => match f with | .nx => wp n P r1 | x => P x r1) r) : wp (seqM m n) P r := by
  obtain ⟨f, r1, e, q⟩ := h
  cases f with
  | nx =>
    obtain ⟨y, r2, e2, q2⟩ := q
    exact ⟨y, r2, by unfold seqM; rw [e]; exact e2, q2⟩
  | _ => exact ⟨_, r1, by unfold seqM; rw [e], q⟩
theorem w_nil {P : Fl → Ro → Prop} (h : P .nx r) : wp nilM P r := ⟨.nx, r, rfl, h⟩
theorem w_ret {P : Fl → Ro → Prop} {m : M D} (h : wp m (fun d r1 => P (.rt d) r1) r) : wp (retM m) P r := by
  obtain ⟨d, r1, e, q⟩ := h
  exact ⟨.rt d, r1, by unfold retM bd; rw [e], q⟩
theorem w_nxt {P : Fl → Ro → Prop} {f : Ro → Option Ro} {r' : Ro} (e : f r = some r') (h : P .nx r') : wp (nxt f) P r := ⟨.nx, r', by unfold nxt; rw [e], h⟩
theorem w_fun {f : M β} {y : β} {r' : Ro} (e : f r = some (y, r')) (h : P y r') : wp f P r := ⟨y, r', e, h⟩
theorem w_mono {P Q : β → Ro → Prop} {m : M β} (h : wp m P r) (i : ∀ x r', P x r' → Q x r') : wp m Q r := by
  obtain ⟨x, r', e, q⟩ := h
  exact ⟨x, r', e, i x r' q⟩
theorem w_and {P : Bool → Ro → Prop} {a b : M Bool} (h : wp a (fun x r1 => if x = true then wp b P r1 else P false r1) r) : wp (andM a b) P r := by
  refine w_bd (w_mono h fun x r' q => ?_)
  cases x with
  | true => exact q
  | false => exact w_rt q
theorem w_or {P : Bool → Ro → Prop} {a b : M Bool} (h : wp a (fun x r1 => if x = true then P true r1 else wp b P r1) r) : wp (orM a b) P r := by
  refine w_bd (w_mono h fun x r' q => ?_)
  cases x with
  | false => exact q
  | true => exact w_rt q
theorem w_call {P : D → Ro → Prop} {n : Nat} {F : M D} {as : List Ar} {ss : Ro} (h1 : as.length = n) (h2 : (slots as).Nodup) (h3 : argS r as = some ss) (h : wp F (fun d ss' => P d (putB r as ss')) ss) : wp (callM n F as) P r := by
  obtain ⟨d, ss', e, q⟩ := h
  exact ⟨d, _, by unfold callM; rw [if_pos ⟨h1, h2⟩, h3]; dsimp only; rw [e], q⟩
theorem w_callN {P : List D → Ro → Prop} {n : Nat} {F : M (List D)} {as : List Ar} {ss : Ro} (h1 : as.length = n) (h2 : (slots as).Nodup) (h3 : argS r as = some ss) (h : wp F (fun d ss' => P d (putB r as ss')) ss) : wp (callN n F as) P r := by
  obtain ⟨d, ss', e, q⟩ := h
  exact ⟨d, _, by unfold callN; rw [if_pos ⟨h1, h2⟩, h3]; dsimp only; rw [e], q⟩
theorem w_callT {P : D → Ro → Prop} {n : Nat} {F : M D} {as : List Ar} {ds : List D} {ss : Ro} (h1 : (Ar.s r.length :: as).length = n) (h2 : (slots (.s r.length :: as)).Nodup) (h3 : argS (r ++ [some (.own false ds)]) (.s r.length :: as) = some ss)
    (h : wp F (fun d ss' => P d ((putB (r ++ [some (.own false ds)]) (.s r.length :: as) ss').take r.length)) ss) : wp (callT n F ds as) P r := by
  obtain ⟨d, ss', e, q⟩ := h
  refine ⟨d, _, ?_, q⟩
  unfold callT callM
  rw [if_pos ⟨h1, h2⟩, h3]
  dsimp only
  rw [e]
/-- a def's body -/
theorem w_body {P : D → Ro → Prop} {n nl : Nat} {m : M Fl} (hn : r.length = n) (h : wp m (fun f r' => match f with | .nx => P .non (outS r r') | .rt d => P d (outS r r') | _ => False) (r.map pinS ++ List.replicate nl none)) : wp (bodyF n nl m) P r := by
  obtain ⟨f, r', e, q⟩ := h
  cases f with
  | nx => exact ⟨.non, _, by unfold bodyF; rw [if_pos hn, e], q⟩
  | rt d => exact ⟨d, _, by unfold bodyF; rw [if_pos hn, e], q⟩
  | _ => exact q.elim
theorem w_bodyN {P : List D → Ro → Prop} {n nl : Nat} {m : M Fl} (hn : r.length = n) (h : wp m (fun f r' => match f with | .rf d => P d (outS r r') | _ => False) (r.map pinS ++ List.replicate nl none)) : wp (bodyN n nl m) P r := by
  obtain ⟨f, r', e, q⟩ := h
  cases f with
  | rf d => exact ⟨d, _, by unfold bodyN; rw [if_pos hn, e], q⟩
  | _ => exact q.elim
/-- a for loop, by an invariant over the number of turns -/
theorem w_for {P : Fl → Ro → Prop} {f : D → Ro → Option Ro} {b : M Fl} {ds : List D} (I : Nat → Ro → Prop) (h0 : I 0 r)
    (hs : ∀ i d r, ds[i]? = some d → I i r → ∃ r1, f d r = some r1 ∧ wp b (fun fl r2 => match fl with | .nx => I (i + 1) r2 | .ct => I (i + 1) r2 | .bk => P .nx r2 | x => P x r2) r1) (he : ∀ r, I ds.length r → P .nx r) : wp (forM f b ds) P r := by
  have go : ∀ (n : Nat) (i : Nat) (r : Ro), ds.length = i + n → I i r → wp (forM f b (ds.drop i)) P r := fun n => by
    induction n with
    | zero =>
      intro i r hl hi
      rw [List.drop_eq_nil_of_le (by omega)]
      have : i = ds.length := by omega
      subst this
      exact ⟨.nx, r, rfl, he r hi⟩
    | succ n ih =>
      intro i r hl hi
      have hlt : i < ds.length := by omega
      rw [List.drop_eq_getElem_cons hlt]
      obtain ⟨r1, e1, fl, r2, e2, q⟩ := hs i _ r (List.getElem?_eq_getElem hlt) hi
      have un : forM f b (ds[i] :: ds.drop (i + 1)) r = aft (forM f b (ds.drop (i + 1))) (some (fl, r2)) := by
        simp only [forM, e1, e2]
      cases fl with
      | nx =>
        obtain ⟨y, r3, e3, q3⟩ := ih (i + 1) r2 (by omega) q
        exact ⟨y, r3, by rw [un]; exact e3, q3⟩
      | ct =>
        obtain ⟨y, r3, e3, q3⟩ := ih (i + 1) r2 (by omega) q
        exact ⟨y, r3, by rw [un]; exact e3, q3⟩
      | bk => exact ⟨.nx, r2, by rw [un]; rfl, q⟩
      | rt d => exact ⟨.rt d, r2, by rw [un]; rfl, q⟩
      | rf d => exact ⟨.rf d, r2, by rw [un]; rfl, q⟩
  exact go ds.length 0 r (by omega) h0
/-- a while loop, by an invariant and a measure -/
theorem w_while {P : Fl → Ro → Prop} {t : M Bool} {b : M Fl} {N : Nat} (I : Nat → Ro → Prop) {n : Nat} (h0 : I n r) (hn : n < N)
    (hs : ∀ n r, I n r → wp t (fun x r1 => if x = true then wp b (fun fl r2 => match fl with | .nx => ∃ n', n' < n ∧ I n' r2 | .ct => ∃ n', n' < n ∧ I n' r2 | .bk => P .nx r2 | x => P x r2) r1 else P .nx r1) r) : wp (whileM t b N) P r := by
  have go : ∀ (N n : Nat) (r : Ro), n < N → I n r → wp (whileM t b N) P r := fun N => by
    induction N with
    | zero => intro n r h; omega
    | succ N ih =>
      intro n r hn hi
      obtain ⟨x, r1, e1, q⟩ := hs n r hi
      cases x with
      | false =>
        simp only [Bool.false_eq_true, if_false] at q
        exact ⟨.nx, r1, by simp only [whileM, e1], q⟩
      | true =>
        simp only [if_true] at q
        obtain ⟨fl, r2, e2, q⟩ := q
        have un : whileM t b (N + 1) r = aft (whileM t b N) (some (fl, r2)) := by simp only [whileM, e1, e2]
        cases fl with
        | nx =>
          obtain ⟨n', h1, h2⟩ := q
          obtain ⟨y, r3, e3, q3⟩ := ih n' r2 (by omega) h2
          exact ⟨y, r3, by rw [un]; exact e3, q3⟩
        | ct =>
          obtain ⟨n', h1, h2⟩ := q
          obtain ⟨y, r3, e3, q3⟩ := ih n' r2 (by omega) h2
          exact ⟨y, r3, by rw [un]; exact e3, q3⟩
        | bk => exact ⟨.nx, r2, by rw [un]; rfl, q⟩
        | rt d => exact ⟨.rt d, r2, by rw [un]; rfl, q⟩
        | rf d => exact ⟨.rf d, r2, by rw [un]; rfl, q⟩
  exact go N n r hn h0
/-- a comprehension, by an invariant over the turns and what is made so far -/
theorem w_lc {P : D → Ro → Prop} {mi : M (List D)} {f : D → Ro → Option Ro} {t : M Bool} {e : M D} {vs : List Nat} (h : wp mi (fun ds r => okW r vs = true ∧ wp (compM f t e vs ds []) (fun res r' => P (.lst res) (back r r' vs)) (wipeR r vs)) r) : wp (lcM mi f t e vs) P r := by
  obtain ⟨ds, r1, e1, hok, res, r2, e2, q⟩ := h
  exact ⟨.lst res, _, by unfold lcM bd; rw [e1]; dsimp only; rw [if_pos hok, e2], q⟩
theorem w_comp {P : List D → Ro → Prop} {f : D → Ro → Option Ro} {t : M Bool} {e : M D} {vs : List Nat} {ds : List D} (I : Nat → List D → Ro → Prop) (h0 : I 0 [] r)
    (hs : ∀ i d acc r, ds[i]? = some d → I i acc r → ∃ r1, f d r = some r1 ∧ wp t (fun x r2 => if x = true then wp e (fun y r3 => acc.length < sizeLine ∧ I (i + 1) (acc ++ [y]) (wipeR r3 vs)) r2 else I (i + 1) acc (wipeR r2 vs)) r1) (he : ∀ acc r, I ds.length acc r → P acc r) : wp (compM f t e vs ds []) P r := by
  have go : ∀ (n : Nat) (i : Nat) (acc : List D) (r : Ro), ds.length = i + n → I i acc r → wp (compM f t e vs (ds.drop i) acc) P r := fun n => by
    induction n with
    | zero =>
      intro i acc r hl hi
      rw [List.drop_eq_nil_of_le (by omega)]
      have : i = ds.length := by omega
      subst this
      exact ⟨acc, r, rfl, he acc r hi⟩
    | succ n ih =>
      intro i acc r hl hi
      have hlt : i < ds.length := by omega
      rw [List.drop_eq_getElem_cons hlt]
      obtain ⟨r1, e1, x, r2, e2, q⟩ := hs i _ acc r (List.getElem?_eq_getElem hlt) hi
      cases x with
      | false =>
        simp only [Bool.false_eq_true, if_false] at q
        obtain ⟨y, r3, e3, q3⟩ := ih (i + 1) acc _ (by omega) q
        exact ⟨y, r3, by simp only [compM, e1, e2]; exact e3, q3⟩
      | true =>
        simp only [if_true] at q
        obtain ⟨y, r3, e3, hl2, q⟩ := q
        obtain ⟨z, r4, e4, q4⟩ := ih (i + 1) _ _ (by omega) q
        exact ⟨z, r4, by simp only [compM, e1, e2, e3, if_pos hl2]; exact e4, q4⟩
  exact go ds.length 0 [] r (by omega) h0
end
/-! ### single steps -/
theorem w_modD {x y : Int} (h : y ≠ 0) : modD (.int x) (.int y) = some (.int (x.fmod y)) := by simp [modD, onI, h]
theorem w_fdivD {x y : Int} (h : y ≠ 0) (h2 : y.natAbs.log2 < 9000) : fdivD (.int x) (.int y) = some (.int (x.fdiv y)) := by simp [fdivD, onI, h, h2]
theorem w_mulD {x y : Int} (h : x.natAbs.log2 + y.natAbs.log2 < 67108864) : mulD (.int x) (.int y) = some (.int (x * y)) := by simp only [mulD]; rw [if_pos h]
theorem w_powD {x y : Int} (h0 : 0 ≤ y) (h1 : y ≤ 1000000) (h2 : x.natAbs < 2 ^ 64) : powD (.int x) (.int y) = some (.int (x ^ y.toNat)) := by
  have h : decide (0 ≤ y ∧ y ≤ 1000000 ∧ x.natAbs < 2 ^ 64) = true := by rw [decide_eq_true_eq]; exact ⟨h0, h1, h2⟩
  simp only [powD, onI, h, if_true]
theorem w_eqI {x y : Int} : eqD (.int x) (.int y) = some (.bl (x == y)) := by simp [eqD, okEq, eqv, D.py, PyData.canLay0, PyData.depth, PyData.eqv]
theorem w_neI {x y : Int} : neD (.int x) (.int y) = some (.bl (!(x == y))) := by simp [neD, okEq, eqv, D.py, PyData.canLay0, PyData.depth, PyData.eqv]
theorem w_eqS {x y : Str} (hx : PyData.strOk x = true) (hy : PyData.strOk y = true) : eqD (.str x) (.str y) = some (.bl (x == y)) := by simp [eqD, okEq, eqv, D.py, PyData.canLay0, PyData.depth, PyData.eqv, hx, hy]
theorem w_neS {x y : Str} (hx : PyData.strOk x = true) (hy : PyData.strOk y = true) : neD (.str x) (.str y) = some (.bl (!(x == y))) := by simp [neD, okEq, eqv, D.py, PyData.canLay0, PyData.depth, PyData.eqv, hx, hy]
theorem w_itT {β : Type} {a b : M β} {P : β → Ro → Prop} {r : Ro} (h : wp a P r) : wp (if true = true then a else b) P r := by rw [if_pos rfl]; exact h
theorem w_itF {β : Type} {a b : M β} {P : β → Ro → Prop} {r : Ro} (h : wp b P r) : wp (if false = true then a else b) P r := by rw [if_neg Bool.false_ne_true]; exact h
theorem w_it {β : Type} {c : Bool} {a b : M β} {P : β → Ro → Prop} {r : Ro} (h1 : c = true → wp a P r) (h2 : c = false → wp b P r) : wp (if c = true then a else b) P r := by
  cases c with
  | true => exact w_itT (h1 rfl)
  | false => exact w_itF (h2 rfl)
theorem p_itT {a b : Prop} (h : a) : if true = true then a else b := by rw [if_pos rfl]; exact h
theorem p_itF {a b : Prop} (h : b) : if false = true then a else b := by rw [if_neg Bool.false_ne_true]; exact h
theorem p_it {c : Bool} {a b : Prop} (h1 : c = true → a) (h2 : c = false → b) : if c = true then a else b := by
  cases c with
  | true => exact p_itT (h1 rfl)
  | false => exact p_itF (h2 rfl)
theorem w_ifT {β : Type} {c : Bool} {a b : M β} {P : β → Ro → Prop} {r : Ro} (e : c = true) (h : wp a P r) : wp (if c = true then a else b) P r := by rw [if_pos e]; exact h
theorem w_ifF {β : Type} {c : Bool} {a b : M β} {P : β → Ro → Prop} {r : Ro} (e : c = false) (h : wp b P r) : wp (if c = true then a else b) P r := by rw [e, if_neg Bool.false_ne_true]; exact h
theorem p_ifT {c : Bool} {a b : Prop} (e : c = true) (h : a) : if c = true then a else b := by rw [if_pos e]; exact h
theorem p_ifF {c : Bool} {a b : Prop} (e : c = false) (h : b) : if c = true then a else b := by rw [e, if_neg Bool.false_ne_true]; exact h
theorem eqv_int (a b : Int) : eqv (.int a) (.int b) = (a == b) := by simp [eqv, D.py, PyData.eqv]
theorem eqv_str (a b : Str) : eqv (.str a) (.str b) = (a == b) := by simp [eqv, D.py, PyData.eqv]
/-! ### indexes, texts -/
theorem atI_in {α : Type} {xs : List α} {i : Int} (h0 : 0 ≤ i) (h1 : i < (xs.length : Int)) : ∃ x, x ∈ xs ∧ xs[i.toNat]? = some x ∧ L2.atI xs i = some x := by
  have hl : i.toNat < xs.length := by omega
  refine ⟨xs[i.toNat], List.getElem_mem hl, List.getElem?_eq_getElem hl, ?_⟩
  unfold L2.atI ixN
  rw [if_pos h0, if_pos h1]
  exact List.getElem?_eq_getElem hl
theorem w_ixT {ds : List D} {i : Int} (h0 : 0 ≤ i) (h1 : i < (ds.length : Int)) : ∃ x, x ∈ ds ∧ ds[i.toNat]? = some x ∧ ixD (.tup ds) (.int i) = some x := atI_in h0 h1
theorem w_ixL {ds : List D} {i : Int} (h0 : 0 ≤ i) (h1 : i < (ds.length : Int)) : ∃ x, x ∈ ds ∧ ds[i.toNat]? = some x ∧ ixD (.lst ds) (.int i) = some x := atI_in h0 h1
theorem w_ixR {ds : List D} {i : Int} (h0 : 0 ≤ i) (h1 : i < (ds.length : Int)) : ∃ x, x ∈ ds ∧ ds[i.toNat]? = some x ∧ ixD (.ro ds) (.int i) = some x := atI_in h0 h1
theorem w_ixS {z : Str} {i : Int} (hz : z.length ≤ sizeLine) (h0 : 0 ≤ i) (h1 : i < (z.length : Int)) : ∃ c, c ∈ z.cps.toList ∧ ixD (.str z) (.int i) = some (.str ⟨#[c]⟩) := by
  obtain ⟨c, h2, _, h3⟩ := atI_in (xs := z.cps.toList) h0 (by rw [Array.length_toList]; exact h1)
  refine ⟨c, h2, ?_⟩
  simp only [ixD, if_pos hz, h3]
  rfl
/-- a string of the document -/
def COk (c : Nat) : Prop := 32 ≤ c ∧ c ≤ 126 ∧ c ≠ 37
instance (c : Nat) : Decidable (COk c) := by unfold COk; exact inferInstance
def SOk (x : Str) : Prop := (∀ c ∈ x.cps.toList, COk c) ∧ x.length ≤ 100
theorem SOk.str {x : Str} (h : SOk x) : PyData.strOk x = true := by
  unfold PyData.strOk
  rw [← Array.all_toList, List.all_eq_true]
  intro c hc
  have := h.1 c hc
  unfold COk at this
  simp; omega
theorem sok_by {x : Str} (h : (x.cps.toList.all (fun c => decide (COk c)) && decide (x.length ≤ 100)) = true) : SOk x := by
  rw [Bool.and_eq_true, List.all_eq_true, decide_eq_true_eq] at h
  exact ⟨fun c hc => of_decide_eq_true (h.1 c hc), h.2⟩
theorem app_cps (x y : Str) : (x ++ y).cps.toList = x.cps.toList ++ y.cps.toList := by
  show (x.cps ++ y.cps).toList = _
  exact Array.toList_append
theorem app_len (x y : Str) : (x ++ y).length = x.length + y.length := by
  show (x.cps ++ y.cps).size = _
  exact Array.size_append
theorem SOk.app {x y : Str} (hx : ∀ c ∈ x.cps.toList, COk c) (hy : ∀ c ∈ y.cps.toList, COk c) (hl : x.length + y.length ≤ 100) : SOk (x ++ y) := by
  refine ⟨fun c hc => ?_, by rw [app_len]; exact hl⟩
  rw [app_cps] at hc
  rcases List.mem_append.mp hc with h | h
  · exact hx c h
  · exact hy c h
theorem join_cps : ∀ ys : List Str, (Str.join Str.empty ys).cps.toList = (ys.map fun y => y.cps.toList).flatten
  | [] => rfl
  | [x] => by simp [Str.join]
  | x :: y :: r => by
    show (x ++ Str.empty ++ Str.join Str.empty (y :: r)).cps.toList = _
    rw [app_cps, app_cps, join_cps (y :: r)]
    show x.cps.toList ++ [] ++ _ = _
    simp
theorem w_env {β : Type} {m : M β} {P : β → Ro → Prop} {r r' : Ro} (e : r = r') (h : wp m P r') : wp m P r := by rw [e]; exact h
theorem p_env {β : Type} {P : β → Ro → Prop} {x : β} {r r' : Ro} (e : r = r') (h : P x r') : P x r := by rw [e]; exact h
/-! ### one step each, by its head -/
section
variable {r : Ro} {a b : Int} {x y : Str} {ds : List D} {d : D}
theorem o_asB {P : Bool → Ro → Prop} {k : Bool} (h : P k r) : wp (of (asB (.bl k))) P r := w_of rfl h
theorem o_asI {P : Option Int → Ro → Prop} (h : P (some a) r) : wp (of (asI (.int a))) P r := w_of rfl h
theorem o_asS {P : Str → Ro → Prop} (h : P x r) : wp (of (asS (.str x))) P r := w_of rfl h
theorem o_truB {P : Bool → Ro → Prop} {k : Bool} (h : P k r) : wp (of (truD (.bl k))) P r := w_of rfl h
theorem o_truN {P : Bool → Ro → Prop} (h : P false r) : wp (of (truD .non)) P r := w_of rfl h
theorem o_truT {P : Bool → Ro → Prop} (h : P (!ds.isEmpty) r) : wp (of (truD (.tup ds))) P r := w_of rfl h
theorem o_truL {P : Bool → Ro → Prop} (h : P (!ds.isEmpty) r) : wp (of (truD (.lst ds))) P r := w_of rfl h
variable {P : D → Ro → Prop}
theorem o_intI (h : P (.int a) r) : wp (of (intD [.int a])) P r := w_of rfl h
theorem o_intB {k : Bool} (h : P (.int (if k then 1 else 0)) r) : wp (of (intD [.bl k])) P r := w_of rfl h
theorem o_lenT (h : P (.int ds.length) r) : wp (of (lenD [.tup ds])) P r := w_of rfl h
theorem o_lenL (h : P (.int ds.length) r) : wp (of (lenD [.lst ds])) P r := w_of rfl h
theorem o_lenR (h : P (.int ds.length) r) : wp (of (lenD [.ro ds])) P r := w_of rfl h
theorem o_listT (h : P (.lst ds) r) : wp (of (listD [.tup ds])) P r := w_of rfl h
theorem o_listL (h : P (.lst ds) r) : wp (of (listD [.lst ds])) P r := w_of rfl h
theorem o_tupleT (h : P (.tup ds) r) : wp (of (tupleD [.tup ds])) P r := w_of rfl h
theorem o_tupleL (h : P (.tup ds) r) : wp (of (tupleD [.lst ds])) P r := w_of rfl h
theorem o_addI (h : P (.int (a + b)) r) : wp (of (addD (.int a) (.int b))) P r := w_of rfl h
theorem o_subI (h : P (.int (a - b)) r) : wp (of (subD (.int a) (.int b))) P r := w_of rfl h
theorem o_modI (e : b ≠ 0) (h : P (.int (a.fmod b)) r) : wp (of (modD (.int a) (.int b))) P r := w_of (w_modD e) h
theorem o_fdivI (e : b ≠ 0) (e2 : b.natAbs.log2 < 9000) (h : P (.int (a.fdiv b)) r) : wp (of (fdivD (.int a) (.int b))) P r := w_of (w_fdivD e e2) h
theorem o_mulI (e : a.natAbs.log2 + b.natAbs.log2 < 67108864) (h : P (.int (a * b)) r) : wp (of (mulD (.int a) (.int b))) P r := w_of (w_mulD e) h
theorem o_powI (h0 : 0 ≤ b) (h1 : b ≤ 1000000) (h2 : a.natAbs < 2 ^ 64) (h : P (.int (a ^ b.toNat)) r) : wp (of (powD (.int a) (.int b))) P r := w_of (w_powD h0 h1 h2) h
theorem o_negI (h : P (.int (-a)) r) : wp (of (negD (.int a))) P r := w_of rfl h
theorem o_minI (h : P (.int (if b < a then b else a)) r) : wp (of (minD [.int a, .int b])) P r := w_of rfl h
theorem o_maxI (h : P (.int (if b > a then b else a)) r) : wp (of (maxD [.int a, .int b])) P r := w_of rfl h
theorem o_eqI (h : P (.bl (a == b)) r) : wp (of (eqD (.int a) (.int b))) P r := w_of w_eqI h
theorem o_neI (h : P (.bl (!(a == b))) r) : wp (of (neD (.int a) (.int b))) P r := w_of w_neI h
theorem o_eqS (hx : PyData.strOk x = true) (hy : PyData.strOk y = true) (h : P (.bl (x == y)) r) : wp (of (eqD (.str x) (.str y))) P r := w_of (w_eqS hx hy) h
theorem o_neS (hx : PyData.strOk x = true) (hy : PyData.strOk y = true) (h : P (.bl (!(x == y))) r) : wp (of (neD (.str x) (.str y))) P r := w_of (w_neS hx hy) h
theorem o_ltI (h : P (.bl (decide (a < b))) r) : wp (of (ltD (.int a) (.int b))) P r := w_of rfl h
theorem o_leI (h : P (.bl (decide (a ≤ b))) r) : wp (of (leD (.int a) (.int b))) P r := w_of rfl h
theorem o_gtI (h : P (.bl (decide (b < a))) r) : wp (of (gtD (.int a) (.int b))) P r := w_of rfl h
theorem o_geI (h : P (.bl (decide (b ≤ a))) r) : wp (of (geD (.int a) (.int b))) P r := w_of rfl h
theorem o_ltS (h : P (.bl (decide (x.cps.toList < y.cps.toList))) r) : wp (of (ltD (.str x) (.str y))) P r := w_of rfl h
theorem o_gtS (h : P (.bl (decide (y.cps.toList < x.cps.toList))) r) : wp (of (gtD (.str x) (.str y))) P r := w_of rfl h
theorem o_leS (h : P (.bl (!decide (y.cps.toList < x.cps.toList))) r) : wp (of (leD (.str x) (.str y))) P r := w_of rfl h
theorem o_geS (h : P (.bl (!decide (x.cps.toList < y.cps.toList))) r) : wp (of (geD (.str x) (.str y))) P r := w_of rfl h
theorem o_isN (h : P (.bl d.isNon) r) : wp (of (isD d .non)) P r := w_of rfl h
theorem o_isNotN (h : P (.bl (!d.isNon)) r) : wp (of (isNotD d .non)) P r := w_of rfl h
theorem o_mkT {d e f g : D} : (P (.tup []) r → wp (of (mkT [])) P r) ∧ (P (.tup [d]) r → wp (of (mkT [d])) P r) ∧ (P (.tup [d, e]) r → wp (of (mkT [d, e])) P r) ∧ (P (.tup [d, e, f]) r → wp (of (mkT [d, e, f])) P r) ∧ (P (.tup [d, e, f, g]) r → wp (of (mkT [d, e, f, g])) P r) :=
  ⟨fun h => w_of rfl h, fun h => w_of rfl h, fun h => w_of rfl h, fun h => w_of rfl h, fun h => w_of rfl h⟩
theorem o_mkT0 (h : P (.tup []) r) : wp (of (mkT [])) P r := w_of rfl h
theorem o_mkT1 {d : D} (h : P (.tup [d]) r) : wp (of (mkT [d])) P r := w_of rfl h
theorem o_mkT2 {d e : D} (h : P (.tup [d, e]) r) : wp (of (mkT [d, e])) P r := w_of rfl h
theorem o_mkL (hl : ds.length ≤ 1000) (h : P (.lst ds) r) : wp (of (mkL ds)) P r := w_of (by unfold mkL; rw [if_pos (Nat.le_trans hl (by decide))]) h
theorem o_mkT_ (hl : ds.length ≤ 1000) (h : P (.tup ds) r) : wp (of (mkT ds)) P r := w_of (by unfold mkT; rw [if_pos (Nat.le_trans hl (by decide))]) h
theorem o_ixT {i : Nat} (e : ds[i]? = some d) (h : P d r) : wp (of (ixD (.tup ds) (.int (i : Nat)))) P r := w_of (show L2.atI ds _ = _ from atI_nat e) h
theorem o_isi {T : String} {k : Bool} (e : isiD T d = some (.bl k)) (h : P (.bl k) r) : wp (of (isiD T d)) P r := w_of e h
end
section
variable {i : Int} {b : Bool} {x : Str} {ds : List D}
theorem i_int : isiD "int" (.int i) = some (.bl true) ∧ isiD "int" (.bl b) = some (.bl true) ∧ isiD "int" (.str x) = some (.bl false) ∧ isiD "int" (.tup ds) = some (.bl false) ∧ isiD "int" .non = some (.bl false) := ⟨rfl, rfl, rfl, rfl, rfl⟩
theorem i_bool : isiD "bool" (.int i) = some (.bl false) ∧ isiD "bool" (.bl b) = some (.bl true) ∧ isiD "bool" (.str x) = some (.bl false) ∧ isiD "bool" (.tup ds) = some (.bl false) ∧ isiD "bool" .non = some (.bl false) := ⟨rfl, rfl, rfl, rfl, rfl⟩
theorem i_str : isiD "str" (.int i) = some (.bl false) ∧ isiD "str" (.bl b) = some (.bl false) ∧ isiD "str" (.str x) = some (.bl true) ∧ isiD "str" (.tup ds) = some (.bl false) ∧ isiD "str" .non = some (.bl false) := ⟨rfl, rfl, rfl, rfl, rfl⟩
theorem i_tuple : isiD "tuple" (.int i) = some (.bl false) ∧ isiD "tuple" (.bl b) = some (.bl false) ∧ isiD "tuple" (.str x) = some (.bl false) ∧ isiD "tuple" (.tup ds) = some (.bl true) ∧ isiD "tuple" .non = some (.bl false) := ⟨rfl, rfl, rfl, rfl, rfl⟩
end
/-- a comprehension that changes nothing else -/
theorem w_comp_pure {P : List D → Ro → Prop} {f : D → Ro → Option Ro} {t : M Bool} {e : M D} {vs : List Nat} {ds : List D} {r : Ro} (p : D → Bool) (g : D → D)
    (hs : ∀ d ∈ ds, ∃ r1, f d r = some r1 ∧ wp t (fun b r2 => b = p d ∧ r2 = r1) r1 ∧ (p d = true → wp e (fun y r3 => y = g d ∧ wipeR r3 vs = r) r1) ∧ wipeR r1 vs = r) (hl : ds.length ≤ sizeLine) (h : P ((ds.filter p).map g) r) : wp (compM f t e vs ds []) P r := by
  refine w_comp (fun i acc r' => r' = r ∧ acc = ((ds.take i).filter p).map g) ⟨rfl, by simp⟩ ?_ ?_
  · rintro i d acc r' hd ⟨rfl, rfl⟩
    have hm : d ∈ ds := List.mem_of_getElem? hd
    obtain ⟨r1, e1, wt, we, hw⟩ := hs d hm
    have hi : i < ds.length := (List.getElem?_eq_some_iff.mp hd).1
    have ht : ds.take (i + 1) = ds.take i ++ [d] := by
      rw [List.take_succ, hd]; rfl
    refine ⟨r1, e1, w_mono wt ?_⟩
    rintro b r2 ⟨rfl, rfl⟩
    by_cases hp : p d = true
    · rw [if_pos hp]
      refine w_mono (we hp) ?_
      rintro y r3 ⟨rfl, h3⟩
      refine ⟨?_, h3, ?_⟩
      · have : (((ds.take i).filter p).map g).length ≤ i := by
          rw [List.length_map]
          exact Nat.le_trans (List.length_filter_le _ _) (by rw [List.length_take]; omega)
        omega
      · rw [ht, List.filter_append, List.map_append]
        simp [hp]
    · rw [if_neg hp]
      refine ⟨hw, ?_⟩
      rw [ht, List.filter_append]
      simp [hp]
  · rintro acc r' ⟨rfl, rfl⟩
    rw [List.take_length]
    exact h
theorem addT {x y : List D} (h : x.length + y.length ≤ 10000) : addD (.tup x) (.tup y) = some (.tup (x ++ y)) := by
  simp only [addD]
  rw [if_pos (Nat.le_trans h (by decide))]
theorem addL {x y : List D} (h : x.length + y.length ≤ 10000) : addD (.lst x) (.lst y) = some (.lst (x ++ y)) := by
  simp only [addD]
  rw [if_pos (Nat.le_trans h (by decide))]
theorem w_rng {z : Int} (h0 : 0 ≤ z) (h1 : z < 1000000) : rng1 [.int z] = some (rng 0 z.toNat) := by
  show (if -(2 ^ 62) ≤ z ∧ z < 2 ^ 62 then some (rng 0 z.toNat) else none) = _
  rw [if_pos ⟨by omega, by omega⟩]
theorem rng_len (lo : Int) (n : Nat) : (rng lo n).length = n := by simp [rng]
theorem rng_at {lo : Int} {n i : Nat} {d : D} (h : (rng lo n)[i]? = some d) : i < n ∧ d = .int (lo + i) := by
  have hi : i < n := by
    have := (List.getElem?_eq_some_iff.mp h).1
    rwa [rng_len] at this
  unfold rng at h
  rw [List.getElem?_map, List.getElem?_range hi] at h
  exact ⟨hi, (Option.some.inj h).symm⟩
theorem so_list : PyData.strOk (Str.ofString "list") = true := SOk.str (sok_by (by decide +kernel))
theorem so_object : PyData.strOk (Str.ofString "object") = true := SOk.str (sok_by (by decide +kernel))
theorem so_null : PyData.strOk (Str.ofString "null") = true := SOk.str (sok_by (by decide +kernel))
theorem so_bool : PyData.strOk (Str.ofString "bool") = true := SOk.str (sok_by (by decide +kernel))
theorem so_int : PyData.strOk (Str.ofString "int") = true := SOk.str (sok_by (by decide +kernel))
theorem so_text : PyData.strOk (Str.ofString "text") = true := SOk.str (sok_by (by decide +kernel))
theorem nd0 : ([] : List Nat).Nodup := List.nodup_nil
theorem nd1 {i : Nat} : [i].Nodup := by simp
theorem w_chain {g g' : D → D → Option D} {a b c : M D} {P : D → Ro → Prop} {r : Ro} (h : wp (bd a fun x => bd b fun y => bd (of (g x y)) fun z => bd (of (asB z)) fun k => if k = true then bd c fun w => of (g' y w) else rt (.bl false)) P r) : wp (chainM g g' a b c) P r := h
theorem w_andV {a b : M D} {P : D → Ro → Prop} {r : Ro} (h : wp (bd a fun x => bd (of (asB x)) fun k => if k = true then b else rt (.bl false)) P r) : wp (andV a b) P r := h
theorem w_orV {a b : M D} {P : D → Ro → Prop} {r : Ro} (h : wp (bd a fun x => bd (of (asB x)) fun k => if k = true then rt (.bl true) else b) P r) : wp (orV a b) P r := h
theorem o_ix {a b d : D} {P : D → Ro → Prop} {r : Ro} (e : ixD a b = some d) (h : P d r) : wp (of (ixD a b)) P r := w_of e h
end Pk

namespace Pk
open PySem L2 PyProof.Rows
section
variable {X : Cx} {K : PySem.W.Frag} {pos : Pos} {tg iter : Expr} {σ : L2.St} {H : Hp} {i : Nat}
theorem comp_coreA {J : It} {ds : List D} {f : D → Ro → Option Ro} {t : M Bool} {me : M D} {vs : List Nat} {G0 H0 : Hp} {r0 : Ro} {σ : L2.St} {acc0 : List V} {accD0 : List D} {Q : Hp → Prop} {C : Hp → Prop} {P : Hp → Hp → Ro → Prop} {res : List D} {rf : Ro} {p : Addr}
    (hW : Wk K J ds G0 C) (hP : ∀ G H r G' H' r', P G H r → Fr G H r (wipe σ vs) G' H' r' (wipe σ vs) → P G' H' r') (hPu : ∀ G H r o, P G H r → P G (upd H p o) r) (hC : ∀ G H r, P G H r → C H) (p0 : P G0 H0 r0)
    (R0 : Rel Θ K G0 H0 r0 (wipe σ vs)) (hw0 : ∀ j, j ∈ vs → ∀ x, r0[j]? ≠ some (some x)) (hp : H0 p = none) (rs0 : Reps K G0 accD0 acc0) (c0 : compM f t me vs ds accD0 r0 = some (res, rf))
    (hQ : ∀ G H acc, Rel Θ K G H rf (wipe σ vs) → (∀ j, j ∈ vs → ∀ x, rf[j]? ≠ some (some x)) → Fr G0 H0 r0 (wipe σ vs) G H rf (wipe σ vs) → H p = some (.lst acc) → G p = none → ¬ Owned rf (wipe σ vs) p → Reps K G res acc → Q H) :
    ∃ W : Nat → Nat → Hp → Prop, (∃ m, W 0 m (upd H0 p (.lst acc0))) ∧ ∀ i m H, W i m H →
      (J.stop i H ∧ Q H) ∨ (J.go i H ∧ ∃ Nx : Hp → Prop, (∀ H', Nx H' → ∃ m', m' < m ∧ W (i + 1) m' H') ∧ ∀ x H', J.yld i H x H' → rdW Θ K vs f x (wipe σ vs) H' fun σ2 H2 => wipe σ2 vs = wipe σ vs ∧ rdT Θ K t σ2 H2 fun b H3 =>
        if b = true then rdE Θ K me σ2 H3 fun y H4 => ∃ acc, H4 p = some (.lst acc) ∧ acc.length < sizeLine ∧ Nx (upd H4 p (.lst (acc ++ [y]))) else Nx H3) := by
  have gp0 : G0 p = none := free_of R0.sub hp
  have op0 : ¬ Owned r0 (wipe σ vs) p := fun ⟨j, q, fs, z1, z2⟩ => by
    obtain ⟨a, us, h1, h2, _⟩ := R0.own j q fs z1
    rw [h1] at z2
    cases z2
    rw [hp] at h2; cases h2
  let St := fun (G H : Hp) (r : Ro) (acc : List V) (accD : List D) => Rel Θ K G H r (wipe σ vs) ∧ (∀ j, j ∈ vs → ∀ x, r[j]? ≠ some (some x)) ∧ Fr G0 H0 r0 (wipe σ vs) G H r (wipe σ vs) ∧ P G H r ∧ H p = some (.lst acc) ∧ G p = none ∧ ¬ Owned r (wipe σ vs) p ∧ Reps K G accD acc
  refine ⟨fun i m H => m = ds.length - i ∧ i ≤ ds.length ∧ ∃ G r acc accD, St G H r acc accD ∧ compM f t me vs (ds.drop i) accD r = some (res, rf), ⟨ds.length, by simp, Nat.zero_le _, G0, r0, acc0, accD0, ⟨side_rel R0 gp0 op0 (.inl hp), hw0, ?_, hPu _ _ _ _ p0, upd_same, gp0, op0, rs0⟩, by simpa using c0⟩, ?_⟩
  · exact ⟨Same.refl _, fun b u e _ n => ⟨by rw [upd_ne (ne_of_none e hp)]; exact e, n, fun z => z⟩, fun j ds z => ⟨⟨ds, z⟩, rfl⟩, fun j z => ⟨z, rfl⟩, fun b h => same_nw (same_new hp _) h⟩
  rintro i m H ⟨rfl, hi, G, r, acc, accD, ⟨R, hw, F, pp, hHp, hGp, hOp, rs⟩, c⟩
  obtain ⟨w1, w2⟩ := hW G H F.le R.sub (hC _ _ _ pp)
  by_cases hlt : i < ds.length
  · have hd : ds[i]? = some ds[i] := List.getElem?_eq_getElem hlt
    obtain ⟨g, y⟩ := w2 i _ hd
    rw [List.drop_eq_getElem_cons hlt] at c
    simp only [compM] at c
    cases e1 : f ds[i] r with
    | none => rw [e1] at c; cases c
    | some r1 =>
      rw [e1] at c
      dsimp only at c
      refine .inr ⟨g, fun H' => ∃ G' r' acc' accD', St G' H' r' acc' accD' ∧ compM f t me vs (ds.drop (i + 1)) accD' r' = some (res, rf), fun H' ⟨G', r', acc', accD', st', c'⟩ => ⟨ds.length - (i + 1), by omega, rfl, hlt, G', r', acc', accD', st', c'⟩, fun x H1 hy => ?_⟩
      obtain ⟨G1, ex, rx⟩ := y x H1 hy
      refine ⟨G1, r, _, r1, ex.rel R, rx, e1, fun σ2 R2 F2 ws => ?_⟩
      rw [wipe_wipe] at ws
      have F1 : Fr G H r (wipe σ vs) G1 H1 r1 σ2 := (ex.fr r _).trans F2
      refine ⟨ws, ?_⟩
      -- from a row over σ2 back to a wiped one
      have fin : ∀ (G5 H5 : Hp) (r5 : Ro), Rel Θ K G5 H5 r5 σ2 → Fr G H r (wipe σ vs) G5 H5 r5 σ2 → Rel Θ K G5 H5 (wipeR r5 vs) (wipe σ vs) ∧ Fr G H r (wipe σ vs) G5 H5 (wipeR r5 vs) (wipe σ vs) := fun G5 H5 r5 R5 F5 => by
        have Rw := wipe_rel (vs := vs) R5
        rw [ws] at Rw
        refine ⟨Rw, F5.le, fun b u e t n => ?_, fun j fs z => ?_, fun j z => ?_, F5.mono⟩
        · obtain ⟨h1, h2, h3⟩ := F5.keep b u e t n
          refine ⟨h1, fun z => h2 ?_, h3⟩
          rw [← ws] at z
          exact wipe_owned z
        · have hj : j ∉ vs := fun hj => hw j hj _ z
          obtain ⟨⟨fs', h1⟩, h2⟩ := F5.pin j fs z
          exact ⟨⟨fs', by rw [wipeR_out hj]; exact h1⟩, rfl⟩
        · have hj : j ∉ vs := fun hj => hw j hj _ z
          obtain ⟨h1, h2⟩ := F5.lck j z
          exact ⟨by rw [wipeR_out hj]; exact h1, rfl⟩
      have hww : ∀ (r5 : Ro) (j : Nat), j ∈ vs → ∀ x, (wipeR r5 vs)[j]? ≠ some (some x) := fun r5 j hj x z => (wipeR_get z).2 hj
      cases e2 : t r1 with
      | none => rw [e2] at c; cases c
      | some q =>
        obtain ⟨bb, r2⟩ := q
        rw [e2] at c
        refine ⟨G1, r1, R2, bb, r2, e2, fun G3 H3 R3 F3 => ?_⟩
        have F13 := F1.trans F3
        cases bb with
        | false =>
          dsimp only at c ⊢
          rw [if_neg Bool.false_ne_true]
          obtain ⟨Rw, Fw⟩ := fin G3 H3 r2 R3 F13
          obtain ⟨k1, k2, k3⟩ := Fw.keep p _ hHp rfl hOp
          exact ⟨G3, wipeR r2 vs, acc, accD, ⟨Rw, hww r2, F.trans Fw, hP _ _ _ _ _ _ pp Fw, k1, k3 hGp, k2, Reps.mono Fw.le _ _ rs⟩, c⟩
        | true =>
          dsimp only at c ⊢
          rw [if_pos rfl]
          cases e3 : me r2 with
          | none => rw [e3] at c; cases c
          | some q =>
            obtain ⟨yy, r3⟩ := q
            rw [e3] at c
            dsimp only at c
            refine ⟨G3, r2, R3, yy, r3, e3, fun G4 H4 R4 F4 vy ry => ?_⟩
            have F14 := F13.trans F4
            obtain ⟨Rw, Fw⟩ := fin G4 H4 r3 R4 F14
            obtain ⟨k1, k2, k3⟩ := Fw.keep p _ hHp rfl hOp
            split at c
            · rename_i hl
              refine ⟨acc, k1, by rw [rs.length]; exact hl, G4, wipeR r3 vs, acc ++ [vy], accD ++ [yy], ⟨side_rel Rw (k3 hGp) k2 (.inr ⟨_, k1⟩), hww r3, ?_, hPu _ _ _ _ (hP _ _ _ _ _ _ pp Fw), upd_same, k3 hGp, k2, (Reps.mono Fw.le _ _ rs).snoc ry⟩, c⟩
              have FF := F.trans Fw
              exact ⟨FF.le, fun b u e t n => by
                obtain ⟨h1, h2, h3⟩ := FF.keep b u e t n
                exact ⟨by rw [upd_ne (ne_of_none e hp)]; exact h1, h2, h3⟩, FF.pin, FF.lck, fun b h => FF.mono b (by
                  by_cases e : b = p
                  · subst e; cases h _ upd_same
                  · exact fun u z => h u (by rw [upd_ne e]; exact z))⟩
            · cases c
  · have e : i = ds.length := by omega
    subst e
    rw [List.drop_length] at c
    simp only [compM] at c
    cases c
    exact .inl ⟨w1 _ (Nat.le_refl _), hQ G H acc R hw F hHp hGp hOp rs⟩

/-- a heap without an address -/
def rub (H : Hp) (p : Addr) : Hp := fun b => if b = p then none else H b
theorem rub_ne {H : Hp} {p b : Addr} (h : b ≠ p) : rub H p b = H b := if_neg h
theorem rub_same {H : Hp} {p : Addr} : rub H p p = none := if_pos rfl
theorem rub_upd {H : Hp} {p : Addr} {o : HO} (h : H p = some o) : upd (rub H p) p o = H := by
  funext b
  by_cases e : b = p
  · subst e; rw [upd_same, h]
  · rw [upd_ne e, rub_ne e]
theorem rub_tab {Θ : List (Addr × Str)} {G H : Hp} (t : Tb Θ G H) {p : Addr} {vs : List V} (h : H p = some (.lst vs)) : Tb Θ G (rub H p) := by
  refine ⟨fun e he => ?_, t.out, t.cl⟩
  obtain ⟨ps, a1, a2, a3⟩ := t.ok e he
  refine ⟨ps, by rw [rub_ne (fun z => by rw [z, h] at a1; cases a1)]; exact a1, a2, fun pos cv hc => ?_⟩
  obtain ⟨c, e1, e2⟩ := a3 pos cv hc
  exact ⟨c, e1, by rw [rub_ne (fun z => by rw [z, h] at e2; unfold LamX.CodeO at e2; cases e2)]; exact e2⟩
theorem rub_rel {G H : Hp} {r : Ro} {σ : L2.St} (R : Rel Θ K G H r σ) {p : Addr} (hG : G p = none) (hO : ¬ Owned r σ p) {vs : List V} (hp : H p = some (.lst vs)) : Rel Θ K G (rub H p) r σ := by
  refine ⟨R.len, fun b u e => ?_, R.get, fun j q ds z => ?_, R.sep, rub_tab R.tab hp⟩
  · rw [rub_ne (fun z => by subst z; rw [hG] at e; cases e)]
    exact R.sub _ _ e
  · obtain ⟨a, vs, h1, h2, h3, h4⟩ := R.own j q ds z
    exact ⟨a, vs, h1, by rw [rub_ne (fun z' => hO ⟨j, q, ds, z, by rw [← z']; exact h1⟩)]; exact h2, h3, h4⟩
theorem fr_rub {G0 H0 G H : Hp} {r0 r : Ro} {σ0 σ : L2.St} {p : Addr} (F : Fr G0 H0 r0 σ0 G H r σ) (hp : H0 p = none) : Fr G0 H0 r0 σ0 G (rub H p) r σ :=
  ⟨F.le, fun b u e t n => by
    obtain ⟨h1, h2, h3⟩ := F.keep b u e t n
    exact ⟨by rw [rub_ne (ne_of_none e hp)]; exact h1, h2, h3⟩, F.pin, F.lck, fun b h => by
      by_cases e : b = p
      · subst e; exact nw_none hp
      · exact F.mono b fun u z => h u (by rw [rub_ne e]; exact z)⟩
theorem fr_wipe {G0 H0 G H : Hp} {r0 r : Ro} {σ0 σ : L2.St} {vs : List Nat} (F : Fr G0 H0 r0 σ0 G H r σ) (hw : ∀ j, j ∈ vs → ∀ x, r0[j]? ≠ some (some x)) : Fr G0 H0 r0 σ0 G H (wipeR r vs) (wipe σ vs) :=
  ⟨F.le, fun b u e t n => by
    obtain ⟨h1, h2, h3⟩ := F.keep b u e t n
    exact ⟨h1, fun z => h2 (wipe_owned z), h3⟩, fun j fs z => by
      have hj : j ∉ vs := fun hj => hw j hj _ z
      obtain ⟨⟨fs', h1⟩, h2⟩ := F.pin j fs z
      exact ⟨⟨fs', by rw [wipeR_out hj]; exact h1⟩, by rw [wipe_outS hj]; exact h2⟩, fun j z => by
      have hj : j ∉ vs := fun hj => hw j hj _ z
      obtain ⟨h1, h2⟩ := F.lck j z
      exact ⟨by rw [wipeR_out hj]; exact h1, by rw [wipe_outS hj]; exact h2⟩, F.mono⟩
theorem wipe_sub {σ : L2.St} {vs us : List Nat} (h : ∀ j, j ∈ us → j ∈ vs) : wipe (wipe σ us) vs = wipe σ vs :=
  wipe_ext (wipe_length _ _) fun j hj => wipe_outS fun z => hj (h j z)
/-- the turns of a comprehension of two clauses -/
def comp2M (f : D → Ro → Option Ro) (t : M Bool) (mi : M (List D)) (f2 : D → Ro → Option Ro) (t2 : M Bool) (e : M D) (vs us : List Nat) : List D → List D → M (List D)
  | [], acc => fun r => some (acc, r)
  | d :: ds, acc => fun r => match f d r with
    | none => none
    | some r1 => match t r1 with
      | none => none
      | some (false, r2) => comp2M f t mi f2 t2 e vs us ds acc (wipeR r2 vs)
      | some (true, r2) => match mi r2 with
        | none => none
        | some (es, r3) => match compM f2 t2 e us es acc (wipeR r3 us) with
          | none => none
          | some (acc', r4) => comp2M f t mi f2 t2 e vs us ds acc' (wipeR r4 vs)
theorem comp2_core {J : It} {ds : List D} {f f2 : D → Ro → Option Ro} {t t2 : M Bool} {mi : M (List D)} {me : M D} {vs us : List Nat} {G0 H0 : Hp} {r0 : Ro} {σ : L2.St} {Q : V → Hp → Prop} {res : List D} {rf : Ro} {p : Addr}
    (hu : ∀ j, j ∈ us → j ∈ vs) (hW : Wk K J ds G0 (fun _ => True))
    (R0 : Rel Θ K G0 H0 r0 (wipe σ vs)) (hw0 : ∀ j, j ∈ vs → ∀ x, r0[j]? ≠ some (some x)) (hp : H0 p = none) (c0 : comp2M f t mi f2 t2 me vs us ds [] r0 = some (res, rf))
    (hQ : ∀ G H acc, Rel Θ K G H rf (wipe σ vs) → (∀ j, j ∈ vs → ∀ x, rf[j]? ≠ some (some x)) → Fr G0 H0 r0 (wipe σ vs) G H rf (wipe σ vs) → H p = some (.lst acc) → G p = none → ¬ Owned rf (wipe σ vs) p → Reps K G res acc → Q (.ref p) H) :
    ∃ W : Nat → Nat → Hp → Prop, (∃ m, W 0 m (upd H0 p (.lst []))) ∧ ∀ i m H, W i m H →
      (J.stop i H ∧ Q (.ref p) H) ∨ (J.go i H ∧ ∃ Nx : Hp → Prop, (∀ H', Nx H' → ∃ m', m' < m ∧ W (i + 1) m' H') ∧ ∀ x H', J.yld i H x H' → rdW Θ K vs f x (wipe σ vs) H' fun σ2 H2 => wipe σ2 vs = wipe σ vs ∧ rdT Θ K t σ2 H2 fun b H3 =>
        if b = true then rdI Θ K mi σ2 H3 fun J1 H4 => ∃ W1 : Nat → Nat → Hp → Prop, (∃ m, W1 0 m H4) ∧ ∀ j k H, W1 j k H →
          (J1.stop j H ∧ Nx H) ∨ (J1.go j H ∧ ∃ Nx1 : Hp → Prop, (∀ H', Nx1 H' → ∃ k', k' < k ∧ W1 (j + 1) k' H') ∧ ∀ x H', J1.yld j H x H' → rdW Θ K us f2 x (wipe σ2 us) H' fun σ3 H5 => wipe σ3 us = wipe σ2 us ∧ rdT Θ K t2 σ3 H5 fun b H6 =>
            if b = true then rdE Θ K me σ3 H6 fun y H7 => ∃ acc, H7 p = some (.lst acc) ∧ acc.length < sizeLine ∧ Nx1 (upd H7 p (.lst (acc ++ [y]))) else Nx1 H6)
        else Nx H3) := by
  have gp0 : G0 p = none := free_of R0.sub hp
  have op0 : ¬ Owned r0 (wipe σ vs) p := fun ⟨j, q, fs, z1, z2⟩ => by
    obtain ⟨a, us, h1, h2, _⟩ := R0.own j q fs z1
    rw [h1] at z2
    cases z2
    rw [hp] at h2; cases h2
  let St := fun (G H : Hp) (r : Ro) (acc : List V) (accD : List D) => Rel Θ K G H r (wipe σ vs) ∧ (∀ j, j ∈ vs → ∀ x, r[j]? ≠ some (some x)) ∧ Fr G0 H0 r0 (wipe σ vs) G H r (wipe σ vs) ∧ H p = some (.lst acc) ∧ G p = none ∧ ¬ Owned r (wipe σ vs) p ∧ Reps K G accD acc
  refine ⟨fun i m H => m = ds.length - i ∧ i ≤ ds.length ∧ ∃ G r acc accD, St G H r acc accD ∧ comp2M f t mi f2 t2 me vs us (ds.drop i) accD r = some (res, rf), ⟨ds.length, by simp, Nat.zero_le _, G0, r0, [], [], ⟨side_rel R0 gp0 op0 (.inl hp), hw0, ?_, upd_same, gp0, op0, .nil⟩, by simpa using c0⟩, ?_⟩
  · exact ⟨Same.refl _, fun b u e _ n => ⟨by rw [upd_ne (ne_of_none e hp)]; exact e, n, fun z => z⟩, fun j ds z => ⟨⟨ds, z⟩, rfl⟩, fun j z => ⟨z, rfl⟩, fun b h => same_nw (same_new hp _) h⟩
  rintro i m H ⟨rfl, hi, G, r, acc, accD, ⟨R, hw, F, hHp, hGp, hOp, rs⟩, c⟩
  obtain ⟨w1, w2⟩ := hW G H F.le R.sub trivial
  by_cases hlt : i < ds.length
  · have hd : ds[i]? = some ds[i] := List.getElem?_eq_getElem hlt
    obtain ⟨g, y⟩ := w2 i _ hd
    rw [List.drop_eq_getElem_cons hlt] at c
    simp only [comp2M] at c
    cases e1 : f ds[i] r with
    | none => rw [e1] at c; cases c
    | some r1 =>
      rw [e1] at c
      dsimp only at c
      refine .inr ⟨g, fun H' => ∃ G' r' acc' accD', St G' H' r' acc' accD' ∧ comp2M f t mi f2 t2 me vs us (ds.drop (i + 1)) accD' r' = some (res, rf), fun H' ⟨G', r', acc', accD', st', c'⟩ => ⟨ds.length - (i + 1), by omega, rfl, hlt, G', r', acc', accD', st', c'⟩, fun x H1 hy => ?_⟩
      obtain ⟨G1, ex, rx⟩ := y x H1 hy
      refine ⟨G1, r, _, r1, ex.rel R, rx, e1, fun σ2 R2 F2 ws => ?_⟩
      rw [wipe_wipe] at ws
      have F1 : Fr G H r (wipe σ vs) G1 H1 r1 σ2 := (ex.fr r _).trans F2
      refine ⟨ws, ?_⟩
      have hww : ∀ (r5 : Ro) (j : Nat), j ∈ vs → ∀ x, (wipeR r5 vs)[j]? ≠ some (some x) := fun r5 j hj x z => (wipeR_get z).2 hj
      cases e2 : t r1 with
      | none => rw [e2] at c; cases c
      | some q =>
        obtain ⟨bb, r2⟩ := q
        rw [e2] at c
        refine ⟨G1, r1, R2, bb, r2, e2, fun G3 H3 R3 F3 => ?_⟩
        have F13 := F1.trans F3
        cases bb with
        | false =>
          dsimp only at c ⊢
          rw [if_neg Bool.false_ne_true]
          have Rw := wipe_rel (vs := vs) R3
          have Fw := fr_wipe F13 hw
          rw [ws] at Rw Fw
          obtain ⟨k1, k2, k3⟩ := Fw.keep p _ hHp rfl hOp
          exact ⟨G3, wipeR r2 vs, acc, accD, ⟨Rw, hww r2, F.trans Fw, k1, k3 hGp, k2, Reps.mono Fw.le _ _ rs⟩, c⟩
        | true =>
          dsimp only at c ⊢
          rw [if_pos rfl]
          cases e3 : mi r2 with
          | none => rw [e3] at c; cases c
          | some q =>
            obtain ⟨es, r3⟩ := q
            rw [e3] at c
            dsimp only at c
            cases e4 : compM f2 t2 me us es accD (wipeR r3 us) with
            | none => rw [e4] at c; cases c
            | some q =>
              obtain ⟨accD', r4⟩ := q
              rw [e4] at c
              dsimp only at c
              refine ⟨G3, r2, R3, es, r3, e3, fun G4 H4 R4 F4 J1 hW1 => ?_⟩
              have F14 := F13.trans F4
              obtain ⟨k1, k2, k3⟩ := F14.keep p _ hHp rfl hOp
              have hG4 := k3 hGp
              have Rz := rub_rel (wipe_rel (vs := us) R4) hG4 (fun z => k2 (wipe_owned z)) k1
              have hz0 : ∀ j, j ∈ us → ∀ x, (wipeR r3 us)[j]? ≠ some (some x) := fun j hj x z => (wipeR_get z).2 hj
              have core := comp_coreA (K := K) (J := J1) (ds := es) (f := f2) (t := t2) (me := me) (vs := us) (G0 := G4) (H0 := rub H4 p) (r0 := wipeR r3 us) (σ := σ2) (acc0 := acc) (accD0 := accD) (Q := fun H' => ∃ G' r' acc' accD', St G' H' r' acc' accD' ∧ comp2M f t mi f2 t2 me vs us (ds.drop (i + 1)) accD' r' = some (res, rf)) (C := fun _ => True) (P := fun _ _ _ => True) (p := p) hW1 (fun _ _ _ _ _ _ _ _ => trivial) (fun _ _ _ _ _ => trivial) (fun _ _ _ _ => trivial) trivial Rz hz0 rub_same (Reps.mono F14.le _ _ rs) e4 fun G5 H5 acc' R5 hz5 F5 h1 h2 h3 h4 => ?_
              · obtain ⟨W1, ⟨m1, hm1⟩, st1⟩ := core
                rw [rub_upd k1] at hm1
                exact ⟨W1, ⟨m1, hm1⟩, st1⟩
              · have Rw := wipe_rel (vs := vs) R5
                have Fa := (fr_wipe (vs := us) (fr_rub (F.trans F14) hp) (fun j hj => hw0 j (hu j hj))).trans F5
                have Fw := fr_wipe (vs := vs) Fa hw0
                rw [wipe_sub hu, ws] at Rw Fw
                exact ⟨G5, wipeR r4 vs, acc', accD', ⟨Rw, hww r4, Fw, h1, h2, fun z => h3 (wipe_owned (vs := vs) (by rw [wipe_sub hu, ws]; exact z)), h4⟩, c⟩
  · have e : i = ds.length := by omega
    subst e
    rw [List.drop_length] at c
    simp only [comp2M] at c
    cases c
    exact .inl ⟨w1 _ (Nat.le_refl _), hQ G H acc R hw F hHp hGp hOp rs⟩
def lcM2 (m0 : M (List D)) (f : D → Ro → Option Ro) (t : M Bool) (mi : M (List D)) (f2 : D → Ro → Option Ro) (t2 : M Bool) (e : M D) (vs us : List Nat) : M D := bd m0 fun ds r => if okW r vs then match comp2M f t mi f2 t2 e vs us ds [] (wipeR r vs) with
    | some (res, r') => some (.lst res, back r r' vs)
    | none => none
  else none
theorem lc2_read {m0 mi : M (List D)} {f f2 : D → Ro → Option Ro} {t t2 : M Bool} {me : M D} {vs us : List Nat} {Q : VK} (hu : ∀ j, j ∈ us → j ∈ vs) (q : rdE Θ K (lcM2 m0 f t mi f2 t2 me vs us) σ H Q) : tLc2 (rdI Θ K m0) (rdW Θ K vs f) (rdT Θ K t) (rdI Θ K mi) (rdW Θ K us f2) (rdT Θ K t2) (rdE Θ K me) vs us σ H Q := by
  obtain ⟨G, r, R, c⟩ := q
  refine ⟨G, r, R, (cn_bd c).mono fun ds G1 H1 ⟨r1, R1, s1, c1⟩ J hW p hp => ?_⟩
  obtain ⟨d, r', e, k⟩ := c1
  split at e
  · rename_i hok
    cases e2 : comp2M f t mi f2 t2 me vs us ds [] (wipeR r1 vs) with
    | none => rw [e2] at e; cases e
    | some q =>
      obtain ⟨res, rf⟩ := q
      rw [e2] at e
      cases e
      refine comp2_core hu hW (wipe_rel R1) (fun j hj x z => (wipeR_get z).2 hj) hp e2 fun G2 H2 acc R2 hw2 F2 h1 h2 h3 h4 => ?_
      obtain ⟨R3, F3⟩ := back_rel hok R1 R2 hw2 F2
      have le : Same G2 (upd G2 p (.lst acc)) := same_new h2 _
      have h3' : ¬ Owned (back r1 rf vs) σ p := fun ⟨j, q, fs, z1, z2⟩ => by
        obtain ⟨a, us, g1, g2, _⟩ := R3.own j q fs z1
        rw [z2] at g1; cases g1
        by_cases hj : j ∈ vs
        · have hlt : j < rf.length := by
            have := (List.getElem?_eq_some_iff.mp z1).1
            rwa [back_length] at this
          rw [back_in hlt (by rw [R2.len, wipe_length, ← R1.len] at hlt; exact hlt) hj] at z1
          rcases okW_at hok hj with e | ⟨d, e⟩ <;> (rw [e] at z1; cases z1)
        · rw [back_out hj] at z1
          exact h3 ⟨j, q, fs, z1, by rw [wipe_outS hj]; exact z2⟩
      refine k (upd G2 p (.lst acc)) H2 ⟨R3.len, fun b u e => ?_, fun j d z => ?_, fun j q fs z => ?_, R3.sep, R3.tab.frz le fun b u e z => by
        by_cases q : b = p
        · subst q; rw [upd_same] at e; cases e; exact ⟨acc, rfl, h1⟩
        · rw [upd_ne q, z] at e; cases e⟩ ⟨F3.le.trans le, fun b u e t n => ?_, F3.pin, F3.lck, F3.mono⟩ (.ref p) (.lst_of (Rd.of upd_same) (Reps.mono le _ _ h4))
      · by_cases z : b = p
        · subst z; rw [upd_same] at e; cases e; exact h1
        · rw [upd_ne z] at e; exact R3.sub _ _ e
      · obtain ⟨v, g1, g2⟩ := R3.get j d z
        exact ⟨v, g1, Rep.mono le _ _ g2⟩
      · obtain ⟨a, us, g1, g2, g3, g4⟩ := R3.own j q fs z
        exact ⟨a, us, g1, g2, by rw [upd_ne (fun z' => by subst z'; exact h3' ⟨j, q, fs, z, g1⟩)]; exact g3, Reps.mono le _ _ g4⟩
      · obtain ⟨g1, g2, g3⟩ := F3.keep b u e t n
        exact ⟨g1, g2, fun z => by rw [upd_ne (ne_of_none e hp)]; exact g3 z⟩
  · cases e

theorem se_lc2 {elt tg1 iter1 : Expr} {ifs ifs1 : List Expr} {scope : Scope} {own : List (Str × Nat)} {vs1 : List Nat} {m0 mi : M (List D)} {f f2 : D → Ro → Option Ro} {t t2 : M Bool} {me : M D} (hc : X.calm = true) (hN : X.N.Nodup) (hi : SI Θ X tg iter m0) (ok : BlkOk X.N X.env.scope scope own) (hv : ∀ i ∈ vs1, i ∈ own.map (·.2))
    (hg : ∀ (s : Shared) (H : Hp) (C : Addr) (cl : List (Str × Addr)) (fp : List Addr), SGw Θ (X.blk s H scope (compEnvC scope cl C X.env) fp) (own.map (·.2)) tg f) (ht : ∀ (s : Shared) (H : Hp) (C : Addr) (cl : List (Str × Addr)) (fp : List Addr), SQ Θ (X.blk s H scope (compEnvC scope cl C X.env) fp) ifs t)
    (hi1 : ∀ (s : Shared) (H : Hp) (C : Addr) (cl : List (Str × Addr)) (fp : List Addr), SI Θ (X.blk s H scope (compEnvC scope cl C X.env) fp) tg1 iter1 mi)
    (hg1 : ∀ (s : Shared) (H : Hp) (C : Addr) (cl : List (Str × Addr)) (fp : List Addr), SGw Θ (X.blk s H scope (compEnvC scope cl C X.env) fp) vs1 tg1 f2) (ht1 : ∀ (s : Shared) (H : Hp) (C : Addr) (cl : List (Str × Addr)) (fp : List Addr), SQ Θ (X.blk s H scope (compEnvC scope cl C X.env) fp) ifs1 t2)
    (he : ∀ (s : Shared) (H : Hp) (C : Addr) (cl : List (Str × Addr)) (fp : List Addr), SE Θ (X.blk s H scope (compEnvC scope cl C X.env) fp) elt me) (hs : ∀ x, foldedSetIterable iter X.env x = pure x := by intro _; rfl) (hs1 : ∀ (env : Env) x, foldedSetIterable iter1 env x = pure x := by intro _ _; rfl) :
    SE Θ X (.ListComp elt [⟨tg, iter, ifs, 0⟩, ⟨tg1, iter1, ifs1, 0⟩] scope pos) (lcM2 m0 f t mi f2 t2 me (own.map (·.2)) vs1) :=
  pe_imp (pe_lc2 hc hN hi ok hv hg ht hi1 hg1 ht1 he hs hs1) fun σ H Q q => lc2_read hv q
theorem ss_setLc2 {y : Str} {py spos : Pos} {elt tg1 iter1 : Expr} {ifs ifs1 : List Expr} {scope : Scope} {own : List (Str × Nat)} {vs1 : List Nat} {m0 mi : M (List D)} {f f2 : D → Ro → Option Ro} {t t2 : M Bool} {me : M D} (hc : X.calm = true) (hN : X.N.Nodup) (hy : X.N[i]? = some y) (hyl : X.env.scope.names.lookup y = some .local)
    (hsw : swapsWith (.ListComp elt [⟨tg, iter, ifs, 0⟩, ⟨tg1, iter1, ifs1, 0⟩] scope pos) (some (.Name y py)) spos.line X.env = pure true) (hi : SI Θ X tg iter m0) (ok : BlkOk X.N X.env.scope scope own) (hv : ∀ i ∈ vs1, i ∈ own.map (·.2))
    (hg : ∀ (s : Shared) (H : Hp) (C : Addr) (cl : List (Str × Addr)) (fp : List Addr), SGw Θ (X.blk s H scope (compEnvC scope cl C X.env) fp) (own.map (·.2)) tg f) (ht : ∀ (s : Shared) (H : Hp) (C : Addr) (cl : List (Str × Addr)) (fp : List Addr), SQ Θ (X.blk s H scope (compEnvC scope cl C X.env) fp) ifs t)
    (hi1 : ∀ (s : Shared) (H : Hp) (C : Addr) (cl : List (Str × Addr)) (fp : List Addr), SI Θ (X.blk s H scope (compEnvC scope cl C X.env) fp) tg1 iter1 mi)
    (hg1 : ∀ (s : Shared) (H : Hp) (C : Addr) (cl : List (Str × Addr)) (fp : List Addr), SGw Θ (X.blk s H scope (compEnvC scope cl C X.env) fp) vs1 tg1 f2) (ht1 : ∀ (s : Shared) (H : Hp) (C : Addr) (cl : List (Str × Addr)) (fp : List Addr), SQ Θ (X.blk s H scope (compEnvC scope cl C X.env) fp) ifs1 t2)
    (he : ∀ (s : Shared) (H : Hp) (C : Addr) (cl : List (Str × Addr)) (fp : List Addr), SE Θ (X.blk s H scope (compEnvC scope cl C X.env) fp) elt me) (hs : ∀ x, foldedSetIterable iter X.env x = pure x := by intro _; rfl) (hs1 : ∀ (env : Env) x, foldedSetIterable iter1 env x = pure x := by intro _ _; rfl) :
    SS Θ X (.Assign [.Name y py] (.ListComp elt [⟨tg, iter, ifs, 0⟩, ⟨tg1, iter1, ifs1, 0⟩] scope pos) spos) (bd (lcM2 m0 f t mi f2 t2 me (own.map (·.2)) vs1) fun d => nxt (setD i d)) :=
  ps_imp (ps_setLc2 hc hN hy hyl hsw hi ok hv hg ht hi1 hg1 ht1 he hs hs1) fun σ H E q => by
    have q' : tAsg (rdE Θ X.K (lcM2 m0 f t mi f2 t2 me (own.map (·.2)) vs1)) (gName i) E σ H := asg_read nm_read q
    exact lc2_read hv q'
end
end Pk

namespace Pk
open PySem L2 PyProof.Rows
/-! ### sorted(.., key=lambda x: x[0]) of pairs with a text ahead -/
theorem idx0 {its : Array Value} {u : Value} (h : its[0]? = some u) : seqIndex? 0 its.size = some 0 := by
  have h1 : 0 < its.size := (Array.getElem?_eq_some_iff.mp h).1
  unfold seqIndex?
  simp [h1]
theorem lam_first {X : Cx} {pins : List (Addr × Obj)} {σ : L2.St} {H : Hp} {s : Shared} (I : L2.Inv X pins σ H s) {A : Around} {f c' : Addr} {pm ctv : Value} {params : Arguments} {scope : Scope} {q x : Str} {cl : List (Str × Addr)} {kd : Nat} {p1 p2 p3 : Pos}
    (hf : s.heap.get? f = some (PySem.W.kla_obj "<lambda>" q params (.Subscript (.Name x p1) (.Constant (.int 0) kd p2) p3) scope cl pm c' ctv)) (hc : H c' = some (LamX.CodeO c' q))
    (hb : ∀ v : Value, bindArgs (PySem.W.kla_fn "<lambda>" q params (.Subscript (.Name x p1) (.Constant (.int 0) kd p2) p3) scope cl pm (.ref c') ctv) { pos := [v] } = pure [(x, v)])
    (hk : scope.kind = .function) (co : scope.isCoroutine = false) (gen : scope.isGenerator = false) (hx : scope.names.lookup x = some .local) (hn : ∀ y ∈ scope.names, y.2 ≠ .cell) (hxd : (x == ("__debug__" : Str)) = false)
    (hd : A.depth < recursionLimit) {t : Addr} {its : Array Value} (ht : IsTup s.heap t its) {k : Str} {tk0 : Tok} (h0 : its[0]? = some (.str k tk0)) (h : Heap) (tk : Nat) (he : ∀ (b : Addr) (o : Obj), s.heap.get? b = some o → h.get? b = some o) :
    wpAny (model X.prog X.w) A (call (.ref f) [.ref t]) (PySem.W.KeyPure (.str k) { heap := h, gens := s.gens, drawn := s.drawn, toks := tk, os := s.os }) (fun _ _ => False) { heap := h, gens := s.gens, drawn := s.drawn, toks := tk, os := s.os } := by
  have I1 : L2.Inv X pins σ H { heap := h, gens := s.gens, drawn := s.drawn, toks := tk, os := s.os } := I.kept he
  have hcode := I1.hok c' _ hc
  unfold LamX.CodeO at hcode
  rw [ObjOk.eq_13] at hcode
  obtain ⟨oc, vs, tq, g1, g2, g3⟩ := hcode.1
  refine wpAny_call (PySem.W.kla_callFunE hd (he _ _ hf) rfl co gen rfl ⟨c', oc, vs, tq, rfl, g1, g2, g3⟩ ?_)
  rw [hb]
  refine wpAny_pure ?_
  refine wpAny_newFunctionEnv hn (fun y hy => by simp at hy; subst hy; exact hx) (fun h' hns same => ?_) hk
  have he2 : ∀ (b : Addr) (o : Obj), h.get? b = some o → h'.get? b = some o := fun b o e => by
    have hb' : b < h.objs.size := Heap.lt_size e
    rw [same.2 b (Nat.ne_of_lt hb')]
    exact Heap.get?_push_of_some _ e
  have I2 : L2.Inv X pins σ H { heap := h', gens := s.gens, drawn := s.drawn, toks := tk + 1, os := s.os } := I1.kept he2
  refine ⟨I2.nolimit, PySem.W.kla_codeExpr ?_⟩
  refine wpAny_Subscript_Constant_late ?_
  refine ldG hns (v := .ref t) (by show List.lookup x [(x, Value.ref t)] = _; rw [List.lookup_cons, beq_self_eq_true]) ?_ hk hx hxd
  refine lit_int _ fun v tk2 hv => ?_
  obtain ⟨u, rfl⟩ : ∃ u, v = .int 0 u := by
    have := hv h
    cases this
    exact ⟨_, rfl⟩
  have ht2 : IsTup h' t its := by
    obtain ⟨o, e1, e2, n, e3⟩ := ht
    exact ⟨o, he2 _ _ (he _ _ e1), e2, n, e3⟩
  refine ⟨"tuple", "tuple.__getitem__", by rfl, ht2.typeIs, getItem_tuple (j := 0) ht2 (by decide) (by decide) ?_ h0 ?_⟩
  · exact idx0 h0
  · exact ⟨h', _, rfl, he2, .str k tk0⟩
/-- the name of a pair -/
def nmS : D → Str
  | .tup (.str x :: _) => x
  | _ => ⟨#[]⟩
def isP : D → Bool
  | .tup (.str _ :: _) => true
  | _ => false
def leN (a b : D) : Bool := PySem.W.dataLe false (fun d => PyData.str (nmS d)) a b
def sortN : D → Option D
  | .lst ds => if ds.all isP then some (.lst (ds.mergeSort leN)) else none
  | _ => none
def RelP (K : PySem.W.Frag) (G : Hp) (w : Value) (d : D) : Prop := ∃ v, RelV v w ∧ Rep K G d v
theorem each_of {K : PySem.W.Frag} {G : Hp} : ∀ {ds : List D} {vs : List V} {us : List Value}, Reps K G ds vs → Vals vs us → PySem.W.EachIs (RelP K G) us ds
  | [], vs, us, r, v => by
    have := r.nil_inv
    subst this
    cases v
    exact .nil
  | d :: ds, vs, us, r, v => by
    obtain ⟨x, xs, rfl, r1, r2⟩ := r.cons_inv
    cases v with
    | cons v1 v2 => exact .cons ⟨x, v1, r1⟩ (each_of r2 v2)
theorem of_each {K : PySem.W.Frag} {G : Hp} {us : List Value} {ds : List D} (h : PySem.W.EachIs (RelP K G) us ds) : ∃ vs, Reps K G ds vs ∧ Vals vs us := by
  induction h with
  | nil => exact ⟨[], .nil, .nil⟩
  | cons h1 h2 ih =>
    obtain ⟨v, r1, r2⟩ := h1
    obtain ⟨vs, r3, r4⟩ := ih
    exact ⟨v :: vs, .cons r2 r3, .cons r1 r4⟩
theorem isP_inv {d : D} (h : isP d = true) : ∃ x ds, d = .tup (.str x :: ds) := by
  unfold isP at h
  split at h
  · exact ⟨_, _, rfl⟩
  · cases h
theorem se_sortK {X : Cx} {e : Expr} {m : M D} {c P : Addr} {x : Str} {params : Arguments} {scope : Scope} {kd k : Nat} {p p1 p2 p3 lpos kp pos : Pos}
    (hs : SE Θ X e m) (hg : Gl X "sorted") (hm : X.mg "sorted" = none) (hv : bootBuiltins "sorted" = some (.builtin "sorted"))
    (tb : LamX.TabB X.base X.mg c P) (hcode : X.env.code = .ref c) (hT : (P, X.env.qual ++ "<lambda>") ∈ Θ) (hU : ∀ q ∈ Θ, q.1 = P → q.2 = X.env.qual ++ "<lambda>") (hr : Room k X.A)
    (hdef : defaultsOf params X.env = ([], []))
    (hb : ∀ (q : Str) (cl : List (Str × Addr)) (pm cv ctv v : Value), bindArgs (PySem.W.kla_fn "<lambda>" q params (.Subscript (.Name x p1) (.Constant (.int 0) kd p2) p3) scope cl pm cv ctv) { pos := [v] } = pure [(x, v)])
    (hk : scope.kind = .function) (co : scope.isCoroutine = false) (gen : scope.isGenerator = false) (hx : scope.names.lookup x = some .local) (hn0 : (scope.names.all fun y => match y.2 with | .local => true | _ => false) = true) (hxd : (x == ("__debug__" : Str)) = false)
    (he : starEach [e] X.env = (false, eval e X.env) :: starEach [] X.env := by rfl) (hbk : backTo pos (starEach [e] X.env) = (false, eval e X.env) :: backTo pos (starEach [] X.env) := by rfl) (hpl : ((backTo pos (starEach [e] X.env)).any fun x => x.1) = false := by rfl) :
    SE Θ X (.Call (.Name "sorted" p) [e] [⟨some "key", .Lambda params (.Subscript (.Name x p1) (.Constant (.int 0) kd p2) p3) scope lpos, kp⟩] pos) (bd m fun d => of (sortN d)) := ⟨fun pins s σ H Q I q => by
  have hn : ∀ y ∈ scope.names, y.2 = .local := fun y hy => by
    have := List.all_eq_true.mp hn0 y hy
    split at this
    · assumption
    · cases this
  obtain ⟨G, r, R, z, r', e1, kk⟩ := q
  obtain ⟨d, r1, e2, e3⟩ := bd_some e1
  obtain ⟨e4, rfl⟩ := of_some e3
  have arg := (sa_cons (Θ := Θ) hs sa_nil he).run pos pins s σ H (fun vs H1 => ∃ G1 v, vs = [v] ∧ Rel Θ X.K G1 H1 r' σ ∧ Fr G H r σ G1 H1 r' σ ∧ Rep X.K G1 d v) I ⟨G, r, R, [d], r', by unfold bd; rw [e2]; rfl, fun G1 H1 R1 F1 vs rs => by
    obtain ⟨v, vs', rfl, a1, a2⟩ := rs.cons_inv
    exact ⟨G1, v, by rw [a2.nil_inv], R1, F1, a1⟩⟩
  refine wpAny_Call_Name_kw (ld_blt I hg hm hv ?_)
  refine callWith_kw ?_ hbk hpl rfl rfl
  refine wpAny_mono arg (fun us s1 ⟨vs, H1, I1, vv, G1, v, hvs, R1, F1, rv⟩ => ?_) fun _ _ h => h
  subst hvs
  obtain ⟨ds, rfl⟩ : ∃ ds, d = .lst ds := by
    unfold sortN at e4
    split at e4
    · exact ⟨_, rfl⟩
    · cases e4
  simp only [sortN] at e4
  split at e4
  · rename_i hall
    cases e4
    obtain ⟨a, xs, rfl, hrd, rs⟩ := rv.lst_inv
    cases vv with
    | cons v1 v2 =>
    cases v2
    cases v1
    refine kws_cons ?_
    refine LamX.lam_make2 I1 tb hcode hT hU R1.tab.ok hdef (fun y hy z => by rw [hn y hy] at z; cases z) fun f c' pm ctv H2 s2 I2 ext tabs hf hHf hfs hc => ?_
    refine kws_nil ?_
    show wpAny _ _ (call (.builtin "sorted") [.ref a] [("key", .ref f)]) _ _ _
    have hs2 : Same G1 H2 := fun b u q => ext b u (R1.sub _ _ q) fun ts z => R1.tab.cl b ts (by rw [← z]; exact q)
    obtain ⟨its, hvs, ⟨o, n, o1, o2, o3, o4⟩, hxl⟩ := I2.list (.inl (rd_mono hs2 hrd))
    have hper := each_of rs hvs
    have hlen : ds.length ≤ sizeLine := by rw [← rs.length]; exact hxl
    refine PySem.W.sorted_key_data (b := false) (R := RelP X.K G1) (bs := ds) (fun d => PyData.str (nmS d)) ⟨o, o1, o2, n, o4⟩ hper ?_ ?_ hlen ?_ (ksk_s1 _ _) (fun y => ksk_l1 _ _) (fun y => ksk_t1 f y) ?_ ?_
    · intro u hu u' hu'
      obtain ⟨d1, _, rfl⟩ := List.mem_map.mp hu
      obtain ⟨d2, _, rfl⟩ := List.mem_map.mp hu'
      rfl
    · refine .inr fun u hu => ?_
      obtain ⟨d1, _, rfl⟩ := List.mem_map.mp hu
      exact ⟨(by intro z; cases z), (by intro xs z; cases z)⟩
    · intro y hy
      have := hr.un
      show X.A.units + 2 + (PyData.str _).depth < cLine
      rw [show (PyData.str (nmS y)).depth = 0 from rfl]
      omega
    · rintro w y ⟨v, rv1, rv2⟩ hy h tk hh
      obtain ⟨nm, rest, rfl⟩ := isP_inv (List.all_eq_true.mp hall y hy)
      obtain ⟨t, us2, rfl, sq, rs3⟩ := rv2.tup_inv
      cases rv1
      obtain ⟨its2, hv2, htup, hl2⟩ := I2.tuple (sqT_mono hs2 sq)
      obtain ⟨v3, vs3, rfl, r4, r5⟩ := rs3.cons_inv
      have := r4.str_inv
      subst this
      cases hv2 with
      | cons q1 q2 =>
      obtain ⟨tk0, rfl⟩ := q1
      have hd := hr.dp
      exact lam_first I2 hf hc (fun v => hb _ _ _ _ _ v) hk co gen hx (fun y hy => by rw [hn y hy]; intro z; cases z) hxd (by show X.A.depth < recursionLimit; omega) htup (k := nm) (tk0 := tk0) (by simp) h tk hh
    · intro out cc h' tk hh hnone hget hol each
      obtain ⟨ys, r3, r4⟩ := of_each each
      have hp : H2 (s2.heap.objs.size + 1) = none := by
        have I3 := I2.kept (h' := s2.heap.push { cls := .none, data := .plain }) (t' := 0) fun b o q => Heap.get?_push_of_some _ q
        have q := I3.fresh
        have z : (s2.heap.push { cls := .none, data := .plain }).objs.size = s2.heap.objs.size + 1 := Array.size_push ..
        rw [← z]; exact q
      have hys : ys.length ≤ sizeLine := by rw [r3.length, List.length_mergeSort]; exact hlen
      have R2 : Rel Θ X.K G1 H2 r' σ := by
        refine ⟨R1.len, hs2, R1.get, fun i p ds z => ?_, R1.sep, ⟨tabs, R1.tab.out, R1.tab.cl⟩⟩
        obtain ⟨a, vs, g1, g2, g3, g4⟩ := R1.own i p ds z
        exact ⟨a, vs, g1, ext _ _ g2 (fun ts z => by cases z), g3, g4⟩
      have F2 : Fr G1 H1 r' σ G1 H2 r' σ := by
        refine ⟨Same.refl _, fun b u q t n => ⟨ext b u q (fun ts z => by subst z; cases t), n, fun z => z⟩, fun i ds q => ⟨⟨ds, q⟩, rfl⟩, fun i q => ⟨q, rfl⟩, fun b h u q => ?_⟩
        cases t : tf u with
        | false => rfl
        | true =>
          have := h u (ext b u q fun ts z => by subst z; cases t)
          rw [t] at this; cases this
      have EX := Ext.new hs2 hp (.lst ys)
      refine ⟨.ref (s2.heap.objs.size + 1), _, I2.laid hh (Nat.le_succ _) ?_, rfl, kk _ _ (EX.rel R2) ((F1.trans F2).trans (EX.fr _ _)) _ (.lst_of (Rd.of upd_same) (Reps.mono EX.le _ _ r3))⟩
      rw [ObjOk.eq_1]
      exact ⟨hys, out, cc, r4, hget⟩
  · cases e4⟩
theorem bo_sorted : bootBuiltins "sorted" = some (.builtin "sorted") := by decide +kernel
/-- a def whose code's address is known -/
structure FunC (K : PySem.W.Frag) (x qual : Str) (st : Stmt) (f : Addr) (fd : FuncData) (c : Addr) : Prop where
  lk : ∃ (dV kV doc pm ct oc : Value) (an od : Option Addr) (osl : Array (Option Value)), K.lookup f = some ⟨oc, od, .func fd, osl⟩ ∧ fd = PySem.W.fnOf x qual (defArgs st) (defBody st) (defScope st) dV kV doc pm an (.ref c) ct
  cd : PySem.W.codeIn K (.ref c) qual = true
theorem fn_okC {P : Program} {w : World} {K : PySem.W.Frag} {mg : Str → Option Value} {base : Heap} {x qual : Str} {st : Stmt} {f c : Addr} {fd : FuncData} {N ps : List Str} {k n nl : Nat} {m : M Fl} (F : FunC K x qual st f fd c) (Sc : FnScope N ps (defScope st)) (hn : ps.length = n) (hN : N.length = n + nl)
    (hbody : ∀ (A : Around) (outer : List Env) (s : Shared) (H : Hp) (E : XK), Room k (A.deeper (envOfC qual (defScope st) s.heap.objs.size f (.ref c))) →
      SB Θ (cxOf CX0 P w K mg base N qual (defScope st) f (.ref c) A outer s H E) (defBody st) m) : FnOk P w K mg base CX0 (k + 1) f fd ps (spF Θ K n (bodyF n nl m)) := by
  obtain ⟨dV, kV, doc, pm, ct, oc, an, od, osl, lk, rfl⟩ := F.lk
  exact ⟨fun vs H Q E h => by rw [hn]; exact h.1, fun A outer s H args us vs Q E hr env bt vv h => LamX.run_ofS lk F.cd Sc hr env bt vv (by rw [hn]; exact h.1) fun hr' => ⟨_, hbody A outer s H E hr', body_read hN h.2⟩⟩
theorem tab_code {K : PySem.W.Frag} {x : Str} {f c P : Addr} {oc : Value} {od : Option Addr} {fd : FuncData} {osl : Array (Option Value)} (t : PySem.W.tabIn K x = some (c, P)) (a : PySem.W.nsIn K mainGlobals x = some (some (.ref f))) (l : K.lookup f = some ⟨oc, od, .func fd, osl⟩) : fd.code = .ref c := by
  unfold PySem.W.tabIn at t
  rw [a] at t
  dsimp only at t
  rw [l] at t
  dsimp only at t
  split at t
  · rename_i c' hc
    split at t
    · split at t
      · cases t; exact hc
      · cases t
    · cases t
  · cases t
end Pk

namespace Pk
open PySem PySem.Spec PyProof.Rows L2
/-! ### shorter words for what a reading comes to -/
section
variable {α β : Type} {P : D → Ro → Prop} {r : Ro}
/-- a call, by the callee's word -/
theorem w_cl {Q : D → Ro → Prop} {n : Nat} {F : M D} {as : List Ar} {ss : Ro} (h3 : argS r as = some ss) (h1 : as.length = n) (h2 : (slots as).Nodup) (h : wp F Q ss) (i : ∀ d r', Q d r' → P d (putB r as r')) : wp (callM n F as) P r :=
  w_call h1 h2 h3 (w_mono h i)
theorem w_clN {P : List D → Ro → Prop} {Q : List D → Ro → Prop} {n : Nat} {F : M (List D)} {as : List Ar} {ss : Ro} (h3 : argS r as = some ss) (h1 : as.length = n) (h2 : (slots as).Nodup) (h : wp F Q ss) (i : ∀ d r', Q d r' → P d (putB r as r')) : wp (callN n F as) P r :=
  w_callN h1 h2 h3 (w_mono h i)
theorem w_itD {p : Prop} [Decidable p] {a b : M β} {P : β → Ro → Prop} (h1 : p → wp a P r) (h2 : ¬ p → wp b P r) : wp (if decide p = true then a else b) P r :=
  w_it (fun h => h1 (of_decide_eq_true h)) (fun h => h2 (of_decide_eq_false h))
theorem w_itE {x y : Int} {a b : M β} {P : β → Ro → Prop} (h1 : x = y → wp a P r) (h2 : x ≠ y → wp b P r) : wp (if (x == y) = true then a else b) P r :=
  w_it (fun h => h1 (by simpa using h)) (fun h => h2 (by simpa using h))
theorem w_itN {x : Bool} {a b : M β} {P : β → Ro → Prop} (h : wp (if x = true then b else a) P r) : wp (if (!x) = true then a else b) P r := by
  cases x with
  | true => exact h
  | false => exact h
theorem p_itD {p : Prop} [Decidable p] {a b : Prop} (h1 : p → a) (h2 : ¬ p → b) : if decide p = true then a else b :=
  p_it (fun h => h1 (of_decide_eq_true h)) (fun h => h2 (of_decide_eq_false h))
theorem p_itE {x y : Int} {a b : Prop} (h1 : x = y → a) (h2 : x ≠ y → b) : if (x == y) = true then a else b :=
  p_it (fun h => h1 (by simpa using h)) (fun h => h2 (by simpa using h))
theorem p_itN {x : Bool} {a b : Prop} (h : if x = true then b else a) : if (!x) = true then a else b := by
  cases x with
  | true => exact h
  | false => exact h
/-- a written list at a drawn place -/
theorem o_pick2 {a b : D} {i : Int} (h0 : 0 ≤ i) (h1 : i < 2) (ha : i = 0 → P a r) (hb : i = 1 → P b r) : wp (of (ixD (.lst [a, b]) (.int i))) P r := by
  have : i = 0 ∨ i = 1 := by omega
  rcases this with rfl | rfl
  · exact w_of rfl (ha rfl)
  · exact w_of rfl (hb rfl)
theorem o_pick3 {a b c : D} {i : Int} (h0 : 0 ≤ i) (h1 : i < 3) (ha : i = 0 → P a r) (hb : i = 1 → P b r) (hc : i = 2 → P c r) : wp (of (ixD (.lst [a, b, c]) (.int i))) P r := by
  have : i = 0 ∨ i = 1 ∨ i = 2 := by omega
  rcases this with rfl | rfl | rfl
  · exact w_of rfl (ha rfl)
  · exact w_of rfl (hb rfl)
  · exact w_of rfl (hc rfl)
theorem o_pick4 {a b c d : D} {i : Int} (h0 : 0 ≤ i) (h1 : i < 4) (ha : i = 0 → P a r) (hb : i = 1 → P b r) (hc : i = 2 → P c r) (hd : i = 3 → P d r) : wp (of (ixD (.lst [a, b, c, d]) (.int i))) P r := by
  have : i = 0 ∨ i = 1 ∨ i = 2 ∨ i = 3 := by omega
  rcases this with rfl | rfl | rfl | rfl
  · exact w_of rfl (ha rfl)
  · exact w_of rfl (hb rfl)
  · exact w_of rfl (hc rfl)
  · exact w_of rfl (hd rfl)
/-- any written list at a drawn place: one that has what all have -/
theorem o_pick {A : D → Prop} {ds : List D} {i : Int} (hA : ∀ d ∈ ds, A d) (h0 : 0 ≤ i) (h1 : i < (ds.length : Int)) (h : ∀ d, A d → P d r) : wp (of (ixD (.lst ds) (.int i))) P r := by
  obtain ⟨d, hd, _, e⟩ := w_ixL h0 h1
  exact w_of e (h d (hA d hd))
theorem o_pickT {A : D → Prop} {ds : List D} {i : Int} (hA : ∀ d ∈ ds, A d) (h0 : 0 ≤ i) (h1 : i < (ds.length : Int)) (h : ∀ d, A d → P d r) : wp (of (ixD (.tup ds) (.int i))) P r := by
  obtain ⟨d, hd, _, e⟩ := w_ixT h0 h1
  exact w_of e (h d (hA d hd))
theorem o_mkT3 {d e f : D} (h : P (.tup [d, e, f]) r) : wp (of (mkT [d, e, f])) P r := w_of rfl h
theorem o_mkT4 {d e f g : D} (h : P (.tup [d, e, f, g]) r) : wp (of (mkT [d, e, f, g])) P r := w_of rfl h
theorem o_mkT5 {d e f g i : D} (h : P (.tup [d, e, f, g, i]) r) : wp (of (mkT [d, e, f, g, i])) P r := w_of rfl h
theorem o_mkL0 (h : P (.lst []) r) : wp (of (mkL [])) P r := w_of rfl h
theorem o_mkL1 {d : D} (h : P (.lst [d]) r) : wp (of (mkL [d])) P r := w_of rfl h
theorem o_mkL2 {d e : D} (h : P (.lst [d, e]) r) : wp (of (mkL [d, e])) P r := w_of rfl h
theorem o_mkL3 {d e f : D} (h : P (.lst [d, e, f]) r) : wp (of (mkL [d, e, f])) P r := w_of rfl h
theorem o_mkL4 {d e f g : D} (h : P (.lst [d, e, f, g]) r) : wp (of (mkL [d, e, f, g])) P r := w_of rfl h
theorem o_seqT {ds : List D} {P : List D → Ro → Prop} (h : P ds r) : wp (of (seqOf (.tup ds))) P r := w_of rfl h
theorem o_seqL {ds : List D} {P : List D → Ro → Prop} (h : P ds r) : wp (of (seqOf (.lst ds))) P r := w_of rfl h
theorem o_seqR {ds : List D} {P : List D → Ro → Prop} (h : P ds r) : wp (of (seqOf (.ro ds))) P r := w_of rfl h
theorem o_rng {z : Int} {P : List D → Ro → Prop} (h0 : 0 ≤ z) (h1 : z < 1000000) (h : P (rng 0 z.toNat) r) : wp (of (rng1 [.int z])) P r := w_of (w_rng h0 h1) h
theorem o_lenS {x : Str} (hx : x.length ≤ 100000) (h : P (.int x.length) r) : wp (of (lenD [.str x])) P r := w_of (show (if x.length ≤ sizeLine then some (D.int x.length) else none) = _ from if_pos (Nat.le_trans hx (by decide))) h
theorem o_isN0 {d : D} (h : P (.bl d.isNon) r) : wp (of (isD d .non)) P r := w_of rfl h
/-- a comprehension, each item by itself -/
theorem w_compI {P : List D → Ro → Prop} {f : D → Ro → Option Ro} {e : M D} {vs : List Nat} {ds : List D} (A : D → Prop) (E : Nat → Ro → Prop) (h0 : E 0 r) (hn : ds.length ≤ 10000)
    (hs : ∀ i d r, ds[i]? = some d → E i r → ∃ r1, f d r = some r1 ∧ wp e (fun y r3 => A y ∧ E (i + 1) (wipeR r3 vs)) r1) (he : ∀ acc r, (∀ a ∈ acc, A a) → acc.length = ds.length → E ds.length r → P acc r) : wp (compM f (rt true) e vs ds []) P r := by
  refine w_comp (fun i acc r => (∀ a ∈ acc, A a) ∧ acc.length = i ∧ i ≤ ds.length ∧ E i r) ⟨by simp, rfl, by omega, h0⟩ ?_ ?_
  · rintro i d acc r hd ⟨ha, hl, hi, hE⟩
    have hi2 : i < ds.length := (List.getElem?_eq_some_iff.mp hd).1
    obtain ⟨r1, e1, w⟩ := hs i d r hd hE
    refine ⟨r1, e1, w_rt (p_itT (w_mono w ?_))⟩
    rintro y r3 ⟨hy, hE'⟩
    refine ⟨Nat.lt_of_lt_of_le (show acc.length < 10001 by omega) (by decide), fun a h => ?_, by simp [hl], by omega, hE'⟩
    rcases List.mem_append.mp h with h | h
    · exact ha a h
    · simp at h; subst h; exact hy
  · rintro acc r ⟨ha, hl, hi, hE⟩
    exact he acc r ha hl hE
theorem w_compR {P : List D → Ro → Prop} {e : M D} {j : Nat} {n : Nat} (A : D → Prop) (E : Nat → Ro → Prop) (h0 : E 0 r) (hn : n ≤ 10000)
    (hs : ∀ (i : Nat) r, i < n → E i r → ∃ r1, setD j (.int (0 + (i : Int))) r = some r1 ∧ wp e (fun y r3 => A y ∧ E (i + 1) (wipeR r3 [j])) r1) (he : ∀ acc r, (∀ a ∈ acc, A a) → acc.length = n → E n r → P acc r) : wp (compM (setD j) (rt true) e [j] (rng 0 n) []) P r := by
  refine w_compI A E h0 (by rw [rng_len]; exact hn) ?_ ?_
  · intro i d r hd hE
    obtain ⟨hi, rfl⟩ := rng_at hd
    exact hs i r hi hE
  · intro acc r h1 h2 h3
    rw [rng_len] at h2 h3
    exact he acc r h1 h2 h3
theorem w_compM {P : List D → Ro → Prop} {f : D → Ro → Option Ro} {e : M D} {vs : List Nat} {ds : List D} (g : D → D) (hn : ds.length ≤ 10000)
    (hs : ∀ d ∈ ds, ∃ r1, f d r = some r1 ∧ wp e (fun y r3 => y = g d ∧ wipeR r3 vs = r) r1) (h : P (ds.map g) r) : wp (compM f (rt true) e vs ds []) P r := by
  refine w_comp (fun i acc r' => r' = r ∧ acc = (ds.take i).map g) ⟨rfl, by simp⟩ ?_ ?_
  · rintro i d acc r' hd ⟨rfl, rfl⟩
    have hi : i < ds.length := (List.getElem?_eq_some_iff.mp hd).1
    have ht : ds.take (i + 1) = ds.take i ++ [d] := by
      rw [List.take_succ, hd]; rfl
    obtain ⟨r1, e1, w⟩ := hs d (List.mem_of_getElem? hd)
    refine ⟨r1, e1, w_rt (p_itT (w_mono w ?_))⟩
    rintro y r3 ⟨rfl, h3⟩
    refine ⟨Nat.lt_of_lt_of_le (show ((ds.take i).map g).length < 10001 by rw [List.length_map, List.length_take]; omega) (by decide), h3, ?_⟩
    rw [ht, List.map_append]; rfl
  · rintro acc r' ⟨rfl, rfl⟩
    rw [List.take_length]
    exact h
end
end Pk

namespace Pk
open PySem PySem.Spec PyProof.Rows L2
section
variable {X : Cx} {e a b c tg iter : Expr} {es : List Expr} {pos p : Pos} {ma mb mc m : M D} {i : Nat} {ml : M (List D)} {mr : M (List Ar)} {x : Str}
/-! ### a list written among the arguments, the last of them -/
theorem sf_lit {lpos : Pos} (ha : SA Θ X es ml) : SF Θ X (.List es lpos) (bd ml fun ds r => if ds.length ≤ sizeLine then some (ds, r) else none) := pe_imp (pe_lst ha) fun σ H Q q => by
  obtain ⟨G, r, R, ds, r', e, k⟩ := q
  obtain ⟨ds0, r1, e1, e2⟩ := bd_some e
  refine ⟨G, r, R, ds0, r1, e1, fun G1 H1 R1 F1 vs rs => ?_⟩
  split at e2
  · rename_i hc
    cases e2
    refine ⟨by rw [rs.length]; exact hc, fun p hp => ?_⟩
    obtain ⟨R3, F3⟩ := new_side R1 hp (.lst vs)
    obtain ⟨g, n⟩ := new_out R1 hp
    exact k G1 _ p vs R3 (F1.trans F3) (F1.mono p (nw_none hp)) upd_same g n rs
  · cases e2
def rdRT (Θ : List (Addr × Str)) (K : PySem.W.Frag) (m : M (List Ar × List D)) : TA := fun σ H Q => ∃ G r, Rel Θ K G H r σ ∧ ∃ ads r', m r = some (ads, r') ∧
  ∀ G' H' p us vs, Rel Θ K G' H' r' σ → Fr G H r σ G' H' r' σ → nw H p → H' p = some (.lst us) → G' p = none → ¬ Owned r' σ p → Reps K G' ads.2 us → ArR K G' σ ads.1 vs → Q (vs ++ [.ref p]) H'
abbrev SRT (Θ : List (Addr × Str)) (X : Cx) (es : List Expr) (m : M (List Ar × List D)) : Prop := PA X es (rdRT Θ X.K m)
theorem srt_z (hf : SF Θ X e ml) (hs : starEach [e] X.env = (false, eval e X.env) :: starEach [] X.env := by rfl) : SRT Θ X [e] (bd ml fun ds => rt ([], ds)) := pa_imp (pa_cons hf pa_nil hs) fun σ H Q q => by
  obtain ⟨G, r, R, ads, r', e, k⟩ := q
  obtain ⟨ds, r1, e1, e2⟩ := bd_some e
  obtain ⟨rfl, rfl⟩ := rt_some e2
  exact ⟨G, r, R, ds, r', e1, fun G1 H1 p us R1 F1 h1 h2 h3 h4 h5 => k G1 H1 p us [] R1 F1 h1 h2 h3 h4 h5 rfl⟩
theorem srt_v {mt : M (List Ar × List D)} (ha : SE Θ X e m) (hr : SRT Θ X es mt) (hs : starEach (e :: es) X.env = (false, eval e X.env) :: starEach es X.env := by rfl) : SRT Θ X (e :: es) (bd m fun x => bd mt fun a => rt (.v x :: a.1, a.2)) := pa_imp (pa_cons ha hr hs) fun σ H Q q => by
  obtain ⟨G, r, R, ads, r', e, k⟩ := q
  obtain ⟨x, r1, e1, e2⟩ := bd_some e
  obtain ⟨a, r2, e3, e4⟩ := bd_some e2
  obtain ⟨rfl, rfl⟩ := rt_some e4
  refine ⟨G, r, R, x, r1, e1, fun G1 H1 R1 F1 vx rx => ⟨G1, r1, R1, a, r', e3, fun G2 H2 p us vs R2 F2 h1 h2 h3 h4 h5 h6 => ?_⟩⟩
  exact k G2 H2 p us (vx :: vs) R2 (F1.trans F2) (F1.mono p h1) h2 h3 h4 h5 ⟨vx, vs, rfl, Rep.mono F2.le _ _ rx, h6⟩
theorem srt_s {mt : M (List Ar × List D)} (ha : PE X e (tVar i)) (hr : SRT Θ X es mt) (hs : starEach (e :: es) X.env = (false, eval e X.env) :: starEach es X.env := by rfl) : SRT Θ X (e :: es) (bd (own i) fun _ => bd mt fun a => rt (.s i :: a.1, a.2)) := pa_imp (pa_cons ha hr hs) fun σ H Q q => by
  obtain ⟨G, r, R, ads, r', e, k⟩ := q
  obtain ⟨x, r1, e1, e2⟩ := bd_some e
  obtain ⟨a, r2, e3, e4⟩ := bd_some e2
  obtain ⟨rfl, rfl⟩ := rt_some e4
  obtain ⟨p0, ds0, hi0, rfl⟩ : ∃ p ds, r[i]? = some (some (.own p ds)) ∧ r1 = r := by
    unfold own at e1
    split at e1
    · cases e1; exact ⟨_, _, by assumption, rfl⟩
    · cases e1
  obtain ⟨ad, vs0, h1, h2, h3, h4⟩ := R.own i p0 ds0 hi0
  refine ⟨.ref ad, h1, G, r1, R, a, r', e3, fun G2 H2 p us vs R2 F2 h1' h2' h3' h4' h5 h6 => ?_⟩
  exact k G2 H2 p us (.ref ad :: vs) R2 F2 h1' h2' h3' h4' h5 ⟨_, vs, rfl, h1, h6⟩
def callZ (n : Nat) (F : M D) (a : List Ar × List D) : M D := fun r => match callM n F (a.1 ++ [.s r.length]) (r ++ [some (.own false a.2)]) with
  | some (d, r') => some (d, r'.take r.length)
  | none => none
theorem arR_snoc {K : PySem.W.Frag} {G : Hp} {σ : L2.St} {i : Nat} {u : V} (hi : σ[i]? = some (some u)) : ∀ {as : List Ar} {vs : List V}, ArR K G σ as vs → ArR K G σ (as ++ [.s i]) (vs ++ [u])
  | [], _, h => by obtain rfl := (show _ = [] from h); exact ⟨u, [], rfl, hi, rfl⟩
  | .v d :: as, _, ⟨w, r, e, h1, h2⟩ => by subst e; exact ⟨w, _, rfl, h1, arR_snoc hi h2⟩
  | .s j :: as, _, ⟨w, r, e, h1, h2⟩ => by subst e; exact ⟨w, _, rfl, h1, arR_snoc hi h2⟩
theorem se_callZ {k n : Nat} {f : Addr} {fd : FuncData} {ps : List Str} {F : M D} {mt : M (List Ar × List D)} (G : FnOk X.prog X.w X.K X.mg X.base CX0 k f fd ps (spF Θ X.K n F)) (hr : Room k X.A) (hg : Gl X x) (hm : X.mg x = some (.ref f)) (hk : PySem.W.keepIn X.K (.ref f) = true) (hb : Binds X.K fd ps [])
    (ha : SRT Θ X (e :: es) mt) (hdb : (x == ("__debug__" : Str)) = false := by decide) (he : starEach (e :: es) X.env = (false, eval e X.env) :: starEach es X.env := by rfl) (hpl : (backTo pos (starEach es X.env)).any (·.1) = false := by rfl) :
    SE Θ X (.Call (.Name x p) (e :: es) [] pos) (bd mt fun a => callZ n F a) :=
  pe_imp (pe_call (E := E0) G hr hg hm hk hb .nil pass0 ha hdb he hpl) fun σ H Q q => by
    obtain ⟨G, r, R, d, r', e, k⟩ := q
    obtain ⟨as, r2, e3, e4⟩ := bd_some e
    refine ⟨G, r, R, as, r2, e3, fun G2 H2 p us vs R2 F2 h1 k1 k3 k2 h5 rs => ?_⟩
    unfold callZ at e4
    split at e4
    · rename_i d' r3 e5
      cases e4
      have RP := push_rel R2 h5 k1 k3 k2
      have rs' : ArR X.K G2 (σ ++ [some (.ref p)]) (as.1 ++ [.s r2.length]) (vs ++ [.ref p]) := arR_snoc (by rw [R2.len, List.getElem?_append_right (Nat.le_refl _)]; simp) (arR_push rs)
      obtain ⟨hn, hd, ss, ss', g1, g2, rfl⟩ := callM_some e5
      show spF Θ X.K n F ((vs ++ [V.ref p]) ++ []) H2 Q E0
      rw [List.append_nil]
      refine ⟨by rw [arR_length rs']; exact hn, G2, ss, args_rel RP g1 rs' hd, d, ss', g2, fun G3 H3 R3 F3 => ?_⟩
      obtain ⟨R4, F4⟩ := call_rel RP g1 rs' hd R3 F3
      have R5 := cut_rel (r := r2) R4 R2.len
      refine k G3 H3 R5 ⟨F2.le.trans F4.le, fun b u eb t nb => ?_, fun j fs z => ?_, fun j z => ?_, fun b h => F2.mono b (F4.mono b h)⟩
      · obtain ⟨m1, m2, m3⟩ := F2.keep b u eb t nb
        have np : b ≠ p := nw_ne h1 eb t
        have no : ¬ Owned (r2 ++ [some (.own false as.2)]) (σ ++ [some (.ref p)]) b := fun ⟨j, q, es, z1, z2⟩ => by
          by_cases hj : j < r2.length
          · rw [List.getElem?_append_left hj] at z1
            rw [List.getElem?_append_left (by rw [← R2.len]; exact hj)] at z2
            exact m2 ⟨j, q, es, z1, z2⟩
          · have : j = r2.length := by
              have := (List.getElem?_eq_some_iff.mp z1).1
              simp at this; omega
            rw [this, R2.len, List.getElem?_append_right (Nat.le_refl _)] at z2
            simp at z2
            exact np z2.symm
        obtain ⟨n1, n2, n3⟩ := F4.keep b u m1 t no
        refine ⟨n1, fun ⟨j, q, es, z1, z2⟩ => n2 ?_, fun z => n3 (m3 z)⟩
        have hj := (List.getElem?_eq_some_iff.mp z1).1
        rw [List.length_take] at hj
        rw [List.getElem?_take_of_lt (by omega)] at z1
        exact ⟨j, q, es, z1, by rw [List.getElem?_append_left (by rw [← R2.len]; omega)]; exact z2⟩
      · obtain ⟨⟨fs1, z1⟩, _⟩ := F2.pin j fs z
        have hj := (List.getElem?_eq_some_iff.mp z1).1
        obtain ⟨⟨fs2, z2⟩, _⟩ := F4.pin j fs1 (by rw [List.getElem?_append_left hj]; exact z1)
        exact ⟨⟨fs2, by rw [List.getElem?_take_of_lt hj]; exact z2⟩, rfl⟩
      · obtain ⟨z1, _⟩ := F2.lck j z
        have hj := (List.getElem?_eq_some_iff.mp z1).1
        obtain ⟨z2, _⟩ := F4.lck j (by rw [List.getElem?_append_left hj]; exact z1)
        exact ⟨by rw [List.getElem?_take_of_lt hj]; exact z2, rfl⟩
    · cases e4
theorem w_callZ {P : D → Ro → Prop} {r : Ro} {n : Nat} {F : M D} {as : List Ar} {ds : List D} {ss : Ro} (h3 : argS (r ++ [some (.own false ds)]) (as ++ [.s r.length]) = some ss) (h1 : (as ++ [Ar.s r.length]).length = n) (h2 : (slots (as ++ [.s r.length])).Nodup)
    {Q : D → Ro → Prop} (h : wp F Q ss) (i : ∀ d ss', Q d ss' → P d ((putB (r ++ [some (.own false ds)]) (as ++ [.s r.length]) ss').take r.length)) : wp (callZ n F (as, ds)) P r := by
  obtain ⟨d, ss', e, q⟩ := h
  refine ⟨d, _, ?_, i _ _ q⟩
  unfold callZ callM
  dsimp only
  rw [if_pos ⟨h1, h2⟩, h3]
  dsimp only
  rw [e]
/-! ### a def taken from a table of the module -/
def tCallH (k i : Nat) (X : Cx) (t : TA) : TE := fun σ H Q => ∃ f sp, Held X.prog X.w X.K X.mg X.base k f sp ∧ σ[i]? = some (some (.ref f)) ∧ t σ H fun vs H1 => sp vs H1 Q (fun _ _ _ => False)
theorem pe_callH {k : Nat} {t : TA} (hr : Room k X.A) (hN : X.N[i]? = some x) (hv : Vis X.env.scope x) (ha : PA X (e :: es) t)
    (hdb : (x == ("__debug__" : Str)) = false := by decide) (hcd : (x == ("__classdict__" : Str)) = false := by decide)
    (he : starEach (e :: es) X.env = (false, eval e X.env) :: starEach es X.env := by rfl) (hpl : (backTo pos (starEach es X.env)).any (·.1) = false := by rfl) : PE X (.Call (.Name x p) (e :: es) [] pos) (tCallH k i X t) := by
  refine ⟨fun pins s σ H Q I h => ?_⟩
  obtain ⟨f, sp, A, hs, ht⟩ := h
  obtain ⟨fd, ps, F, hk, hb⟩ := A.ex
  refine (pe_callL (i := i) (f := f) (sp := sp) (dvs := []) (E := fun _ _ _ => False) F hr hN hv hk hb .nil (fun _ _ _ _ _ _ _ z => z.elim) ha hdb hcd he hpl).run pins s σ H Q I ⟨hs, ?_⟩
  have e0 : (fun (vs : List V) (H1 : Hp) => sp (vs ++ []) H1 Q (fun _ _ _ => False)) = fun vs H1 => sp vs H1 Q (fun _ _ _ => False) := by
    funext vs H1
    rw [List.append_nil]
  show t σ H (fun vs H1 => sp (vs ++ []) H1 Q (fun _ _ _ => False))
  rw [e0]
  exact ht
/-- the slot is forgotten -/
def clr (i : Nat) : Ro → Option Ro := fun r => if free r i = true then some (r.set i none) else none
def tabD (T : List (Str × M D)) : D → Option (M D)
  | .str z => T.lookup z
  | _ => none
/-- x = T[w]; return x(..) -/
def tabM (T : List (Str × M D)) (mw : M D) (i n : Nat) (mr : M (List Ar)) : M Fl := bd mw fun d => bd (of (tabD T d)) fun F => seqM (nxt (clr i)) (retM (bd mr fun as => callM n F as))
theorem clr_rel {K : PySem.W.Frag} {G H : Hp} {r r' : Ro} {σ : L2.St} (R : Rel Θ K G H r σ) (h : clr i r = some r') (v : V) :
    Rel Θ K G H r' (σ.set i (some v)) ∧ Fr G H r σ G H r' (σ.set i (some v)) := by
  unfold clr at h
  split at h
  · rename_i hf
    cases h
    have hl := free_lt hf
    have get : ∀ {j : Nat} {s : S}, (r.set i none)[j]? = some (some s) → j ≠ i ∧ r[j]? = some (some s) := fun {j s} z => by
      by_cases hj : i = j
      · subst hj; rw [List.getElem?_set_self hl] at z; cases z
      · rw [List.getElem?_set_ne hj] at z; exact ⟨fun e => hj e.symm, z⟩
    have sig : ∀ {j : Nat}, j ≠ i → (σ.set i (some v))[j]? = σ[j]? := fun {j} n => List.getElem?_set_ne (fun z => n z.symm)
    refine ⟨⟨by rw [List.length_set, List.length_set]; exact R.len, R.sub, fun j d z => ?_, fun j q es z => ?_, fun j k q es q' es' a z1 z2 e1 e2 => ?_, R.tab⟩, Same.refl _, fun b u e t n => ⟨e, fun ⟨j, q, es, z1, z2⟩ => ?_, fun z => z⟩, fun j fs z => ?_, fun j z => ?_, fun _ h => h⟩
    · obtain ⟨n, z⟩ := get z; rw [sig n]; exact R.get j d z
    · obtain ⟨n, z⟩ := get z; rw [sig n]; exact R.own j q es z
    · obtain ⟨n1, z1⟩ := get z1
      obtain ⟨n2, z2⟩ := get z2
      rw [sig n1] at e1; rw [sig n2] at e2
      exact R.sep j k q es q' es' a z1 z2 e1 e2
    · obtain ⟨n1, z1⟩ := get z1
      rw [sig n1] at z2
      exact n ⟨j, q, es, z1, z2⟩
    · have n : j ≠ i := fun e => by subst e; exact free_pin hf z
      exact ⟨⟨fs, by rw [List.getElem?_set_ne (fun e => n e.symm)]; exact z⟩, sig n⟩
    · have n : j ≠ i := fun e => by subst e; exact free_lock hf z
      exact ⟨by rw [List.getElem?_set_ne (fun e => n e.symm)]; exact z, sig n⟩
  · cases h
theorem sb_tab {t : Str} {pt px px2 ps pa pr : Pos} {w : Expr} {mw : M D} {tp : Addr} {T : List (Str × M D)} {k n : Nat} (hN : X.N.Nodup) (hi : X.N[i]? = some x) (hx : Loc X.env.scope x) (hv : Vis X.env.scope x)
    (hg : Gl X t) (hm : X.mg t = some (.ref tp)) (hT : ∀ z F, T.lookup z = some F → ∃ f, KDct X.K X.w tp z (.ref f) ∧ Held X.prog X.w X.K X.mg X.base k f (spF Θ X.K n F))
    (hw : SE Θ X w mw) (hsx : PlainIx w) (hr : Room k X.A) (ha : SR Θ X (e :: es) mr)
    (hs : swapsWith (.Subscript (.Name t pt) w ps) (some (.Name x px)) pa.line X.env = pure false := by rfl) (hf : X.fn x = true ∨ X.env.scope.names.lookup x = some .local := by first | exact .inl rfl | exact .inr rfl | assumption)
    (hdt : (t == ("__debug__" : Str)) = false := by decide)
    (hdb : (x == ("__debug__" : Str)) = false := by decide) (hcd : (x == ("__classdict__" : Str)) = false := by decide)
    (he : starEach (e :: es) X.env = (false, eval e X.env) :: starEach es X.env := by rfl) (hpl : (backTo pos (starEach es X.env)).any (·.1) = false := by rfl) :
    SB Θ X [.Assign [.Name x px] (.Subscript (.Name t pt) w ps) pa, .Return (some (.Call (.Name x px2) (e :: es) [] pos)) pr] (tabM T mw i n mr) := by
  refine pss_imp (pss_cons (ps_set hN hi hx (pe_ix ix_kdict (pe_glob hg hm (v := .ref tp) rfl hdt) hw hsx) hs hf) (pss_one (ps_ret (pe_callH (k := k) (i := i) hr hi hv ha hdb hcd he hpl)))) fun σ H E q => ?_
  obtain ⟨G, r, R, fl, r', e, kk⟩ := q
  obtain ⟨d, r1, e1, e2⟩ := bd_some e
  obtain ⟨F, r2, e3, e4⟩ := bd_some e2
  obtain ⟨e3', er⟩ := of_some e3
  subst er
  refine ⟨G, r, R, d, _, e1, fun G1 H1 R1 F1 v rv => ?_⟩
  cases d with
  | str z =>
    obtain rfl := rv.str_inv
    obtain ⟨f, kd, hld⟩ := hT z F e3'
    refine ⟨tp, z, .ref f, rfl, rfl, kd, ?_⟩
    unfold seqM nxt at e4
    cases ec : clr i r2 with
    | none => rw [ec] at e4; cases e4
    | some r3 =>
      rw [ec] at e4
      dsimp only at e4
      obtain ⟨R3, F3⟩ := clr_rel R1 ec (.ref f)
      have hsz : i < σ.length := by
        unfold clr at ec
        split at ec
        · rw [← R1.len]; exact free_lt (by assumption)
        · cases ec
      refine ⟨f, _, hld, List.getElem?_set_self hsz, ?_⟩
      unfold retM at e4
      obtain ⟨d5, r5, e5, e6⟩ := bd_some e4
      cases e6
      have := call_rd (X := X) (E := fun _ _ _ => False) (Q := fun v H' => E.rt v H') (σ := σ.set i (some (.ref f))) (H := H1) ⟨G1, r3, R3, d5, r', e5, fun G' H' R' F' v rv => (kk G' H' _ R' ((F1.trans F3).trans F')) v rv⟩
      have e0 : (fun (vs : List V) (H1 : Hp) => spF Θ X.K n F (vs ++ []) H1 (fun v H' => E.rt v H') (fun _ _ _ => False)) = fun vs H1 => spF Θ X.K n F vs H1 (fun v H' => E.rt v H') (fun _ _ _ => False) := by
        funext vs H1
        rw [List.append_nil]
      have h2 : rdR Θ X.K mr (σ.set i (some (.ref f))) H1 (fun vs H1 => spF Θ X.K n F (vs ++ []) H1 (fun v H' => E.rt v H') (fun _ _ _ => False)) := this
      rw [e0] at h2
      exact h2
  | _ => cases e3'
/-! ### enumerate of a list -/
def enumD (ds : List D) : List D := ds.mapIdx fun i d => .tup [.int i, d]
def enumOf : List D → Option (List D)
  | [.lst ds] => some (enumD ds)
  | _ => none
theorem wk_enum {K : PySem.W.Frag} {G : Hp} {a : Addr} {ds : List D} {vs : List V} (q : Rd G a (.lst vs)) (rs : Reps K G ds vs) : Wk K (Ite K a) (enumD ds) G (fun _ => True) := fun G' H' g s _ => by
  have q1 : SqL K H' a vs := .inl (rd_mono (g.trans s) q)
  have rs1 := Reps.mono g _ _ rs
  refine ⟨fun i hi => ⟨vs, q1, by rw [rs.length]; simpa [enumD] using hi⟩, fun i d hd => ?_⟩
  unfold enumD at hd
  rw [List.getElem?_mapIdx] at hd
  cases hx : ds[i]? with
  | none => rw [hx] at hd; cases hd
  | some y =>
    rw [hx] at hd
    cases hd
    obtain ⟨v, hv, rv⟩ := rs1.get hx
    refine ⟨⟨vs, v, q1, hv⟩, fun x H2 hy => ?_⟩
    obtain ⟨T, w, rfl, hT, rfl, hw⟩ := hy
    have := hw vs q1
    rw [hv] at this
    cases this
    have ex : Ext G' H' (upd G' T (.tup [.int (i : Nat), v])) (upd H' T (.tup [.int (i : Nat), v])) := Ext.new s hT _
    exact ⟨_, ex, Rep.tup_of (.inl (.inl upd_same)) (.cons .int_of (.cons (Rep.mono ex.le _ _ rv) .nil))⟩
theorem si_enum {p tpos : Pos} {elts : List Expr} {kk : Nat} (hg : Gl X "enumerate") (hm : X.mg "enumerate" = none) (ha : SA Θ X [e] ml) (hs : starEach [e] X.env = [(false, eval e X.env)] := by rfl) :
    SI Θ X (.Tuple elts kk tpos) (.Call (.Name "enumerate" p) [e] [] pos) (bd ml fun ds => of (enumOf ds)) :=
  pi_imp (pi_enum hg hm ha hs) fun σ H Q q => by
    obtain ⟨G, r, R, c⟩ := q
    refine ⟨G, r, R, (cn_bd c).mono fun xs G1 H1 ⟨r1, R1, s1, c1⟩ vs rs => ?_⟩
    obtain ⟨z, hz, k⟩ := cn_of R1 c1
    unfold enumOf at hz
    split at hz
    · cases hz
      obtain ⟨v, rfl, r⟩ := rs.one
      obtain ⟨a, us, rfl, q, rr⟩ := r.lst_inv
      exact ⟨a, us, rfl, .inl (rd_mono R1.sub q), k G1 H1 (Ext.refl _ _) _ (wk_enum q rr)⟩
    · cases hz
/-! ### a comprehension over a list of one's own: locked while it is walked -/
theorem lock_get {r : Ro} {i j : Nat} {s0 : S} {x : S} (hi : r[i]? = some (some s0)) (z : (r.set i (some .lock))[j]? = some (some x)) : (j = i ∧ x = .lock) ∨ (j ≠ i ∧ r[j]? = some (some x)) := by
  have hl : i < r.length := (List.getElem?_eq_some_iff.mp hi).1
  by_cases hj : i = j
  · subst hj; rw [List.getElem?_set_self hl] at z; cases z; exact .inl ⟨rfl, rfl⟩
  · rw [List.getElem?_set_ne hj] at z; exact .inr ⟨fun e => hj e.symm, z⟩
theorem lock_rel {K : PySem.W.Frag} {G H : Hp} {r : Ro} {σ : L2.St} (R : Rel Θ K G H r σ) {p : Bool} {ds : List D} (hi : r[i]? = some (some (.own p ds))) : Rel Θ K G H (r.set i (some .lock)) σ := by
  refine ⟨by rw [List.length_set]; exact R.len, R.sub, fun j d z => ?_, fun j q es z => ?_, fun j k q es q' es' a z1 z2 e1 e2 => ?_, R.tab⟩
  · rcases lock_get hi z with ⟨_, e⟩ | ⟨_, z⟩
    · cases e
    · exact R.get j d z
  · rcases lock_get hi z with ⟨_, e⟩ | ⟨_, z⟩
    · cases e
    · exact R.own j q es z
  · rcases lock_get hi z1 with ⟨_, e⟩ | ⟨_, z1⟩
    · cases e
    · rcases lock_get hi z2 with ⟨_, e⟩ | ⟨_, z2⟩
      · cases e
      · exact R.sep j k q es q' es' a z1 z2 e1 e2
theorem lock_own {r : Ro} {σ : L2.St} {p : Bool} {ds : List D} (hi : r[i]? = some (some (.own p ds))) {b : Addr} (o : Owned (r.set i (some .lock)) σ b) : ∃ j q es, j ≠ i ∧ r[j]? = some (some (.own q es)) ∧ σ[j]? = some (some (.ref b)) := by
  obtain ⟨j, q, es, z, e⟩ := o
  rcases lock_get hi z with ⟨_, e'⟩ | ⟨n, z⟩
  · cases e'
  · exact ⟨j, q, es, n, z, e⟩
theorem unlock {K : PySem.W.Frag} {G H G' H' : Hp} {r r' : Ro} {σ : L2.St} (R : Rel Θ K G H r σ) {p : Bool} {ds : List D} (hi : r[i]? = some (some (.own p ds))) {a : Addr} {vs : List V} (ha : σ[i]? = some (some (.ref a))) (h2 : H a = some (.lst vs)) (h3 : G a = none)
    (rs : Reps K G ds vs) (R' : Rel Θ K G' H' r' σ) (F : Fr G H (r.set i (some .lock)) σ G' H' r' σ) :
    r'[i]? = some (some .lock) ∧ Rel Θ K G' H' (r'.set i (some (.own p ds))) σ ∧ Fr G H r σ G' H' (r'.set i (some (.own p ds))) σ := by
  have hl : i < r.length := (List.getElem?_eq_some_iff.mp hi).1
  have l1 : r'[i]? = some (some .lock) := (F.lck i (List.getElem?_set_self hl)).1
  have hl' : i < r'.length := (List.getElem?_eq_some_iff.mp l1).1
  have na : ¬ Owned (r.set i (some .lock)) σ a := fun o => by
    obtain ⟨j, q, es, n, z, e⟩ := lock_own hi o
    exact n (R.sep j i q es p ds a z hi e ha)
  obtain ⟨k1, k2, k3⟩ := F.keep a _ h2 rfl na
  have get : ∀ {j : Nat} {x : S}, (r'.set i (some (.own p ds)))[j]? = some (some x) → (j = i ∧ x = .own p ds) ∨ (j ≠ i ∧ r'[j]? = some (some x)) := fun {j x} z => by
    by_cases hj : i = j
    · subst hj; rw [List.getElem?_set_self hl'] at z; cases z; exact .inl ⟨rfl, rfl⟩
    · rw [List.getElem?_set_ne hj] at z; exact .inr ⟨fun e => hj e.symm, z⟩
  refine ⟨l1, ⟨by rw [List.length_set]; exact R'.len, R'.sub, fun j d z => ?_, fun j q es z => ?_, fun j k q es q' es' b z1 z2 e1 e2 => ?_, R'.tab⟩, F.le, fun b u e t n => ?_, fun j fs z => ?_, fun j z => ?_, F.mono⟩
  · rcases get z with ⟨_, e⟩ | ⟨_, z⟩
    · cases e
    · exact R'.get j d z
  · rcases get z with ⟨rfl, e⟩ | ⟨_, z⟩
    · cases e; exact ⟨a, vs, ha, k1, k3 h3, Reps.mono F.le _ _ rs⟩
    · exact R'.own j q es z
  · rcases get z1 with ⟨w1, _⟩ | ⟨n1, y1⟩
    · rcases get z2 with ⟨w2, _⟩ | ⟨n2, y2⟩
      · rw [w1, w2]
      · rw [w1, ha] at e1; cases e1
        exact absurd ⟨k, q', es', y2, e2⟩ k2
    · rcases get z2 with ⟨w2, _⟩ | ⟨n2, y2⟩
      · rw [w2, ha] at e2; cases e2
        exact absurd ⟨j, q, es, y1, e1⟩ k2
      · exact R'.sep j k q es q' es' b y1 y2 e1 e2
  · have nb : b ≠ a := fun z => n ⟨i, p, ds, hi, by rw [z]; exact ha⟩
    obtain ⟨g1, g2, g3⟩ := F.keep b u e t (fun o => by
      obtain ⟨j, q, es, _, z, e⟩ := lock_own hi o
      exact n ⟨j, q, es, z, e⟩)
    refine ⟨g1, fun ⟨j, q, es, z, e⟩ => ?_, g3⟩
    rcases get z with ⟨rfl, _⟩ | ⟨_, z⟩
    · rw [ha] at e; cases e; exact nb rfl
    · exact g2 ⟨j, q, es, z, e⟩
  · by_cases hj : j = i
    · subst hj
      rw [hi] at z; cases z
      exact ⟨⟨_, List.getElem?_set_self hl'⟩, rfl⟩
    · obtain ⟨⟨ds', g1⟩, g2⟩ := F.pin j fs (by rw [List.getElem?_set_ne (fun e => hj e.symm)]; exact z)
      exact ⟨⟨ds', by rw [List.getElem?_set_ne (fun e => hj e.symm)]; exact g1⟩, g2⟩
  · have hj : j ≠ i := fun e => by subst e; rw [hi] at z; cases z
    obtain ⟨g1, g2⟩ := F.lck j (by rw [List.getElem?_set_ne (fun e => hj e.symm)]; exact z)
    exact ⟨by rw [List.getElem?_set_ne (fun e => hj e.symm)]; exact g1, g2⟩
def lcO (i : Nat) (f : D → Ro → Option Ro) (t : M Bool) (e : M D) (vs : List Nat) : M D := fun r => match r[i]? with
  | some (some (.own p ds)) => match lcM (rt ds) f t e vs (r.set i (some .lock)) with
    | some (d, r') => some (d, r'.set i (some (.own p ds)))
    | none => none
  | _ => none
theorem wk_own {K : PySem.W.Frag} {G : Hp} {a : Addr} {ds : List D} {vs : List V} (rs : Reps K G ds vs) : Wk K (Itl K a) ds G (fun H => H a = some (.lst vs)) := fun G' H' g s hC => by
  have q1 : SqL K H' a vs := SqL.of hC
  have rs1 := Reps.mono g _ _ rs
  refine ⟨fun i hi => ⟨vs, q1, by rw [rs.length]; exact hi⟩, fun i d hd => ?_⟩
  obtain ⟨v, hv, rv⟩ := rs1.get hd
  refine ⟨⟨vs, v, q1, hv⟩, fun x H2 hy => ?_⟩
  obtain ⟨h1, h2⟩ := hy
  have := h2 vs q1
  rw [hv] at this
  cases this
  subst h1
  exact ⟨G', Ext.refl _ _, rv⟩
theorem lcO_read {K : PySem.W.Frag} {i : Nat} {f : D → Ro → Option Ro} {t : M Bool} {me : M D} {vs : List Nat} {σ : L2.St} {H : Hp} {Q : VK} (hni : i ∉ vs) (q : rdE Θ K (lcO i f t me vs) σ H Q) :
    tLc (iList K (tVar i)) (rdW Θ K vs f) (rdT Θ K t) (rdE Θ K me) vs σ H Q := by
  obtain ⟨G, r, R, d, r', e, k⟩ := q
  unfold lcO at e
  split at e
  · rename_i p ds hi
    split at e
    · rename_i d' rb e1
      cases e
      unfold lcM at e1
      obtain ⟨ds', r1, e2, e3⟩ := bd_some e1
      obtain ⟨rfl, rfl⟩ := rt_some e2
      obtain ⟨a, us, h1, h2, h3, h4⟩ := R.own i p ds' hi
      have R1 := lock_rel R hi
      refine ⟨.ref a, h1, a, rfl, ⟨us, SqL.of h2⟩, fun pp hp => ?_⟩
      split at e3
      · rename_i hok
        cases e4 : compM f t me vs ds' [] (wipeR (r.set i (some .lock)) vs) with
        | none => rw [e4] at e3; cases e3
        | some q =>
          obtain ⟨res, rf⟩ := q
          rw [e4] at e3
          cases e3
          have na0 : ¬ Owned (wipeR (r.set i (some .lock)) vs) (wipe σ vs) a := fun o => by
            obtain ⟨j, q, es, n, z, e⟩ := lock_own hi (wipe_owned o)
            exact n (R.sep j i q es p ds' a z hi e h1)
          refine comp_core (C := fun H => H a = some (.lst us)) (P := fun G H r => H a = some (.lst us) ∧ G a = none ∧ ¬ Owned r (wipe σ vs) a) (wk_own h4)
            (fun G H r G' H' r' pq F => by
              obtain ⟨g1, g2, g3⟩ := pq
              obtain ⟨k1, k2, k3⟩ := F.keep a _ g1 rfl g3
              exact ⟨k1, k3 g2, k2⟩)
            (fun G H r o pq => ⟨by rw [upd_ne (fun z => by subst z; rw [hp] at h2; cases h2)]; exact pq.1, pq.2⟩) (fun _ _ _ pq => pq.1) ⟨h2, h3, na0⟩ (wipe_rel R1) (fun j hj x z => (wipeR_get z).2 hj) hp e4 fun G2 H2 acc R2 hw2 F2 h1' h2' h3' h4' => ?_
          obtain ⟨R3, F3⟩ := back_rel hok R1 R2 hw2 F2
          have le : Same G2 (upd G2 pp (.lst acc)) := same_new h2' _
          have h3'' : ¬ Owned (back (r.set i (some .lock)) rf vs) σ pp := fun ⟨j, q, fs, z1, z2⟩ => by
            obtain ⟨a', us', g1, g2, _⟩ := R3.own j q fs z1
            rw [z2] at g1; cases g1
            by_cases hj : j ∈ vs
            · have hlt : j < rf.length := by
                have := (List.getElem?_eq_some_iff.mp z1).1
                rwa [back_length] at this
              rw [back_in hlt (by rw [R2.len, wipe_length, ← R1.len] at hlt; exact hlt) hj] at z1
              rcases okW_at hok hj with e | ⟨d, e⟩ <;> (rw [e] at z1; cases z1)
            · rw [back_out hj] at z1
              exact h3' ⟨j, q, fs, z1, by rw [wipe_outS hj]; exact z2⟩
          have R4 : Rel Θ K (upd G2 pp (.lst acc)) H2 (back (r.set i (some .lock)) rf vs) σ := ⟨R3.len, fun b u e => by
              by_cases z : b = pp
              · subst z; rw [upd_same] at e; cases e; exact h1'
              · rw [upd_ne z] at e; exact R3.sub _ _ e, fun j d z => by
              obtain ⟨v, g1, g2⟩ := R3.get j d z
              exact ⟨v, g1, Rep.mono le _ _ g2⟩, fun j q fs z => by
              obtain ⟨a', us', g1, g2, g3, g4⟩ := R3.own j q fs z
              exact ⟨a', us', g1, g2, by rw [upd_ne (fun z' => by subst z'; exact h3'' ⟨j, q, fs, z, g1⟩)]; exact g3, Reps.mono le _ _ g4⟩, R3.sep, R3.tab.frz le fun b u e z => by
            by_cases q : b = pp
            · subst q; rw [upd_same] at e; cases e; exact ⟨acc, rfl, h1'⟩
            · rw [upd_ne q, z] at e; cases e⟩
          have F4 : Fr G H (r.set i (some .lock)) σ (upd G2 pp (.lst acc)) H2 (back (r.set i (some .lock)) rf vs) σ := ⟨F3.le.trans le, fun b u e t n => by
              obtain ⟨g1, g2, g3⟩ := F3.keep b u e t n
              exact ⟨g1, g2, fun z => by rw [upd_ne (ne_of_none e hp)]; exact g3 z⟩, F3.pin, F3.lck, F3.mono⟩
          obtain ⟨_, R5, F5⟩ := unlock R hi h1 h2 h3 h4 R4 F4
          exact k _ H2 R5 F5 (.ref pp) (.lst_of (Rd.of upd_same) (Reps.mono le _ _ h4'))
      · cases e3
    · cases e
  · cases e
theorem se_lcO {elt : Expr} {ifs : List Expr} {scope : Scope} {own : List (Str × Nat)} {f : D → Ro → Option Ro} {t : M Bool} {me : M D} (hc : X.calm = true) (hN : X.N.Nodup) (hi : PE X iter (tVar i)) (hni : i ∉ own.map (·.2)) (ok : BlkOk X.N X.env.scope scope own)
    (hg : ∀ (s : Shared) (H : Hp) (C : Addr) (cl : List (Str × Addr)) (fp : List Addr), SGw Θ (X.blk s H scope (compEnvC scope cl C X.env) fp) (own.map (·.2)) tg f) (ht : ∀ (s : Shared) (H : Hp) (C : Addr) (cl : List (Str × Addr)) (fp : List Addr), SQ Θ (X.blk s H scope (compEnvC scope cl C X.env) fp) ifs t)
    (he : ∀ (s : Shared) (H : Hp) (C : Addr) (cl : List (Str × Addr)) (fp : List Addr), SE Θ (X.blk s H scope (compEnvC scope cl C X.env) fp) elt me) (hs : ∀ x, foldedSetIterable iter X.env x = pure x := by intro _; rfl) :
    SE Θ X (.ListComp elt [⟨tg, iter, ifs, 0⟩] scope pos) (lcO i f t me (own.map (·.2))) :=
  pe_imp (pe_lc hc hN (pi_list hi) ok hg ht he hs) fun σ H Q q => lcO_read hni q
/-- what it comes to -/
theorem w_lcO {P : D → Ro → Prop} {f : D → Ro → Option Ro} {t : M Bool} {me : M D} {vs : List Nat} {r : Ro} {p : Bool} {ds : List D} (hi : r[i]? = some (some (.own p ds)))
    (hok : okW (r.set i (some .lock)) vs = true) (h : wp (compM f t me vs ds []) (fun res r' => P (.lst res) ((back (r.set i (some .lock)) r' vs).set i (some (.own p ds)))) (wipeR (r.set i (some .lock)) vs)) : wp (lcO i f t me vs) P r := by
  obtain ⟨res, r2, e2, q⟩ := h
  refine ⟨.lst res, _, ?_, q⟩
  unfold lcO
  rw [hi]
  dsimp only
  unfold lcM bd rt
  dsimp only
  rw [if_pos hok, e2]
theorem tab_nil {C : Str → M D → Prop} : ∀ z F, ([] : List (Str × M D)).lookup z = some F → C z F := fun _ _ h => by cases h
theorem tab_cons {C : Str → M D → Prop} {z0 : Str} {F0 : M D} {T : List (Str × M D)} (h0 : C z0 F0) (h : ∀ z F, T.lookup z = some F → C z F) : ∀ z F, ((z0, F0) :: T).lookup z = some F → C z F := fun z F e => by
  rw [List.lookup_cons] at e
  split at e
  · rename_i hz
    cases e
    rw [eq_of_beq hz]
    exact h0
  · exact h z F e
theorem w_tab {P : Fl → Ro → Prop} {r : Ro} {T : List (Str × M D)} {mw : M D} {i n : Nat} {mr : M (List Ar)} (h : wp mw (fun d r1 => ∃ F, tabD T d = some F ∧ ∃ r2, clr i r1 = some r2 ∧ wp (bd mr fun as => callM n F as) (fun d r3 => P (.rt d) r3) r2) r) : wp (tabM T mw i n mr) P r := by
  unfold tabM
  refine w_bd (w_mono h ?_)
  rintro d r1 ⟨F, e, r2, e2, q⟩
  exact w_bd (w_of e (w_seq (w_nxt e2 (w_ret q))))
end
end Pk

namespace Pk
open PySem PySem.Spec PyProof.Rows L2
/-! ### new lists among the arguments, anywhere -/
inductive Ar2 where
  | v (d : D) | s (i : Nat) | n (ds : List D)
def ArN (K : PySem.W.Frag) (H0 G H : Hp) (r : Ro) (σ : L2.St) : List Ar2 → List V → List (Addr × List D) → Prop
  | [], vs, ps => vs = [] ∧ ps = []
  | .v d :: as, vs, ps => ∃ u t, vs = u :: t ∧ Rep K G d u ∧ ArN K H0 G H r σ as t ps
  | .s i :: as, vs, ps => ∃ u t, vs = u :: t ∧ σ[i]? = some (some u) ∧ ArN K H0 G H r σ as t ps
  | .n ds :: as, vs, ps => ∃ p us t qs, vs = .ref p :: t ∧ ps = (p, ds) :: qs ∧ nw H0 p ∧ H p = some (.lst us) ∧ G p = none ∧ ¬ Owned r σ p ∧ Reps K G ds us ∧ (∀ q ∈ qs, q.1 ≠ p) ∧ ArN K H0 G H r σ as t qs
section
variable {K : PySem.W.Frag} {H0 H1 G H G' H' : Hp} {r r' : Ro} {σ : L2.St}
theorem arN_back (m : ∀ b, nw H1 b → nw H0 b) : ∀ {as : List Ar2} {vs : List V} {ps}, ArN K H1 G H r σ as vs ps → ArN K H0 G H r σ as vs ps
  | [], _, _, h => h
  | .v d :: as, _, _, ⟨u, t, e, h1, h2⟩ => ⟨u, t, e, h1, arN_back m h2⟩
  | .s i :: as, _, _, ⟨u, t, e, h1, h2⟩ => ⟨u, t, e, h1, arN_back m h2⟩
  | .n ds :: as, _, _, ⟨p, us, t, qs, e1, e2, h1, h2, h3, h4, h5, h6, h7⟩ => ⟨p, us, t, qs, e1, e2, m _ h1, h2, h3, h4, h5, h6, arN_back m h7⟩
theorem arN_new : ∀ {as : List Ar2} {vs : List V} {ps}, ArN K H0 G H r σ as vs ps → ∀ q ∈ ps, nw H0 q.1
  | [], _, _, h, q, hq => by rw [h.2] at hq; cases hq
  | .v d :: as, _, _, ⟨u, t, e, h1, h2⟩, q, hq => arN_new h2 q hq
  | .s i :: as, _, _, ⟨u, t, e, h1, h2⟩, q, hq => arN_new h2 q hq
  | .n ds :: as, _, _, ⟨p, us, t, qs, e1, e2, h1, h2, h3, h4, h5, h6, h7⟩, q, hq => by
    subst e2
    rcases List.mem_cons.mp hq with rfl | hq
    · exact h1
    · exact arN_new h7 q hq
end
def rdRN (Θ : List (Addr × Str)) (K : PySem.W.Frag) (m : M (List Ar2)) : TA := fun σ H Q => ∃ G r, Rel Θ K G H r σ ∧ ∃ as r', m r = some (as, r') ∧
  ∀ G' H' vs ps, Rel Θ K G' H' r' σ → Fr G H r σ G' H' r' σ → ArN K H G' H' r' σ as vs ps → Q vs H'
abbrev SRN (Θ : List (Addr × Str)) (X : Cx) (es : List Expr) (m : M (List Ar2)) : Prop := PA X es (rdRN Θ X.K m)
section
variable {X : Cx} {e : Expr} {es : List Expr} {pos p : Pos} {m : M D} {i : Nat} {ml : M (List D)} {mt : M (List Ar2)} {x : Str}
theorem srn_nil : SRN Θ X [] (rt []) := pa_imp pa_nil fun σ H Q q => by
  obtain ⟨G, r, R, as, r', e, k⟩ := q
  obtain ⟨rfl, rfl⟩ := rt_some e
  exact k G H [] [] R (Fr.refl _ _ _ _) ⟨rfl, rfl⟩
theorem srn_v (ha : SE Θ X e m) (hr : SRN Θ X es mt) (hs : starEach (e :: es) X.env = (false, eval e X.env) :: starEach es X.env := by rfl) : SRN Θ X (e :: es) (bd m fun x => bd mt fun a => rt (.v x :: a)) := pa_imp (pa_cons ha hr hs) fun σ H Q q => by
  obtain ⟨G, r, R, as, r', e, k⟩ := q
  obtain ⟨x, r1, e1, e2⟩ := bd_some e
  obtain ⟨a, r2, e3, e4⟩ := bd_some e2
  obtain ⟨rfl, rfl⟩ := rt_some e4
  refine ⟨G, r, R, x, r1, e1, fun G1 H1 R1 F1 vx rx => ⟨G1, r1, R1, a, r', e3, fun G2 H2 vs ps R2 F2 h => ?_⟩⟩
  exact k G2 H2 (vx :: vs) ps R2 (F1.trans F2) ⟨vx, vs, rfl, Rep.mono F2.le _ _ rx, arN_back F1.mono h⟩
theorem srn_s (ha : PE X e (tVar i)) (hr : SRN Θ X es mt) (hs : starEach (e :: es) X.env = (false, eval e X.env) :: starEach es X.env := by rfl) : SRN Θ X (e :: es) (bd (own i) fun _ => bd mt fun a => rt (.s i :: a)) := pa_imp (pa_cons ha hr hs) fun σ H Q q => by
  obtain ⟨G, r, R, as, r', e, k⟩ := q
  obtain ⟨x, r1, e1, e2⟩ := bd_some e
  obtain ⟨a, r2, e3, e4⟩ := bd_some e2
  obtain ⟨rfl, rfl⟩ := rt_some e4
  obtain ⟨p0, ds0, hi0, rfl⟩ : ∃ p ds, r[i]? = some (some (.own p ds)) ∧ r1 = r := by
    unfold own at e1
    split at e1
    · cases e1; exact ⟨_, _, by assumption, rfl⟩
    · cases e1
  obtain ⟨ad, vs0, h1, h2, h3, h4⟩ := R.own i p0 ds0 hi0
  refine ⟨.ref ad, h1, G, r1, R, a, r', e3, fun G2 H2 vs ps R2 F2 h => ?_⟩
  exact k G2 H2 (.ref ad :: vs) ps R2 F2 ⟨_, vs, rfl, h1, h⟩
theorem srn_n (hf : SF Θ X e ml) (hr : SRN Θ X es mt) (hs : starEach (e :: es) X.env = (false, eval e X.env) :: starEach es X.env := by rfl) : SRN Θ X (e :: es) (bd ml fun ds => bd mt fun a => rt (.n ds :: a)) := pa_imp (pa_cons hf hr hs) fun σ H Q q => by
  obtain ⟨G, r, R, as, r', e, k⟩ := q
  obtain ⟨ds, r1, e1, e2⟩ := bd_some e
  obtain ⟨a, r2, e3, e4⟩ := bd_some e2
  obtain ⟨rfl, rfl⟩ := rt_some e4
  refine ⟨G, r, R, ds, r1, e1, fun G1 H1 p us R1 F1 h1 h2 h3 h4 h5 => ⟨G1, r1, R1, a, r', e3, fun G2 H2 vs ps R2 F2 h => ?_⟩⟩
  obtain ⟨k1, k2, k3⟩ := F2.keep p _ h2 rfl h4
  exact k G2 H2 (.ref p :: vs) ((p, ds) :: ps) R2 (F1.trans F2) ⟨p, us, vs, ps, rfl, rfl, h1, k1, k3 h3, k2, Reps.mono F2.le _ _ h5, fun q hq e => nw_ne (arN_new h q hq) h2 rfl e.symm, arN_back F1.mono h⟩
/-- the new lists as slots behind the others -/
def lay (n : Nat) : List Ar2 → List Ar
  | [] => []
  | .v d :: as => .v d :: lay n as
  | .s i :: as => .s i :: lay n as
  | .n _ :: as => .s n :: lay (n + 1) as
def news : List Ar2 → Ro
  | [] => []
  | .n ds :: as => some (.own false ds) :: news as
  | _ :: as => news as
def callW (n : Nat) (F : M D) (as : List Ar2) : M D := fun r => match callM n F (lay r.length as) (r ++ news as) with
  | some (d, r') => some (d, r'.take r.length)
  | none => none
theorem arN_lay {K : PySem.W.Frag} {H0 G H : Hp} {r : Ro} {σ : L2.St} : ∀ {as : List Ar2} {vs : List V} {ps : List (Addr × List D)} {τ : L2.St}, (∀ (i : Nat) (u : V), σ[i]? = some (some u) → τ[i]? = some (some u)) → ArN K H0 G H r σ as vs ps →
    ArR K G (τ ++ ps.map fun q => some (.ref q.1)) (lay τ.length as) vs
  | [], _, _, τ, _, h => h.1
  | .v d :: as, _, ps, τ, ht, ⟨u, t, e, h1, h2⟩ => ⟨u, t, e, h1, arN_lay ht h2⟩
  | .s i :: as, _, ps, τ, ht, ⟨u, t, e, h1, h2⟩ => by
    refine ⟨u, t, e, ?_, arN_lay ht h2⟩
    have := ht i u h1
    rw [List.getElem?_append_left (List.getElem?_eq_some_iff.mp this).1]
    exact this
  | .n ds :: as, _, ps, τ, ht, ⟨p, us, t, qs, e1, e2, h1, h2, h3, h4, h5, h6, h7⟩ => by
    subst e2
    refine ⟨.ref p, t, e1, ?_, ?_⟩
    · rw [List.getElem?_append_right (Nat.le_refl _)]; simp
    · have := arN_lay (τ := τ ++ [some (.ref p)]) (fun i u hi => by
        have := ht i u hi
        rw [List.getElem?_append_left (List.getElem?_eq_some_iff.mp this).1]; exact this) h7
      rw [List.length_append, List.length_singleton, List.append_assoc] at this
      exact this
theorem push_owned {r : Ro} {σ : L2.St} {ds : List D} {p b : Addr} (hl : r.length = σ.length) (o : Owned (r ++ [some (.own false ds)]) (σ ++ [some (.ref p)]) b) : Owned r σ b ∨ b = p := by
  obtain ⟨j, q, es, z1, z2⟩ := o
  by_cases hj : j < r.length
  · rw [List.getElem?_append_left hj] at z1
    rw [List.getElem?_append_left (by rw [← hl]; exact hj)] at z2
    exact .inl ⟨j, q, es, z1, z2⟩
  · have : j = r.length := by
      have := (List.getElem?_eq_some_iff.mp z1).1
      simp at this; omega
    rw [this, hl, List.getElem?_append_right (Nat.le_refl _)] at z2
    simp at z2
    exact .inr z2.symm
/-- all of them pushed -/
theorem arN_push {K : PySem.W.Frag} {H0 G H : Hp} {r0 : Ro} {σ0 : L2.St} : ∀ {as : List Ar2} {vs : List V} {ps : List (Addr × List D)} {r : Ro} {σ : L2.St}, ArN K H0 G H r0 σ0 as vs ps → Rel Θ K G H r σ → (∀ q ∈ ps, ¬ Owned r σ q.1) →
    Rel Θ K G H (r ++ news as) (σ ++ ps.map fun q => some (.ref q.1)) ∧ ∀ b, Owned (r ++ news as) (σ ++ ps.map fun q => some (.ref q.1)) b → Owned r σ b ∨ ∃ q ∈ ps, b = q.1
  | [], _, _, r, σ, h, R, _ => by
    rw [h.2]
    simp only [news, List.append_nil, List.map_nil]
    exact ⟨R, fun b o => .inl o⟩
  | .v d :: as, _, ps, r, σ, ⟨u, t, e, h1, h2⟩, R, no => by
    have := arN_push (as := as) h2 R no
    exact this
  | .s i :: as, _, ps, r, σ, ⟨u, t, e, h1, h2⟩, R, no => by
    have := arN_push (as := as) h2 R no
    exact this
  | .n ds :: as, _, ps, r, σ, ⟨p, us, t, qs, e1, e2, h1, h2, h3, h4, h5, h6, h7⟩, R, no => by
    subst e2
    have np := no (p, ds) (List.mem_cons_self ..)
    have R1 := push_rel R h5 h2 h3 np
    obtain ⟨R2, o2⟩ := arN_push h7 R1 fun q hq o => by
      rcases push_owned R.len o with o | o
      · exact no q (List.mem_cons_of_mem _ hq) o
      · exact h6 q hq o
    have e1 : r ++ news (Ar2.n ds :: as) = r ++ [some (.own false ds)] ++ news as := by rw [List.append_assoc]; rfl
    have e2 : (σ ++ ((p, ds) :: qs).map fun q => some (V.ref q.1)) = σ ++ [some (.ref p)] ++ qs.map fun q => some (V.ref q.1) := by rw [List.append_assoc]; rfl
    rw [e1, e2]
    refine ⟨R2, fun b o => ?_⟩
    rcases o2 b o with o | ⟨q, hq, rfl⟩
    · rcases push_owned R.len o with o | o
      · exact .inl o
      · exact .inr ⟨(p, ds), List.mem_cons_self .., o⟩
    · exact .inr ⟨q, List.mem_cons_of_mem _ hq, rfl⟩
theorem cut_relN {K : PySem.W.Frag} {G H : Hp} {r r' : Ro} {σ τ : L2.St} (R : Rel Θ K G H r' (σ ++ τ)) (hl : r.length = σ.length) : Rel Θ K G H (r'.take r.length) σ := by
  have l' := R.len
  rw [List.length_append] at l'
  have get : ∀ {j : Nat} {y : Option S}, (r'.take r.length)[j]? = some y → j < r.length ∧ r'[j]? = some y := fun {j y} z => by
    have h := (List.getElem?_eq_some_iff.mp z).1
    rw [List.length_take] at h
    rw [List.getElem?_take_of_lt (by omega)] at z
    exact ⟨by omega, z⟩
  have sl : ∀ {j : Nat}, j < r.length → (σ ++ τ)[j]? = σ[j]? := fun {j} h => List.getElem?_append_left (by omega)
  refine ⟨by rw [List.length_take]; omega, R.sub, fun j d z => ?_, fun j q es z => ?_, fun j k q es q' es' a z1 z2 e1 e2 => ?_, R.tab⟩
  · obtain ⟨h, z⟩ := get z
    rw [← sl h]; exact R.get j d z
  · obtain ⟨h, z⟩ := get z
    rw [← sl h]; exact R.own j q es z
  · obtain ⟨h1, z1⟩ := get z1
    obtain ⟨h2, z2⟩ := get z2
    exact R.sep j k q es q' es' a z1 z2 (by rw [sl h1]; exact e1) (by rw [sl h2]; exact e2)
theorem arN_no {K : PySem.W.Frag} {H0 G H : Hp} {r : Ro} {σ : L2.St} : ∀ {as : List Ar2} {vs : List V} {ps : List (Addr × List D)}, ArN K H0 G H r σ as vs ps → ∀ q ∈ ps, ¬ Owned r σ q.1
  | [], _, _, h, q, hq => by rw [h.2] at hq; cases hq
  | .v d :: as, _, _, ⟨u, t, e, h1, h2⟩, q, hq => arN_no h2 q hq
  | .s i :: as, _, _, ⟨u, t, e, h1, h2⟩, q, hq => arN_no h2 q hq
  | .n ds :: as, _, _, ⟨p, us, t, qs, e1, e2, h1, h2, h3, h4, h5, h6, h7⟩, q, hq => by
    subst e2
    rcases List.mem_cons.mp hq with rfl | hq
    · exact h4
    · exact arN_no h7 q hq
theorem se_callW {k n : Nat} {f : Addr} {fd : FuncData} {ps : List Str} {F : M D} (G : FnOk X.prog X.w X.K X.mg X.base CX0 k f fd ps (spF Θ X.K n F)) (hr : Room k X.A) (hg : Gl X x) (hm : X.mg x = some (.ref f)) (hk : PySem.W.keepIn X.K (.ref f) = true) (hb : Binds X.K fd ps [])
    (ha : SRN Θ X (e :: es) mt) (hdb : (x == ("__debug__" : Str)) = false := by decide) (he : starEach (e :: es) X.env = (false, eval e X.env) :: starEach es X.env := by rfl) (hpl : (backTo pos (starEach es X.env)).any (·.1) = false := by rfl) :
    SE Θ X (.Call (.Name x p) (e :: es) [] pos) (bd mt fun a => callW n F a) :=
  pe_imp (pe_call (E := E0) G hr hg hm hk hb .nil pass0 ha hdb he hpl) fun σ H Q q => by
    obtain ⟨G, r, R, d, r', e, k⟩ := q
    obtain ⟨as, r2, e3, e4⟩ := bd_some e
    refine ⟨G, r, R, as, r2, e3, fun G2 H2 vs ps R2 F2 h => ?_⟩
    unfold callW at e4
    split at e4
    · rename_i d' r3 e5
      cases e4
      obtain ⟨RP, oP⟩ := arN_push h R2 (arN_no h)
      have rs' := arN_lay (τ := σ) (fun _ _ z => z) h
      rw [← R2.len] at rs'
      obtain ⟨hn, hd, ss, ss', g1, g2, rfl⟩ := callM_some e5
      show spF Θ X.K n F (vs ++ []) H2 Q E0
      rw [List.append_nil]
      refine ⟨by rw [arR_length rs']; exact hn, G2, ss, args_rel RP g1 rs' hd, d, ss', g2, fun G3 H3 R3 F3 => ?_⟩
      obtain ⟨R4, F4⟩ := call_rel RP g1 rs' hd R3 F3
      have R5 := cut_relN (r := r2) R4 R2.len
      refine k G3 H3 R5 ⟨F2.le.trans F4.le, fun b u eb t nb => ?_, fun j fs z => ?_, fun j z => ?_, fun b h => F2.mono b (F4.mono b h)⟩
      · obtain ⟨m1, m2, m3⟩ := F2.keep b u eb t nb
        have no : ¬ Owned (r2 ++ news as) (σ ++ ps.map fun q => some (V.ref q.1)) b := fun o => by
          rcases oP b o with o | ⟨q, hq, e⟩
          · exact m2 o
          · exact nw_ne (arN_new h q hq) eb t e
        obtain ⟨n1, n2, n3⟩ := F4.keep b u m1 t no
        refine ⟨n1, fun ⟨j, q, es, z1, z2⟩ => n2 ?_, fun z => n3 (m3 z)⟩
        have hj := (List.getElem?_eq_some_iff.mp z1).1
        rw [List.length_take] at hj
        rw [List.getElem?_take_of_lt (by omega)] at z1
        exact ⟨j, q, es, z1, by rw [List.getElem?_append_left (by rw [← R2.len]; omega)]; exact z2⟩
      · obtain ⟨⟨fs1, z1⟩, _⟩ := F2.pin j fs z
        have hj := (List.getElem?_eq_some_iff.mp z1).1
        obtain ⟨⟨fs2, z2⟩, _⟩ := F4.pin j fs1 (by rw [List.getElem?_append_left hj]; exact z1)
        exact ⟨⟨fs2, by rw [List.getElem?_take_of_lt hj]; exact z2⟩, rfl⟩
      · obtain ⟨z1, _⟩ := F2.lck j z
        have hj := (List.getElem?_eq_some_iff.mp z1).1
        obtain ⟨z2, _⟩ := F4.lck j (by rw [List.getElem?_append_left hj]; exact z1)
        exact ⟨by rw [List.getElem?_take_of_lt hj]; exact z2, rfl⟩
    · cases e4
theorem w_callW {P : D → Ro → Prop} {r : Ro} {n : Nat} {F : M D} {as : List Ar2} {ss : Ro} (h3 : argS (r ++ news as) (lay r.length as) = some ss) (h1 : (lay r.length as).length = n) (h2 : (slots (lay r.length as)).Nodup)
    {Q : D → Ro → Prop} (h : wp F Q ss) (i : ∀ d ss', Q d ss' → P d ((putB (r ++ news as) (lay r.length as) ss').take r.length)) : wp (callW n F as) P r := by
  obtain ⟨d, ss', e, q⟩ := h
  refine ⟨d, _, ?_, i _ _ q⟩
  unfold callW callM
  rw [if_pos ⟨h1, h2⟩, h3]
  dsimp only
  rw [e]
/-! ### x in a list or tuple of data, whatever its depth -/
def itemsD : D → Option (List D)
  | .lst ds => some ds
  | .tup ds => some ds
  | .ro ds => some ds
  | _ => none
def okIn (x : D) (ds : List D) : Bool := x.py.canLay0 && PyData.canLayAll0 (pys ds) && decide (x.py.depth ≤ 100)
def inD2 (x y : D) : Option D := match itemsD y with
  | some ds => if okIn x ds then some (.bl (ds.any fun z => eqv z x)) else none
  | none => none
def notInD2 (x y : D) : Option D := match itemsD y with
  | some ds => if okIn x ds then some (.bl (!ds.any fun z => eqv z x)) else none
  | none => none
def rInS (K : PySem.W.Frag) (neg : Bool) : R2 := fun x y H Q => ∃ d e ds, Dp K H x d ∧ Dp K H y e ∧ (e = .list ds ∨ e = .tuple ds) ∧ d.canLay0 = true ∧ PyData.canLayAll0 ds = true ∧ d.depth ≤ 100 ∧ Q (.bl (if neg then !ds.any fun z => PyData.eqv z d else ds.any fun z => PyData.eqv z d)) H
theorem op_inS (hu : X.A.units + 200 < cLine) : OpR X (compareOp .In) (rInS X.K false) := by
  intro pins s σ H x y v u Q I rx ry h
  obtain ⟨d, e, ds, hd, he, ee, sd, se, dd, q⟩ := h
  obtain ⟨as, r1⟩ := Dp.reads I d x v hd rx
  obtain ⟨bs, r2⟩ := Dp.reads I e y u he ry
  have hm : min (PyData.depthAll ds) d.depth ≤ 100 := Nat.le_trans (Nat.min_le_right _ _) dd
  rcases ee with rfl | rfl
  · exact SeqAt.in_list_reads r2 r1 se sd (by omega) ⟨.bl _, H, I, rfl, q⟩
  · exact SeqAt.in_tuple_reads r2 r1 se sd (by omega) ⟨.bl _, H, I, rfl, q⟩
theorem op_notInS (hu : X.A.units + 200 < cLine) : OpR X (compareOp .NotIn) (rInS X.K true) := by
  intro pins s σ H x y v u Q I rx ry h
  obtain ⟨d, e, ds, hd, he, ee, sd, se, dd, q⟩ := h
  obtain ⟨as, r1⟩ := Dp.reads I d x v hd rx
  obtain ⟨bs, r2⟩ := Dp.reads I e y u he ry
  have hm : min (PyData.depthAll ds) d.depth ≤ 100 := Nat.le_trans (Nat.min_le_right _ _) dd
  rcases ee with rfl | rfl
  · exact SeqAt.notIn_list_reads r2 r1 se sd (by omega) ⟨.bl _, H, I, rfl, q⟩
  · exact SeqAt.notIn_tuple_reads r2 r1 se sd (by omega) ⟨.bl _, H, I, rfl, q⟩
theorem itemsD_py {y : D} {ds : List D} (h : itemsD y = some ds) : y.py = .list (pys ds) ∨ y.py = .tuple (pys ds) := by
  cases y with
  | lst _ => cases h; exact .inl (by rw [D.py])
  | ro _ => cases h; exact .inl (by rw [D.py])
  | tup _ => cases h; exact .inr (by rw [D.py])
  | _ => cases h
theorem opg_in2 (hu : X.A.units + 200 < cLine) : OpG X (compareOp .In) inD2 := by
  refine ⟨_, op_inS hu, fun x y z e G H vx vy Q s rx ry k => ?_⟩
  unfold inD2 at e
  split at e
  · rename_i ds hi
    split at e
    · rename_i hc
      cases e
      unfold okIn at hc
      simp only [Bool.and_eq_true, decide_eq_true_eq] at hc
      refine ⟨_, _, pys ds, Rep.dp s x vx rx, Rep.dp s y vy ry, itemsD_py hi, hc.1.1, hc.1.2, hc.2, ?_⟩
      rw [any_pys]
      exact fin_flat (z := .bl (ds.any fun z => eqv z x)) k .bl_of
    · cases e
  · cases e
theorem opg_notIn2 (hu : X.A.units + 200 < cLine) : OpG X (compareOp .NotIn) notInD2 := by
  refine ⟨_, op_notInS hu, fun x y z e G H vx vy Q s rx ry k => ?_⟩
  unfold notInD2 at e
  split at e
  · rename_i ds hi
    split at e
    · rename_i hc
      cases e
      unfold okIn at hc
      simp only [Bool.and_eq_true, decide_eq_true_eq] at hc
      refine ⟨_, _, pys ds, Rep.dp s x vx rx, Rep.dp s y vy ry, itemsD_py hi, hc.1.1, hc.1.2, hc.2, ?_⟩
      rw [any_pys]
      exact fin_flat (z := .bl (!ds.any fun z => eqv z x)) k .bl_of
    · cases e
  · cases e
theorem o_notIn {P : D → Ro → Prop} {r : Ro} {x y : D} {ds : List D} (hi : itemsD y = some ds) (ho : okIn x ds = true) (h : P (.bl (!ds.any fun z => eqv z x)) r) : wp (of (notInD2 x y)) P r :=
  w_of (by unfold notInD2; rw [hi]; dsimp only; rw [if_pos ho]) h
theorem o_in {P : D → Ro → Prop} {r : Ro} {x y : D} {ds : List D} (hi : itemsD y = some ds) (ho : okIn x ds = true) (h : P (.bl (ds.any fun z => eqv z x)) r) : wp (of (inD2 x y)) P r :=
  w_of (by unfold inD2; rw [hi]; dsimp only; rw [if_pos ho]) h
theorem o_ixh {P : D → Ro → Prop} {r : Ro} {d : D} {ds : List D} (h : P d r) : wp (of (ixD (.tup (d :: ds)) (.int 0))) P r :=
  w_of (show L2.atI (d :: ds) 0 = some d from by unfold L2.atI L2.ixN; simp) h
end
end Pk

namespace Row
open PySem PySem.Spec PyProof.Rows L2 Pk
def top (i : Nat) : Stmt := PySem.Challenge.pw_patchkept_k24_equal_formulas.main.body.getD i (.Pass ⟨0, 0, 0, 0⟩)
abbrev s_p_bounded_formula : Stmt := top 1
abbrev s_p_items_formula : Stmt := top 2
abbrev s_p_field_formula : Stmt := top 3
abbrev s_p_fields_formula : Stmt := top 4
abbrev s_p_equal_formula : Stmt := top 5
abbrev s_l_child : Stmt := top 7
abbrev s_l_lookup : Stmt := top 8
abbrev s_l_with : Stmt := top 9
abbrev s_l_replace : Stmt := top 10
abbrev s_l_put : Stmt := top 11
abbrev s_l_take : Stmt := top 12
abbrev s_l_holds : Stmt := top 13
abbrev s_l_is_integer : Stmt := top 14
abbrev s_l_is_string : Stmt := top 15
abbrev s_l_is_token : Stmt := top 16
abbrev s_l_formula_parts : Stmt := top 17
abbrev s_l_is_formula : Stmt := top 18
abbrev s_l_cell : Stmt := top 19
abbrev s_l_source : Stmt := top 20
abbrev s_l_draw : Stmt := top 21
abbrev s_l_char : Stmt := top 22
abbrev s_l_name : Stmt := top 23
abbrev s_l_number : Stmt := top 24
abbrev s_l_leaf : Stmt := top 25
abbrev s_l_object : Stmt := top 26
abbrev s_l_value : Stmt := top 27
abbrev s_l_wide : Stmt := top 28
abbrev s_l_token : Stmt := top 29
abbrev s_l_path : Stmt := top 30
abbrev s_l_target : Stmt := top 31
abbrev s_l_changed : Stmt := top 32
abbrev s_law0 : Stmt := top 33
inductive Fn where
  | p_bounded_formula | p_items_formula | p_field_formula | p_fields_formula | p_equal_formula | l_child | l_lookup | l_with | l_replace | l_put | l_take | l_holds | l_is_integer | l_is_string | l_is_token | l_formula_parts | l_is_formula | l_cell | l_source | l_draw | l_char | l_name | l_number | l_leaf | l_object | l_value | l_wide | l_token | l_path | l_target | l_changed | law0
def b_p_bounded_formula (c : Fn → M D) (f : Fn → M (List D)) : M Fl :=
  seqM (bd (bd (ifM (bd (bd (ld 2) fun x => bd (rt .non) fun y => of (isD x y)) fun x => of (asB x)) (bd (bd (rt (.str "kind")) fun x => bd (bd (ld 0) fun x => bd (rt []) fun xs => rt (x :: xs)) fun xs => rt (x :: xs)) fun ds => of (mkT ds)) (bd (bd (ld 1) fun x => bd (bd (ld 2) fun x => bd (rt []) fun xs => rt (x :: xs)) fun xs => rt (x :: xs)) fun ds => of (mkT ds))) fun x => bd (rt []) fun xs => rt (x :: xs)) fun ds => if ds.length ≤ sizeLine then nxt (setO 4 ds) else fun _ => none)
    (seqM (ifM (bd (bd (ld 3) fun x => bd (rt .non) fun y => of (isNotD x y)) fun x => of (asB x)) (bd (own 4) fun _ => bd (bd (bd (rt (.str "not")) fun x => bd (bd (bd (bd (ld 1) fun x => bd (bd (bd (ld 3) fun x => bd (rt (.int 1)) fun y => of (addD x y)) fun x => bd (rt []) fun xs => rt (x :: xs)) fun xs => rt (x :: xs)) fun ds => of (mkT ds)) fun x => bd (rt []) fun xs => rt (x :: xs)) fun xs => rt (x :: xs)) fun ds => of (mkT ds)) fun d => nxt (appM 4 d)) (nilM))
    (retM (bd (bd (rt (.str "and")) fun x => bd (bd (bd (own 4) fun ds => rt (.tup ds)) fun x => bd (rt []) fun xs => rt (x :: xs)) fun xs => rt (x :: xs)) fun ds => of (mkT ds))))
def b_p_items_formula (c : Fn → M D) (f : Fn → M (List D)) : M Fl :=
  seqM (bd (bd (bd (ld 0) fun x => bd (rt []) fun xs => rt (x :: xs)) fun xs => of (lenD xs)) fun d => nxt (setD 1 d))
    (seqM (bd (bd (bd (bd (rt (.str "list")) fun x => bd (bd (rt (.str "items_from")) fun x => bd (bd (ld 1) fun x => bd (bd (ld 1) fun x => bd (rt []) fun xs => rt (.v x :: xs)) fun xs => rt (.v x :: xs)) fun xs => rt (.v x :: xs)) fun xs => rt (.v x :: xs)) fun as => callM 4 (c .p_bounded_formula) as) fun x => bd (rt []) fun xs => rt (x :: xs)) fun ds => if ds.length ≤ sizeLine then nxt (setO 2 ds) else fun _ => none)
    (seqM (bd (own 2) fun _ => bd (lcM (bd (bd (ld 0) fun x => bd (rt []) fun xs => rt (x :: xs)) fun ds => of (enumOf ds)) (tupF 2 (unCons (setD 3) (unCons (setD 4) (unNil)))) (rt true) (bd (bd (rt (.str "at")) fun x => bd (bd (bd (bd (ld 3) fun x => bd (rt []) fun xs => rt (x :: xs)) fun ds => of (mkT ds)) fun x => bd (bd (ld 4) fun x => bd (rt []) fun xs => rt (x :: xs)) fun xs => rt (x :: xs)) fun xs => rt (x :: xs)) fun ds => of (mkT ds)) [3, 4]) fun d => nxt (extM 2 d))
    (retM (bd (bd (rt (.str "and")) fun x => bd (bd (bd (own 2) fun ds => rt (.tup ds)) fun x => bd (rt []) fun xs => rt (x :: xs)) fun xs => rt (x :: xs)) fun ds => of (mkT ds)))))
def b_p_field_formula (c : Fn → M D) (f : Fn → M (List D)) : M Fl :=
  seqM (bd (bd (bd (rt (.str "at")) fun x => bd (bd (bd (bd (ld 0) fun x => bd (rt []) fun xs => rt (x :: xs)) fun ds => of (mkT ds)) fun x => bd (bd (ld 1) fun x => bd (rt []) fun xs => rt (x :: xs)) fun xs => rt (x :: xs)) fun xs => rt (x :: xs)) fun ds => of (mkT ds)) fun d => nxt (setD 3 d))
    (seqM (ifM (bd (ld 2) fun x => of (truD x)) (retM (ld 3)) (nilM))
    (retM (bd (bd (rt (.str "or")) fun x => bd (bd (bd (bd (ld 3) fun x => bd (bd (bd (bd (rt (.str "not")) fun x => bd (bd (bd (bd (rt (.str "at")) fun x => bd (bd (bd (bd (ld 0) fun x => bd (rt []) fun xs => rt (x :: xs)) fun ds => of (mkT ds)) fun x => bd (bd (bd (bd (rt (.str "true")) fun x => bd (rt []) fun xs => rt (x :: xs)) fun ds => of (mkT ds)) fun x => bd (rt []) fun xs => rt (x :: xs)) fun xs => rt (x :: xs)) fun xs => rt (x :: xs)) fun ds => of (mkT ds)) fun x => bd (rt []) fun xs => rt (x :: xs)) fun xs => rt (x :: xs)) fun ds => of (mkT ds)) fun x => bd (rt []) fun xs => rt (x :: xs)) fun xs => rt (x :: xs)) fun ds => of (mkT ds)) fun x => bd (rt []) fun xs => rt (x :: xs)) fun xs => rt (x :: xs)) fun ds => of (mkT ds))))
def b_p_fields_formula (c : Fn → M D) (f : Fn → M (List D)) : M Fl :=
  seqM (bd (bd (bd (lcM (bd (ld 0) fun d => of (seqOf d)) (setD 3) (rt true) (bd (ld 3) fun x => bd (rt (.int 0)) fun y => of (ixD x y)) [3]) fun x => bd (rt []) fun xs => rt (x :: xs)) fun xs => of (tupleD xs)) fun d => nxt (setD 2 d))
    (seqM (bd (bd (bd (bd (rt (.str "each_field")) fun x => bd (bd (ld 2) fun x => bd (bd (ld 1) fun x => bd (rt []) fun xs => rt (x :: xs)) fun xs => rt (x :: xs)) fun xs => rt (x :: xs)) fun ds => of (mkT ds)) fun x => bd (rt []) fun xs => rt (x :: xs)) fun ds => if ds.length ≤ sizeLine then nxt (setO 4 ds) else fun _ => none)
    (seqM (bd (own 4) fun _ => bd (lcM (bd (ld 0) fun d => of (seqOf d)) (tupF 3 (unCons (setD 5) (unCons (setD 6) (unCons (setD 7) (unNil))))) (rt true) (bd (bd (ld 5) fun x => bd (bd (ld 6) fun x => bd (bd (ld 7) fun x => bd (rt []) fun xs => rt (.v x :: xs)) fun xs => rt (.v x :: xs)) fun xs => rt (.v x :: xs)) fun as => callM 3 (c .p_field_formula) as) [5, 6, 7]) fun d => nxt (extM 4 d))
    (retM (bd (bd (rt (.str "and")) fun x => bd (bd (bd (own 4) fun ds => rt (.tup ds)) fun x => bd (rt []) fun xs => rt (x :: xs)) fun xs => rt (x :: xs)) fun ds => of (mkT ds)))))
def b_p_equal_formula (c : Fn → M D) (f : Fn → M (List D)) : M Fl :=
  seqM (bd (bd (ld 0) fun x => bd (rt (.int 0)) fun y => of (ixD x y)) fun d => nxt (setD 1 d))
    (seqM (ifM (bd (bd (ld 1) fun x => bd (rt (.str "null")) fun y => of (eqD x y)) fun x => of (asB x)) (retM (bd (bd (rt (.str "kind")) fun x => bd (bd (rt (.str "null")) fun x => bd (rt []) fun xs => rt (x :: xs)) fun xs => rt (x :: xs)) fun ds => of (mkT ds))) (nilM))
    (seqM (ifM (bd (bd (ld 1) fun x => bd (rt (.str "bool")) fun y => of (eqD x y)) fun x => of (asB x)) (retM (bd (bd (rt (.str "bool_is")) fun x => bd (bd (bd (ld 0) fun x => bd (rt (.int 1)) fun y => of (ixD x y)) fun x => bd (rt []) fun xs => rt (x :: xs)) fun xs => rt (x :: xs)) fun ds => of (mkT ds))) (nilM))
    (seqM (ifM (bd (bd (ld 1) fun x => bd (rt (.str "int")) fun y => of (eqD x y)) fun x => of (asB x)) (retM (bd (bd (rt (.str "int")) fun x => bd (bd (rt (.str "int_from")) fun x => bd (bd (bd (ld 0) fun x => bd (rt (.int 1)) fun y => of (ixD x y)) fun x => bd (bd (bd (ld 0) fun x => bd (rt (.int 1)) fun y => of (ixD x y)) fun x => bd (rt []) fun xs => rt (.v x :: xs)) fun xs => rt (.v x :: xs)) fun xs => rt (.v x :: xs)) fun xs => rt (.v x :: xs)) fun as => callM 4 (c .p_bounded_formula) as)) (nilM))
    (seqM (ifM (bd (bd (ld 1) fun x => bd (rt (.str "text")) fun y => of (eqD x y)) fun x => of (asB x)) (retM (bd (bd (rt (.str "text_is")) fun x => bd (bd (bd (ld 0) fun x => bd (rt (.int 1)) fun y => of (ixD x y)) fun x => bd (rt []) fun xs => rt (x :: xs)) fun xs => rt (x :: xs)) fun ds => of (mkT ds))) (nilM))
    (seqM (ifM (bd (bd (ld 1) fun x => bd (rt (.str "list")) fun y => of (eqD x y)) fun x => of (asB x)) (retM (bd (bd (lcM (bd (bd (ld 0) fun x => bd (rt (.int 1)) fun y => of (ixD x y)) fun d => of (seqOf d)) (setD 2) (rt true) (bd (bd (ld 2) fun x => bd (rt []) fun xs => rt (.v x :: xs)) fun as => callM 1 (c .p_equal_formula) as) [2]) fun x => bd (rt []) fun xs => rt (.v x :: xs)) fun as => callM 1 (c .p_items_formula) as)) (nilM))
    (seqM (bd (lcM (bd (bd (ld 0) fun x => bd (rt (.int 1)) fun y => of (ixD x y)) fun d => of (seqOf d)) (tupF 2 (unCons (setD 4) (unCons (setD 5) (unNil)))) (rt true) (bd (bd (ld 4) fun x => bd (bd (bd (bd (ld 5) fun x => bd (rt []) fun xs => rt (.v x :: xs)) fun as => callM 1 (c .p_equal_formula) as) fun x => bd (bd (rt (.bl true)) fun x => bd (rt []) fun xs => rt (x :: xs)) fun xs => rt (x :: xs)) fun xs => rt (x :: xs)) fun ds => of (mkT ds)) [4, 5]) fun d => nxt (setD 3 d))
    (retM (bd (bd (ld 3) fun x => bd (bd (bd (bd (rt (.str "false")) fun x => bd (rt []) fun xs => rt (x :: xs)) fun ds => of (mkT ds)) fun x => bd (rt []) fun xs => rt (.v x :: xs)) fun xs => rt (.v x :: xs)) fun as => callM 2 (c .p_fields_formula) as))))))))
def b_l_child (c : Fn → M D) (f : Fn → M (List D)) : M Fl :=
  seqM (ifM (andM (bd (bd (bd (ld 0) fun x => bd (rt (.int 0)) fun y => of (ixD x y)) fun x => bd (rt (.str "list")) fun y => of (eqD x y)) fun x => of (asB x)) (bd (bd (ld 1) fun x => of (isiD "int" x)) fun x => of (truD x))) (ifM (andM (bd (bd (rt (.int 0)) fun x => bd (ld 1) fun y => of (leD x y)) fun x => of (asB x)) (bd (bd (ld 1) fun x => bd (bd (bd (bd (ld 0) fun x => bd (rt (.int 1)) fun y => of (ixD x y)) fun x => bd (rt []) fun xs => rt (x :: xs)) fun xs => of (lenD xs)) fun y => of (ltD x y)) fun x => of (asB x))) (retM (bd (bd (ld 0) fun x => bd (rt (.int 1)) fun y => of (ixD x y)) fun x => bd (ld 1) fun y => of (ixD x y))) (nilM)) (nilM))
    (seqM (ifM (andM (bd (bd (bd (ld 0) fun x => bd (rt (.int 0)) fun y => of (ixD x y)) fun x => bd (rt (.str "object")) fun y => of (eqD x y)) fun x => of (asB x)) (bd (bd (ld 1) fun x => of (isiD "str" x)) fun x => of (truD x))) (bd (bd (bd (ld 0) fun x => bd (rt (.int 1)) fun y => of (ixD x y)) fun d => of (seqOf d)) fun ds => forM (setD 2) (ifM (bd (bd (bd (ld 2) fun x => bd (rt (.int 0)) fun y => of (ixD x y)) fun x => bd (ld 1) fun y => of (eqD x y)) fun x => of (asB x)) (retM (bd (ld 2) fun x => bd (rt (.int 1)) fun y => of (ixD x y))) (nilM)) ds) (nilM))
    (retM (rt .non)))
def b_l_lookup (c : Fn → M D) (f : Fn → M (List D)) : M Fl :=
  seqM (bd (bd (ld 1) fun d => of (seqOf d)) fun ds => forM (setD 2) (ifM (bd (bd (ld 0) fun x => bd (rt .non) fun y => of (isNotD x y)) fun x => of (asB x)) (bd (bd (bd (ld 0) fun x => bd (bd (ld 2) fun x => bd (rt []) fun xs => rt (.v x :: xs)) fun xs => rt (.v x :: xs)) fun as => callM 2 (c .l_child) as) fun d => nxt (setD 0 d)) (nilM)) ds)
    (retM (ld 0))
def b_l_with (c : Fn → M D) (f : Fn → M (List D)) : M Fl :=
  seqM (ifM (bd (bd (bd (ld 0) fun x => bd (rt (.int 0)) fun y => of (ixD x y)) fun x => bd (rt (.str "list")) fun y => of (eqD x y)) fun x => of (asB x)) (retM (bd (bd (rt (.str "list")) fun x => bd (bd (bd (bd (bd (bd (ld 0) fun x => bd (rt (.int 1)) fun y => of (ixD x y)) fun x => bd (rt none) fun l => bd (bd (ld 1) fun x => of (asI x)) fun h => of (slD x l h)) fun x => bd (bd (bd (ld 2) fun x => bd (rt []) fun xs => rt (x :: xs)) fun ds => of (mkT ds)) fun y => of (addD x y)) fun x => bd (bd (bd (ld 0) fun x => bd (rt (.int 1)) fun y => of (ixD x y)) fun x => bd (bd (bd (ld 1) fun x => bd (rt (.int 1)) fun y => of (addD x y)) fun x => of (asI x)) fun l => bd (rt none) fun h => of (slD x l h)) fun y => of (addD x y)) fun x => bd (rt []) fun xs => rt (x :: xs)) fun xs => rt (x :: xs)) fun ds => of (mkT ds))) (nilM))
    (seqM (bd (lcM (bd (bd (ld 0) fun x => bd (rt (.int 1)) fun y => of (ixD x y)) fun d => of (seqOf d)) (setD 4) (bd (bd (bd (ld 4) fun x => bd (rt (.int 0)) fun y => of (ixD x y)) fun x => bd (ld 1) fun y => of (ltD x y)) fun x => of (asB x)) (ld 4) [4]) fun d => nxt (setD 3 d))
    (seqM (bd (lcM (bd (bd (ld 0) fun x => bd (rt (.int 1)) fun y => of (ixD x y)) fun d => of (seqOf d)) (setD 4) (bd (bd (bd (ld 4) fun x => bd (rt (.int 0)) fun y => of (ixD x y)) fun x => bd (ld 1) fun y => of (gtD x y)) fun x => of (asB x)) (ld 4) [4]) fun d => nxt (setD 5 d))
    (retM (bd (bd (rt (.str "object")) fun x => bd (bd (bd (bd (bd (bd (ld 3) fun x => bd (rt []) fun xs => rt (x :: xs)) fun xs => of (tupleD xs)) fun x => bd (bd (bd (bd (bd (ld 1) fun x => bd (bd (ld 2) fun x => bd (rt []) fun xs => rt (x :: xs)) fun xs => rt (x :: xs)) fun ds => of (mkT ds)) fun x => bd (rt []) fun xs => rt (x :: xs)) fun ds => of (mkT ds)) fun y => of (addD x y)) fun x => bd (bd (bd (ld 5) fun x => bd (rt []) fun xs => rt (x :: xs)) fun xs => of (tupleD xs)) fun y => of (addD x y)) fun x => bd (rt []) fun xs => rt (x :: xs)) fun xs => rt (x :: xs)) fun ds => of (mkT ds)))))
def b_l_replace (c : Fn → M D) (f : Fn → M (List D)) : M Fl :=
  seqM (ifM (bd (bd (bd (bd (ld 1) fun x => bd (rt []) fun xs => rt (x :: xs)) fun xs => of (lenD xs)) fun x => bd (rt (.int 0)) fun y => of (eqD x y)) fun x => of (asB x)) (retM (ld 2)) (nilM))
    (seqM (bd (bd (bd (ld 0) fun x => bd (bd (bd (ld 1) fun x => bd (rt (.int 0)) fun y => of (ixD x y)) fun x => bd (rt []) fun xs => rt (.v x :: xs)) fun xs => rt (.v x :: xs)) fun as => callM 2 (c .l_child) as) fun d => nxt (setD 3 d))
    (seqM (ifM (bd (bd (ld 3) fun x => bd (rt .non) fun y => of (isD x y)) fun x => of (asB x)) (retM (rt .non)) (nilM))
    (seqM (bd (bd (bd (ld 3) fun x => bd (bd (bd (ld 1) fun x => bd (bd (rt (.int 1)) fun x => of (asI x)) fun l => bd (rt none) fun h => of (slD x l h)) fun x => bd (bd (ld 2) fun x => bd (rt []) fun xs => rt (.v x :: xs)) fun xs => rt (.v x :: xs)) fun xs => rt (.v x :: xs)) fun as => callM 3 (c .l_replace) as) fun d => nxt (setD 4 d))
    (seqM (ifM (bd (bd (ld 4) fun x => bd (rt .non) fun y => of (isD x y)) fun x => of (asB x)) (retM (rt .non)) (nilM))
    (retM (bd (bd (ld 0) fun x => bd (bd (bd (ld 1) fun x => bd (rt (.int 0)) fun y => of (ixD x y)) fun x => bd (bd (ld 4) fun x => bd (rt []) fun xs => rt (.v x :: xs)) fun xs => rt (.v x :: xs)) fun xs => rt (.v x :: xs)) fun as => callM 3 (c .l_with) as))))))
def b_l_put (c : Fn → M D) (f : Fn → M (List D)) : M Fl :=
  seqM (ifM (bd (bd (bd (bd (ld 1) fun x => bd (rt []) fun xs => rt (x :: xs)) fun xs => of (lenD xs)) fun x => bd (rt (.int 0)) fun y => of (eqD x y)) fun x => of (asB x)) (retM (ld 2)) (nilM))
    (seqM (bd (bd (bd (ld 0) fun x => bd (bd (bd (ld 1) fun x => bd (rt none) fun l => bd (bd (bd (rt (.int 1)) fun x => of (negD x)) fun x => of (asI x)) fun h => of (slD x l h)) fun x => bd (rt []) fun xs => rt (.v x :: xs)) fun xs => rt (.v x :: xs)) fun as => callM 2 (c .l_lookup) as) fun d => nxt (setD 3 d))
    (seqM (ifM (bd (bd (ld 3) fun x => bd (rt .non) fun y => of (isD x y)) fun x => of (asB x)) (retM (rt .non)) (nilM))
    (seqM (bd (bd (ld 1) fun x => bd (bd (rt (.int 1)) fun x => of (negD x)) fun y => of (ixD x y)) fun d => nxt (setD 4 d))
    (seqM (bd (rt .non) fun d => nxt (setD 5 d))
    (seqM (ifM (andM (bd (bd (bd (ld 3) fun x => bd (rt (.int 0)) fun y => of (ixD x y)) fun x => bd (rt (.str "object")) fun y => of (eqD x y)) fun x => of (asB x)) (bd (bd (ld 4) fun x => of (isiD "str" x)) fun x => of (truD x))) (bd (bd (bd (ld 3) fun x => bd (bd (ld 4) fun x => bd (bd (ld 2) fun x => bd (rt []) fun xs => rt (.v x :: xs)) fun xs => rt (.v x :: xs)) fun xs => rt (.v x :: xs)) fun as => callM 3 (c .l_with) as) fun d => nxt (setD 5 d)) (nilM))
    (seqM (ifM (andM (bd (bd (bd (ld 3) fun x => bd (rt (.int 0)) fun y => of (ixD x y)) fun x => bd (rt (.str "list")) fun y => of (eqD x y)) fun x => of (asB x)) (andM (bd (bd (ld 4) fun x => of (isiD "int" x)) fun x => of (truD x)) (bd (bd (ld 4) fun x => bd (bd (bd (bd (ld 3) fun x => bd (rt (.int 1)) fun y => of (ixD x y)) fun x => bd (rt []) fun xs => rt (x :: xs)) fun xs => of (lenD xs)) fun y => of (leD x y)) fun x => of (asB x)))) (seqM (bd (ld 4) fun d => nxt (setD 6 d))
    (seqM (ifM (bd (bd (ld 4) fun x => bd (bd (rt (.int 1)) fun x => of (negD x)) fun y => of (eqD x y)) fun x => of (asB x)) (bd (bd (bd (bd (ld 3) fun x => bd (rt (.int 1)) fun y => of (ixD x y)) fun x => bd (rt []) fun xs => rt (x :: xs)) fun xs => of (lenD xs)) fun d => nxt (setD 6 d)) (nilM))
    (bd (bd (bd (rt (.str "list")) fun x => bd (bd (bd (bd (bd (bd (ld 3) fun x => bd (rt (.int 1)) fun y => of (ixD x y)) fun x => bd (rt none) fun l => bd (bd (ld 6) fun x => of (asI x)) fun h => of (slD x l h)) fun x => bd (bd (bd (ld 2) fun x => bd (rt []) fun xs => rt (x :: xs)) fun ds => of (mkT ds)) fun y => of (addD x y)) fun x => bd (bd (bd (ld 3) fun x => bd (rt (.int 1)) fun y => of (ixD x y)) fun x => bd (bd (ld 6) fun x => of (asI x)) fun l => bd (rt none) fun h => of (slD x l h)) fun y => of (addD x y)) fun x => bd (rt []) fun xs => rt (x :: xs)) fun xs => rt (x :: xs)) fun ds => of (mkT ds)) fun d => nxt (setD 5 d)))) (nilM))
    (seqM (ifM (bd (bd (ld 5) fun x => bd (rt .non) fun y => of (isD x y)) fun x => of (asB x)) (retM (rt .non)) (nilM))
    (retM (bd (bd (ld 0) fun x => bd (bd (bd (ld 1) fun x => bd (rt none) fun l => bd (bd (bd (rt (.int 1)) fun x => of (negD x)) fun x => of (asI x)) fun h => of (slD x l h)) fun x => bd (bd (ld 5) fun x => bd (rt []) fun xs => rt (.v x :: xs)) fun xs => rt (.v x :: xs)) fun xs => rt (.v x :: xs)) fun as => callM 3 (c .l_replace) as)))))))))
def b_l_take (c : Fn → M D) (f : Fn → M (List D)) : M Fl :=
  seqM (ifM (orM (bd (bd (bd (bd (ld 1) fun x => bd (rt []) fun xs => rt (x :: xs)) fun xs => of (lenD xs)) fun x => bd (rt (.int 0)) fun y => of (eqD x y)) fun x => of (asB x)) (bd (bd (bd (bd (ld 0) fun x => bd (bd (ld 1) fun x => bd (rt []) fun xs => rt (.v x :: xs)) fun xs => rt (.v x :: xs)) fun as => callM 2 (c .l_lookup) as) fun x => bd (rt .non) fun y => of (isD x y)) fun x => of (asB x))) (retM (rt .non)) (nilM))
    (seqM (bd (bd (bd (ld 0) fun x => bd (bd (bd (ld 1) fun x => bd (rt none) fun l => bd (bd (bd (rt (.int 1)) fun x => of (negD x)) fun x => of (asI x)) fun h => of (slD x l h)) fun x => bd (rt []) fun xs => rt (.v x :: xs)) fun xs => rt (.v x :: xs)) fun as => callM 2 (c .l_lookup) as) fun d => nxt (setD 2 d))
    (seqM (bd (bd (ld 1) fun x => bd (bd (rt (.int 1)) fun x => of (negD x)) fun y => of (ixD x y)) fun d => nxt (setD 3 d))
    (seqM (ifM (bd (bd (bd (ld 2) fun x => bd (rt (.int 0)) fun y => of (ixD x y)) fun x => bd (rt (.str "list")) fun y => of (eqD x y)) fun x => of (asB x)) (bd (bd (bd (rt (.str "list")) fun x => bd (bd (bd (bd (bd (ld 2) fun x => bd (rt (.int 1)) fun y => of (ixD x y)) fun x => bd (rt none) fun l => bd (bd (ld 3) fun x => of (asI x)) fun h => of (slD x l h)) fun x => bd (bd (bd (ld 2) fun x => bd (rt (.int 1)) fun y => of (ixD x y)) fun x => bd (bd (bd (ld 3) fun x => bd (rt (.int 1)) fun y => of (addD x y)) fun x => of (asI x)) fun l => bd (rt none) fun h => of (slD x l h)) fun y => of (addD x y)) fun x => bd (rt []) fun xs => rt (x :: xs)) fun xs => rt (x :: xs)) fun ds => of (mkT ds)) fun d => nxt (setD 4 d)) (bd (bd (bd (rt (.str "object")) fun x => bd (bd (bd (bd (lcM (bd (bd (ld 2) fun x => bd (rt (.int 1)) fun y => of (ixD x y)) fun d => of (seqOf d)) (setD 5) (bd (bd (bd (ld 5) fun x => bd (rt (.int 0)) fun y => of (ixD x y)) fun x => bd (ld 3) fun y => of (neD x y)) fun x => of (asB x)) (ld 5) [5]) fun x => bd (rt []) fun xs => rt (x :: xs)) fun xs => of (tupleD xs)) fun x => bd (rt []) fun xs => rt (x :: xs)) fun xs => rt (x :: xs)) fun ds => of (mkT ds)) fun d => nxt (setD 4 d)))
    (retM (bd (bd (ld 0) fun x => bd (bd (bd (ld 1) fun x => bd (rt none) fun l => bd (bd (bd (rt (.int 1)) fun x => of (negD x)) fun x => of (asI x)) fun h => of (slD x l h)) fun x => bd (bd (ld 4) fun x => bd (rt []) fun xs => rt (.v x :: xs)) fun xs => rt (.v x :: xs)) fun xs => rt (.v x :: xs)) fun as => callM 3 (c .l_replace) as)))))
def b_l_holds (c : Fn → M D) (f : Fn → M (List D)) : M Fl :=
  seqM (bd (bd (ld 0) fun x => bd (rt (.int 0)) fun y => of (ixD x y)) fun d => nxt (setD 3 d))
    (seqM (ifM (orM (bd (bd (ld 3) fun x => bd (rt (.str "true")) fun y => of (eqD x y)) fun x => of (asB x)) (bd (bd (ld 3) fun x => bd (rt (.str "false")) fun y => of (eqD x y)) fun x => of (asB x))) (retM (bd (ld 3) fun x => bd (rt (.str "true")) fun y => of (eqD x y))) (nilM))
    (seqM (ifM (bd (bd (ld 3) fun x => bd (rt (.str "not")) fun y => of (eqD x y)) fun x => of (asB x)) (retM (bd (bd (bd (bd (ld 0) fun x => bd (rt (.int 1)) fun y => of (ixD x y)) fun x => bd (bd (ld 1) fun x => bd (bd (ld 2) fun x => bd (rt []) fun xs => rt (.v x :: xs)) fun xs => rt (.v x :: xs)) fun xs => rt (.v x :: xs)) fun as => callM 3 (c .l_holds) as) fun x => bd (of (asB x)) fun k => rt (.bl (!k)))) (nilM))
    (seqM (ifM (bd (bd (ld 3) fun x => bd (rt (.str "and")) fun y => of (eqD x y)) fun x => of (asB x)) (retM (bd (bd (lcM (bd (bd (ld 0) fun x => bd (rt (.int 1)) fun y => of (ixD x y)) fun d => of (seqOf d)) (setD 4) (rt true) (bd (bd (ld 4) fun x => bd (bd (ld 1) fun x => bd (bd (ld 2) fun x => bd (rt []) fun xs => rt (.v x :: xs)) fun xs => rt (.v x :: xs)) fun xs => rt (.v x :: xs)) fun as => callM 3 (c .l_holds) as) [4]) fun x => bd (rt []) fun xs => rt (x :: xs)) fun xs => of (allD xs))) (nilM))
    (seqM (ifM (bd (bd (ld 3) fun x => bd (rt (.str "or")) fun y => of (eqD x y)) fun x => of (asB x)) (retM (bd (bd (lcM (bd (bd (ld 0) fun x => bd (rt (.int 1)) fun y => of (ixD x y)) fun d => of (seqOf d)) (setD 4) (rt true) (bd (bd (ld 4) fun x => bd (bd (ld 1) fun x => bd (bd (ld 2) fun x => bd (rt []) fun xs => rt (.v x :: xs)) fun xs => rt (.v x :: xs)) fun xs => rt (.v x :: xs)) fun as => callM 3 (c .l_holds) as) [4]) fun x => bd (rt []) fun xs => rt (x :: xs)) fun xs => of (anyD xs))) (nilM))
    (seqM (ifM (bd (bd (ld 3) fun x => bd (rt (.str "held")) fun y => of (eqD x y)) fun x => of (asB x)) (retM (bd (bd (bd (ld 0) fun x => bd (rt (.int 1)) fun y => of (ixD x y)) fun x => bd (bd (ld 2) fun x => bd (bd (rt .non) fun x => bd (rt []) fun xs => rt (.v x :: xs)) fun xs => rt (.v x :: xs)) fun xs => rt (.v x :: xs)) fun as => callM 3 (c .l_holds) as)) (nilM))
    (seqM (ifM (bd (bd (ld 3) fun x => bd (rt (.str "at")) fun y => of (eqD x y)) fun x => of (asB x)) (seqM (bd (bd (bd (ld 1) fun x => bd (bd (bd (ld 0) fun x => bd (rt (.int 1)) fun y => of (ixD x y)) fun x => bd (rt []) fun xs => rt (.v x :: xs)) fun xs => rt (.v x :: xs)) fun as => callM 2 (c .l_lookup) as) fun d => nxt (setD 5 d))
    (retM (andV (bd (ld 5) fun x => bd (rt .non) fun y => of (isNotD x y)) (bd (bd (bd (ld 0) fun x => bd (rt (.int 2)) fun y => of (ixD x y)) fun x => bd (bd (ld 5) fun x => bd (bd (rt .non) fun x => bd (rt []) fun xs => rt (.v x :: xs)) fun xs => rt (.v x :: xs)) fun xs => rt (.v x :: xs)) fun as => callM 3 (c .l_holds) as)))) (nilM))
    (seqM (ifM (bd (bd (ld 3) fun x => bd (rt (.str "kind")) fun y => of (eqD x y)) fun x => of (asB x)) (retM (bd (bd (ld 1) fun x => bd (rt (.int 0)) fun y => of (ixD x y)) fun x => bd (bd (ld 0) fun x => bd (rt (.int 1)) fun y => of (ixD x y)) fun y => of (eqD x y))) (nilM))
    (seqM (ifM (bd (bd (ld 3) fun x => bd (rt (.str "int_from")) fun y => of (eqD x y)) fun x => of (asB x)) (retM (andV (bd (bd (ld 1) fun x => bd (rt (.int 0)) fun y => of (ixD x y)) fun x => bd (rt (.str "int")) fun y => of (eqD x y)) (bd (bd (ld 1) fun x => bd (rt (.int 1)) fun y => of (ixD x y)) fun x => bd (bd (ld 0) fun x => bd (rt (.int 1)) fun y => of (ixD x y)) fun y => of (geD x y)))) (nilM))
    (seqM (ifM (orM (bd (bd (ld 3) fun x => bd (rt (.str "bool_is")) fun y => of (eqD x y)) fun x => of (asB x)) (bd (bd (ld 3) fun x => bd (rt (.str "text_is")) fun y => of (eqD x y)) fun x => of (asB x))) (retM (bd (ld 1) fun x => bd (bd (bd (bd (ld 3) fun x => bd (rt none) fun l => bd (bd (rt (.int 4)) fun x => of (asI x)) fun h => of (slD x l h)) fun x => bd (bd (bd (ld 0) fun x => bd (rt (.int 1)) fun y => of (ixD x y)) fun x => bd (rt []) fun xs => rt (x :: xs)) fun xs => rt (x :: xs)) fun ds => of (mkT ds)) fun y => of (eqD x y))) (nilM))
    (seqM (ifM (bd (bd (ld 3) fun x => bd (rt (.str "text_from")) fun y => of (eqD x y)) fun x => of (asB x)) (retM (andV (bd (bd (ld 1) fun x => bd (rt (.int 0)) fun y => of (ixD x y)) fun x => bd (rt (.str "text")) fun y => of (eqD x y)) (bd (bd (bd (bd (ld 1) fun x => bd (rt (.int 1)) fun y => of (ixD x y)) fun x => bd (rt []) fun xs => rt (x :: xs)) fun xs => of (lenD xs)) fun x => bd (bd (ld 0) fun x => bd (rt (.int 1)) fun y => of (ixD x y)) fun y => of (geD x y)))) (nilM))
    (seqM (ifM (bd (bd (ld 3) fun x => bd (rt (.str "items_from")) fun y => of (eqD x y)) fun x => of (asB x)) (retM (andV (bd (bd (ld 1) fun x => bd (rt (.int 0)) fun y => of (ixD x y)) fun x => bd (rt (.str "list")) fun y => of (eqD x y)) (bd (bd (bd (bd (ld 1) fun x => bd (rt (.int 1)) fun y => of (ixD x y)) fun x => bd (rt []) fun xs => rt (x :: xs)) fun xs => of (lenD xs)) fun x => bd (bd (ld 0) fun x => bd (rt (.int 1)) fun y => of (ixD x y)) fun y => of (geD x y)))) (nilM))
    (seqM (ifM (bd (bd (ld 3) fun x => bd (rt (.str "each_item")) fun y => of (eqD x y)) fun x => of (asB x)) (seqM (ifM (bd (bd (bd (ld 1) fun x => bd (rt (.int 0)) fun y => of (ixD x y)) fun x => bd (rt (.str "list")) fun y => of (neD x y)) fun x => of (asB x)) (retM (rt (.bl false))) (nilM))
    (retM (bd (bd (lcM (bd (bd (bd (ld 1) fun x => bd (rt (.int 1)) fun y => of (ixD x y)) fun x => bd (bd (bd (ld 0) fun x => bd (rt (.int 1)) fun y => of (ixD x y)) fun x => of (asI x)) fun l => bd (rt none) fun h => of (slD x l h)) fun d => of (seqOf d)) (setD 6) (rt true) (bd (bd (bd (ld 0) fun x => bd (rt (.int 2)) fun y => of (ixD x y)) fun x => bd (bd (ld 6) fun x => bd (bd (rt .non) fun x => bd (rt []) fun xs => rt (.v x :: xs)) fun xs => rt (.v x :: xs)) fun xs => rt (.v x :: xs)) fun as => callM 3 (c .l_holds) as) [6]) fun x => bd (rt []) fun xs => rt (x :: xs)) fun xs => of (allD xs)))) (nilM))
    (seqM (ifM (bd (bd (bd (ld 1) fun x => bd (rt (.int 0)) fun y => of (ixD x y)) fun x => bd (rt (.str "object")) fun y => of (neD x y)) fun x => of (asB x)) (retM (rt (.bl false))) (nilM))
    (retM (bd (bd (lcM (bd (bd (ld 1) fun x => bd (rt (.int 1)) fun y => of (ixD x y)) fun d => of (seqOf d)) (setD 7) (bd (bd (bd (ld 7) fun x => bd (rt (.int 0)) fun y => of (ixD x y)) fun x => bd (bd (ld 0) fun x => bd (rt (.int 1)) fun y => of (ixD x y)) fun y => of (notInD2 x y)) fun x => of (asB x)) (bd (bd (bd (ld 0) fun x => bd (rt (.int 2)) fun y => of (ixD x y)) fun x => bd (bd (bd (ld 7) fun x => bd (rt (.int 1)) fun y => of (ixD x y)) fun x => bd (bd (rt .non) fun x => bd (rt []) fun xs => rt (.v x :: xs)) fun xs => rt (.v x :: xs)) fun xs => rt (.v x :: xs)) fun as => callM 3 (c .l_holds) as) [7]) fun x => bd (rt []) fun xs => rt (x :: xs)) fun xs => of (allD xs))))))))))))))))
def b_l_is_integer (c : Fn → M D) (f : Fn → M (List D)) : M Fl :=
  retM (andV (bd (ld 0) fun x => of (isiD "int" x)) (bd (bd (ld 0) fun x => of (isiD "bool" x)) fun x => bd (of (asB x)) fun k => rt (.bl (!k))))
def b_l_is_string (c : Fn → M D) (f : Fn → M (List D)) : M Fl :=
  seqM (ifM (bd (bd (bd (ld 0) fun x => of (isiD "str" x)) fun x => of (truD x)) fun x => rt (!x)) (retM (rt (.bl false))) (nilM))
    (retM (bd (bd (lcM (bd (ld 0) fun d => of (seqOf d)) (setD 1) (rt true) (andV (bd (rt (.str " ")) fun x => bd (ld 1) fun y => of (leD x y)) (andV (bd (ld 1) fun x => bd (rt (.str "~")) fun y => of (leD x y)) (bd (bd (bd (ld 1) fun x => bd (rt []) fun xs => rt (x :: xs)) fun xs => of (ordC xs)) fun x => bd (rt (.int 37)) fun y => of (neD x y)))) [1]) fun x => bd (rt []) fun xs => rt (x :: xs)) fun xs => of (allD xs)))
def b_l_is_token (c : Fn → M D) (f : Fn → M (List D)) : M Fl :=
  retM (orV (bd (bd (ld 0) fun x => bd (rt []) fun xs => rt (.v x :: xs)) fun as => callM 1 (c .l_is_string) as) (andV (bd (bd (ld 0) fun x => bd (rt []) fun xs => rt (.v x :: xs)) fun as => callM 1 (c .l_is_integer) as) (bd (ld 0) fun x => bd (rt (.int 0)) fun y => of (geD x y))))
def b_l_formula_parts (c : Fn → M D) (f : Fn → M (List D)) : M Fl :=
  seqM (bd (bd (ld 0) fun x => bd (rt (.int 0)) fun y => of (ixD x y)) fun d => nxt (setD 2 d))
    (seqM (bd (bd (ld 0) fun x => bd (bd (rt (.int 1)) fun x => of (negD x)) fun y => of (ixD x y)) fun d => nxt (setD 3 d))
    (seqM (ifM (bd (bd (bd (bd (ld 0) fun x => bd (rt []) fun xs => rt (x :: xs)) fun xs => of (lenD xs)) fun x => bd (rt (.int 1)) fun y => of (eqD x y)) fun x => of (asB x)) (retM (bd (bd (bd (rt .non) fun x => bd (bd (bd (rt []) fun ds => of (mkL ds)) fun x => bd (rt []) fun xs => rt (x :: xs)) fun xs => rt (x :: xs)) fun ds => of (mkL ds)) fun x => bd (bd (bd (orV (bd (ld 2) fun x => bd (rt (.str "true")) fun y => of (eqD x y)) (bd (ld 2) fun x => bd (rt (.str "false")) fun y => of (eqD x y))) fun x => bd (rt []) fun xs => rt (x :: xs)) fun xs => of (intD xs)) fun y => of (ixD x y))) (nilM))
    (seqM (ifM (andM (bd (bd (bd (bd (ld 0) fun x => bd (rt []) fun xs => rt (x :: xs)) fun xs => of (lenD xs)) fun x => bd (rt (.int 2)) fun y => of (eqD x y)) fun x => of (asB x)) (orM (bd (bd (ld 2) fun x => bd (rt (.str "not")) fun y => of (eqD x y)) fun x => of (asB x)) (andM (bd (bd (ld 2) fun x => bd (rt (.str "held")) fun y => of (eqD x y)) fun x => of (asB x)) (bd (bd (ld 1) fun x => of (truD x)) fun x => rt (!x))))) (retM (bd (bd (bd (bd (ld 3) fun x => bd (bd (orV (ld 1) (bd (ld 2) fun x => bd (rt (.str "held")) fun y => of (eqD x y))) fun x => bd (rt []) fun xs => rt (x :: xs)) fun xs => rt (x :: xs)) fun ds => of (mkT ds)) fun x => bd (rt []) fun xs => rt (x :: xs)) fun ds => of (mkL ds))) (nilM))
    (seqM (ifM (andM (bd (bd (bd (bd (ld 0) fun x => bd (rt []) fun xs => rt (x :: xs)) fun xs => of (lenD xs)) fun x => bd (rt (.int 2)) fun y => of (eqD x y)) fun x => of (asB x)) (andM (orM (bd (bd (ld 2) fun x => bd (rt (.str "and")) fun y => of (eqD x y)) fun x => of (asB x)) (bd (bd (ld 2) fun x => bd (rt (.str "or")) fun y => of (eqD x y)) fun x => of (asB x))) (bd (bd (ld 3) fun x => of (isiD "tuple" x)) fun x => of (truD x)))) (retM (lcM (bd (ld 3) fun d => of (seqOf d)) (setD 4) (rt true) (bd (bd (ld 4) fun x => bd (bd (ld 1) fun x => bd (rt []) fun xs => rt (x :: xs)) fun xs => rt (x :: xs)) fun ds => of (mkT ds)) [4])) (nilM))
    (seqM (ifM (bd (bd (bd (bd (ld 0) fun x => bd (rt []) fun xs => rt (x :: xs)) fun xs => of (lenD xs)) fun x => bd (rt (.int 2)) fun y => of (eqD x y)) fun x => of (asB x)) (seqM (bd (andV (bd (ld 2) fun x => bd (rt (.str "kind")) fun y => of (eqD x y)) (bd (ld 3) fun x => bd (bd (bd (rt (.str "null")) fun x => bd (bd (rt (.str "bool")) fun x => bd (bd (rt (.str "int")) fun x => bd (bd (rt (.str "text")) fun x => bd (bd (rt (.str "list")) fun x => bd (bd (rt (.str "object")) fun x => bd (rt []) fun xs => rt (x :: xs)) fun xs => rt (x :: xs)) fun xs => rt (x :: xs)) fun xs => rt (x :: xs)) fun xs => rt (x :: xs)) fun xs => rt (x :: xs)) fun ds => of (mkL ds)) fun y => of (inD2 x y))) fun d => nxt (setD 5 d))
    (seqM (bd (orV (ld 5) (orV (andV (bd (ld 2) fun x => bd (rt (.str "bool_is")) fun y => of (eqD x y)) (bd (ld 3) fun x => of (isiD "bool" x))) (andV (bd (ld 2) fun x => bd (rt (.str "text_is")) fun y => of (eqD x y)) (bd (bd (ld 3) fun x => bd (rt []) fun xs => rt (.v x :: xs)) fun as => callM 1 (c .l_is_string) as)))) fun d => nxt (setD 5 d))
    (seqM (bd (orV (ld 5) (andV (bd (ld 2) fun x => bd (rt (.str "int_from")) fun y => of (eqD x y)) (bd (bd (ld 3) fun x => bd (rt []) fun xs => rt (.v x :: xs)) fun as => callM 1 (c .l_is_integer) as))) fun d => nxt (setD 5 d))
    (seqM (bd (orV (ld 5) (andV (bd (ld 2) fun x => bd (bd (bd (rt (.str "text_from")) fun x => bd (bd (rt (.str "items_from")) fun x => bd (rt []) fun xs => rt (x :: xs)) fun xs => rt (x :: xs)) fun ds => of (mkL ds)) fun y => of (inD2 x y)) (andV (bd (bd (ld 3) fun x => bd (rt []) fun xs => rt (.v x :: xs)) fun as => callM 1 (c .l_is_integer) as) (bd (ld 3) fun x => bd (rt (.int 0)) fun y => of (geD x y))))) fun d => nxt (setD 5 d))
    (retM (bd (bd (bd (rt .non) fun x => bd (bd (bd (rt []) fun ds => of (mkL ds)) fun x => bd (rt []) fun xs => rt (x :: xs)) fun xs => rt (x :: xs)) fun ds => of (mkL ds)) fun x => bd (bd (bd (ld 5) fun x => bd (rt []) fun xs => rt (x :: xs)) fun xs => of (intD xs)) fun y => of (ixD x y))))))) (nilM))
    (seqM (bd (andV (bd (ld 2) fun x => bd (rt (.str "each_item")) fun y => of (eqD x y)) (andV (bd (bd (bd (ld 0) fun x => bd (rt (.int 1)) fun y => of (ixD x y)) fun x => bd (rt []) fun xs => rt (.v x :: xs)) fun as => callM 1 (c .l_is_integer) as) (bd (bd (ld 0) fun x => bd (rt (.int 1)) fun y => of (ixD x y)) fun x => bd (rt (.int 0)) fun y => of (geD x y)))) fun d => nxt (setD 5 d))
    (seqM (ifM (andM (orM (bd (bd (ld 2) fun x => bd (rt (.str "at")) fun y => of (eqD x y)) fun x => of (asB x)) (bd (bd (ld 2) fun x => bd (rt (.str "each_field")) fun y => of (eqD x y)) fun x => of (asB x))) (bd (bd (bd (ld 0) fun x => bd (rt (.int 1)) fun y => of (ixD x y)) fun x => of (isiD "tuple" x)) fun x => of (truD x))) (bd (bd (bd (lcM (bd (bd (ld 0) fun x => bd (rt (.int 1)) fun y => of (ixD x y)) fun d => of (seqOf d)) (setD 4) (rt true) (andV (bd (bd (ld 4) fun x => bd (rt []) fun xs => rt (.v x :: xs)) fun as => callM 1 (c .l_is_token) as) (orV (bd (ld 2) fun x => bd (rt (.str "at")) fun y => of (eqD x y)) (bd (ld 4) fun x => of (isiD "str" x)))) [4]) fun x => bd (rt []) fun xs => rt (x :: xs)) fun xs => of (allD xs)) fun d => nxt (setD 5 d)) (nilM))
    (retM (bd (bd (bd (rt .non) fun x => bd (bd (bd (bd (bd (bd (ld 3) fun x => bd (bd (rt (.bl true)) fun x => bd (rt []) fun xs => rt (x :: xs)) fun xs => rt (x :: xs)) fun ds => of (mkT ds)) fun x => bd (rt []) fun xs => rt (x :: xs)) fun ds => of (mkL ds)) fun x => bd (rt []) fun xs => rt (x :: xs)) fun xs => rt (x :: xs)) fun ds => of (mkL ds)) fun x => bd (bd (bd (ld 5) fun x => bd (rt []) fun xs => rt (x :: xs)) fun xs => of (intD xs)) fun y => of (ixD x y))))))))))
def b_l_is_formula (c : Fn → M D) (f : Fn → M (List D)) : M Fl :=
  seqM (bd (bd (bd (bd (bd (ld 0) fun x => bd (bd (ld 1) fun x => bd (rt []) fun xs => rt (x :: xs)) fun xs => rt (x :: xs)) fun ds => of (mkT ds)) fun x => bd (rt []) fun xs => rt (x :: xs)) fun ds => of (mkL ds)) fun d => nxt (setD 3 d))
    (seqM (bd (bd (bd (ld 2) fun x => bd (rt []) fun xs => rt (x :: xs)) fun ds => of (rng1 ds)) fun ds => forM (setD 4) (seqM (bd (rt []) fun ds => if ds.length ≤ sizeLine then nxt (setO 5 ds) else fun _ => none)
    (seqM (bd (bd (ld 3) fun d => of (seqOf d)) fun ds => forM (setD 6) (seqM (ifM (orM (bd (bd (bd (bd (ld 6) fun x => bd (rt (.int 0)) fun y => of (ixD x y)) fun x => of (isiD "tuple" x)) fun x => of (truD x)) fun x => rt (!x)) (bd (bd (bd (bd (bd (ld 6) fun x => bd (rt (.int 0)) fun y => of (ixD x y)) fun x => bd (rt []) fun xs => rt (x :: xs)) fun xs => of (lenD xs)) fun x => bd (bd (bd (rt (.int 1)) fun x => bd (bd (rt (.int 2)) fun x => bd (bd (rt (.int 3)) fun x => bd (rt []) fun xs => rt (x :: xs)) fun xs => rt (x :: xs)) fun xs => rt (x :: xs)) fun ds => of (mkL ds)) fun y => of (notInD2 x y)) fun x => of (asB x))) (retM (rt (.bl false))) (nilM))
    (seqM (bd (bd (bd (bd (ld 6) fun x => bd (rt (.int 0)) fun y => of (ixD x y)) fun x => bd (bd (bd (ld 6) fun x => bd (rt (.int 1)) fun y => of (ixD x y)) fun x => bd (rt []) fun xs => rt (.v x :: xs)) fun xs => rt (.v x :: xs)) fun as => callM 2 (c .l_formula_parts) as) fun d => nxt (setD 7 d))
    (seqM (ifM (bd (bd (ld 7) fun x => bd (rt .non) fun y => of (isD x y)) fun x => of (asB x)) (retM (rt (.bl false))) (nilM))
    (bd (own 5) fun _ => bd (ld 7) fun d => nxt (extM 5 d))))) ds)
    (bd (ldF 5) fun d => nxt (setD 3 d)))) ds)
    (retM (bd (bd (bd (ld 3) fun x => bd (rt []) fun xs => rt (x :: xs)) fun xs => of (lenD xs)) fun x => bd (rt (.int 0)) fun y => of (eqD x y))))
def b_l_cell (c : Fn → M D) (f : Fn → M (List D)) : M Fl :=
  seqM (ifM (bd (bd (ld 1) fun x => bd (bd (bd (ld 0) fun x => bd (rt []) fun xs => rt (x :: xs)) fun xs => of (lenD xs)) fun y => of (ltD x y)) fun x => of (asB x)) (retM (bd (ld 0) fun x => bd (ld 1) fun y => of (ixD x y))) (nilM))
    (retM (rt (.int 0)))
def b_l_source (c : Fn → M D) (f : Fn → M (List D)) : M Fl :=
  bd (bd (ld 0) fun x => bd (bd (bd (bd (bd (ld 0) fun x => bd (bd (rt (.int 10)) fun x => bd (rt (.int 18)) fun y => of (powD x y)) fun y => of (geD x y)) fun x => bd (rt []) fun xs => rt (x :: xs)) fun xs => of (intD xs)) fun x => bd (bd (rt (.int 0)) fun x => bd (rt []) fun xs => rt (x :: xs)) fun xs => rt (x :: xs)) fun xs => rt (x :: xs)) fun ds r => if ds.length ≤ sizeLine then some (.rf ds, r) else none
def b_l_draw (c : Fn → M D) (f : Fn → M (List D)) : M Fl :=
  seqM (ifM (bd (bd (bd (own 0) fun _ => bd (rt (.int 1)) fun y => bd (own 0) fun ds => of (ixD (.lst ds) y)) fun x => bd (rt (.int 1)) fun y => of (eqD x y)) fun x => of (asB x)) (seqM (bd (bd (bd (bd (bd (own 0) fun _ => bd (rt (.int 0)) fun y => bd (own 0) fun ds => of (ixD (.lst ds) y)) fun x => bd (rt []) fun xs => rt (x :: xs)) fun xs => of (intD xs)) fun x => bd (ld 1) fun y => of (modD x y)) fun d => nxt (setD 2 d))
    (seqM (bd (bd (bd (own 0) fun _ => bd (rt (.int 0)) fun y => bd (own 0) fun ds => of (ixD (.lst ds) y)) fun x => bd (ld 1) fun y => of (fdivD x y)) fun d => bd (own 0) fun _ => bd (rt (.int 0)) fun k => nxt (stM 0 k d))
    (retM (ld 2)))) (nilM))
    (seqM (bd (bd (bd (own 0) fun _ => bd (rt (.int 2)) fun y => bd (own 0) fun ds => of (ixD (.lst ds) y)) fun x => bd (rt (.int 1)) fun y => of (addD x y)) fun d => bd (own 0) fun _ => bd (rt (.int 2)) fun k => nxt (stM 0 k d))
    (seqM (bd (bd (bd (bd (bd (bd (bd (own 0) fun _ => bd (rt (.int 0)) fun y => bd (own 0) fun ds => of (ixD (.lst ds) y)) fun x => bd (rt (.int 48271)) fun y => of (mulD x y)) fun x => bd (bd (bd (own 0) fun _ => bd (rt (.int 2)) fun y => bd (own 0) fun ds => of (ixD (.lst ds) y)) fun x => bd (rt (.int 69621)) fun y => of (mulD x y)) fun y => of (addD x y)) fun x => bd (rt []) fun xs => rt (x :: xs)) fun xs => of (intD xs)) fun x => bd (rt (.int 2147483647)) fun y => of (modD x y)) fun d => nxt (setD 3 d))
    (seqM (bd (bd (bd (bd (bd (bd (bd (ld 3) fun x => bd (ld 3) fun y => of (mulD x y)) fun x => bd (bd (bd (own 0) fun _ => bd (rt (.int 2)) fun y => bd (own 0) fun ds => of (ixD (.lst ds) y)) fun x => bd (rt (.int 7919)) fun y => of (mulD x y)) fun y => of (addD x y)) fun x => bd (bd (ld 3) fun x => bd (rt (.int 1024)) fun y => of (fdivD x y)) fun y => of (addD x y)) fun x => bd (rt []) fun xs => rt (x :: xs)) fun xs => of (intD xs)) fun x => bd (rt (.int 2147483629)) fun y => of (modD x y)) fun d => nxt (setD 3 d))
    (retM (bd (bd (bd (bd (ld 3) fun x => bd (rt (.int 32)) fun y => of (fdivD x y)) fun x => bd (rt []) fun xs => rt (x :: xs)) fun xs => of (intD xs)) fun x => bd (ld 1) fun y => of (modD x y))))))
def b_l_char (c : Fn → M D) (f : Fn → M (List D)) : M Fl :=
  seqM (bd (rt (.str " !\"#$&'()*+,-./0123456789:;<=>?@ABCDEFGHIJKLMNOPQRSTUVWXYZ[\\]^_`")) fun d => nxt (setD 1 d))
    (seqM (bd (bd (ld 1) fun x => bd (rt (.str "abcdefghijklmnopqrstuvwxyz{|}~")) fun y => of (addD x y)) fun d => nxt (setD 1 d))
    (retM (bd (ld 1) fun x => bd (bd (bd (own 0) fun _ => bd (bd (rt (.int 94)) fun x => bd (rt []) fun xs => rt (.v x :: xs)) fun xs => rt (.s 0 :: xs)) fun as => callM 2 (c .l_draw) as) fun y => of (ixD x y))))
def b_l_name (c : Fn → M D) (f : Fn → M (List D)) : M Fl :=
  seqM (bd (bd (bd (own 0) fun _ => bd (bd (rt (.int 10)) fun x => bd (rt []) fun xs => rt (.v x :: xs)) fun xs => rt (.s 0 :: xs)) fun as => callM 2 (c .l_draw) as) fun d => nxt (setD 1 d))
    (seqM (ifM (bd (bd (ld 1) fun x => bd (rt (.int 8)) fun y => of (ltD x y)) fun x => of (asB x)) (retM (bd (bd (bd (rt (.str "a")) fun x => bd (bd (rt (.str "b")) fun x => bd (bd (rt (.str "c")) fun x => bd (bd (rt (.str "ab")) fun x => bd (bd (rt (.str "")) fun x => bd (bd (rt (.str "z9")) fun x => bd (bd (rt (.str "B")) fun x => bd (bd (rt (.str "ba")) fun x => bd (rt []) fun xs => rt (x :: xs)) fun xs => rt (x :: xs)) fun xs => rt (x :: xs)) fun xs => rt (x :: xs)) fun xs => rt (x :: xs)) fun xs => rt (x :: xs)) fun xs => rt (x :: xs)) fun xs => rt (x :: xs)) fun ds => of (mkL ds)) fun x => bd (ld 1) fun y => of (ixD x y))) (nilM))
    (seqM (ifM (bd (bd (bd (bd (own 0) fun _ => bd (bd (rt (.int 3)) fun x => bd (rt []) fun xs => rt (.v x :: xs)) fun xs => rt (.s 0 :: xs)) fun as => callM 2 (c .l_draw) as) fun x => bd (rt (.int 0)) fun y => of (eqD x y)) fun x => of (asB x)) (retM (bd (bd (bd (rt (.str "name")) fun x => bd (bd (bd (own 0) fun _ => bd (bd (rt (.int 4)) fun x => bd (rt []) fun xs => rt (.v x :: xs)) fun xs => rt (.s 0 :: xs)) fun as => callM 2 (c .l_draw) as) fun y => of (mulD x y)) fun x => bd (bd (bd (own 0) fun _ => bd (rt []) fun xs => rt (.s 0 :: xs)) fun as => callM 1 (c .l_char) as) fun y => of (addD x y)) fun x => bd (bd (rt (.str "name")) fun x => bd (bd (bd (own 0) fun _ => bd (bd (rt (.int 3)) fun x => bd (rt []) fun xs => rt (.v x :: xs)) fun xs => rt (.s 0 :: xs)) fun as => callM 2 (c .l_draw) as) fun y => of (mulD x y)) fun y => of (addD x y))) (nilM))
    (retM (bd (rt (.str "")) fun a => bd (of (asS a)) fun z => bd (lcM (bd (bd (bd (bd (own 0) fun _ => bd (bd (rt (.int 4)) fun x => bd (rt []) fun xs => rt (.v x :: xs)) fun xs => rt (.s 0 :: xs)) fun as => callM 2 (c .l_draw) as) fun x => bd (rt []) fun xs => rt (x :: xs)) fun ds => of (rng1 ds)) (setD 2) (rt true) (bd (bd (own 0) fun _ => bd (rt []) fun xs => rt (.s 0 :: xs)) fun as => callM 1 (c .l_char) as) [2]) fun x => of (joinD (.str z) x)))))
def b_l_number (c : Fn → M D) (f : Fn → M (List D)) : M Fl :=
  seqM (bd (bd (bd (own 0) fun _ => bd (bd (rt (.int 6)) fun x => bd (rt []) fun xs => rt (.v x :: xs)) fun xs => rt (.s 0 :: xs)) fun as => callM 2 (c .l_draw) as) fun d => nxt (setD 1 d))
    (seqM (ifM (bd (bd (ld 1) fun x => bd (rt (.int 0)) fun y => of (eqD x y)) fun x => of (asB x)) (retM (bd (bd (bd (own 0) fun _ => bd (bd (rt (.int 2000)) fun x => bd (rt []) fun xs => rt (.v x :: xs)) fun xs => rt (.s 0 :: xs)) fun as => callM 2 (c .l_draw) as) fun x => bd (rt (.int 1000)) fun y => of (subD x y))) (nilM))
    (seqM (ifM (bd (bd (ld 1) fun x => bd (rt (.int 1)) fun y => of (eqD x y)) fun x => of (asB x)) (retM (bd (bd (bd (own 0) fun _ => bd (bd (bd (rt (.int 10)) fun x => bd (rt (.int 20)) fun y => of (powD x y)) fun x => bd (rt []) fun xs => rt (.v x :: xs)) fun xs => rt (.s 0 :: xs)) fun as => callM 2 (c .l_draw) as) fun x => bd (bd (rt (.int 5)) fun x => bd (bd (rt (.int 10)) fun x => bd (rt (.int 19)) fun y => of (powD x y)) fun y => of (mulD x y)) fun y => of (subD x y))) (nilM))
    (retM (bd (bd (bd (own 0) fun _ => bd (bd (rt (.int 7)) fun x => bd (rt []) fun xs => rt (.v x :: xs)) fun xs => rt (.s 0 :: xs)) fun as => callM 2 (c .l_draw) as) fun x => bd (rt (.int 2)) fun y => of (subD x y)))))
def b_l_leaf (c : Fn → M D) (f : Fn → M (List D)) : M Fl :=
  seqM (bd (bd (bd (own 0) fun _ => bd (bd (rt (.int 8)) fun x => bd (rt []) fun xs => rt (.v x :: xs)) fun xs => rt (.s 0 :: xs)) fun as => callM 2 (c .l_draw) as) fun d => nxt (setD 1 d))
    (seqM (ifM (bd (bd (ld 1) fun x => bd (rt (.int 0)) fun y => of (eqD x y)) fun x => of (asB x)) (retM (bd (bd (rt (.str "null")) fun x => bd (rt []) fun xs => rt (x :: xs)) fun ds => of (mkT ds))) (nilM))
    (seqM (ifM (bd (bd (ld 1) fun x => bd (rt (.int 1)) fun y => of (eqD x y)) fun x => of (asB x)) (retM (bd (bd (rt (.str "bool")) fun x => bd (bd (bd (bd (bd (own 0) fun _ => bd (bd (rt (.int 2)) fun x => bd (rt []) fun xs => rt (.v x :: xs)) fun xs => rt (.s 0 :: xs)) fun as => callM 2 (c .l_draw) as) fun x => bd (rt (.int 1)) fun y => of (eqD x y)) fun x => bd (rt []) fun xs => rt (x :: xs)) fun xs => rt (x :: xs)) fun ds => of (mkT ds))) (nilM))
    (seqM (ifM (bd (bd (ld 1) fun x => bd (rt (.int 5)) fun y => of (ltD x y)) fun x => of (asB x)) (retM (bd (bd (rt (.str "int")) fun x => bd (bd (bd (bd (own 0) fun _ => bd (rt []) fun xs => rt (.s 0 :: xs)) fun as => callM 1 (c .l_number) as) fun x => bd (rt []) fun xs => rt (x :: xs)) fun xs => rt (x :: xs)) fun ds => of (mkT ds))) (nilM))
    (retM (bd (bd (rt (.str "text")) fun x => bd (bd (bd (bd (own 0) fun _ => bd (rt []) fun xs => rt (.s 0 :: xs)) fun as => callM 1 (c .l_name) as) fun x => bd (rt []) fun xs => rt (x :: xs)) fun xs => rt (x :: xs)) fun ds => of (mkT ds))))))
def b_l_object (c : Fn → M D) (f : Fn → M (List D)) : M Fl :=
  seqM (bd (bd (bd (rt (.str "object")) fun x => bd (bd (bd (rt []) fun ds => of (mkT ds)) fun x => bd (rt []) fun xs => rt (x :: xs)) fun xs => rt (x :: xs)) fun ds => of (mkT ds)) fun d => nxt (setD 1 d))
    (seqM (bd (bd (ld 0) fun d => of (seqOf d)) fun ds => forM (setD 2) (bd (bd (bd (ld 1) fun x => bd (bd (bd (ld 2) fun x => bd (rt (.int 0)) fun y => of (ixD x y)) fun x => bd (bd (bd (ld 2) fun x => bd (rt (.int 1)) fun y => of (ixD x y)) fun x => bd (rt []) fun xs => rt (.v x :: xs)) fun xs => rt (.v x :: xs)) fun xs => rt (.v x :: xs)) fun as => callM 3 (c .l_with) as) fun d => nxt (setD 1 d)) ds)
    (retM (ld 1)))
def b_l_value (c : Fn → M D) (f : Fn → M (List D)) : M Fl :=
  seqM (bd (bd (bd (own 0) fun _ => bd (bd (rt (.int 9)) fun x => bd (rt []) fun xs => rt (.v x :: xs)) fun xs => rt (.s 0 :: xs)) fun as => callM 2 (c .l_draw) as) fun d => nxt (setD 2 d))
    (seqM (ifM (orM (bd (bd (ld 1) fun x => bd (rt (.int 2)) fun y => of (ltD x y)) fun x => of (asB x)) (bd (bd (ld 2) fun x => bd (rt (.int 3)) fun y => of (ltD x y)) fun x => of (asB x))) (retM (bd (bd (own 0) fun _ => bd (rt []) fun xs => rt (.s 0 :: xs)) fun as => callM 1 (c .l_leaf) as)) (nilM))
    (seqM (ifM (bd (bd (ld 2) fun x => bd (rt (.int 6)) fun y => of (ltD x y)) fun x => of (asB x)) (retM (bd (bd (rt (.str "list")) fun x => bd (bd (bd (bd (lcM (bd (bd (bd (bd (own 0) fun _ => bd (bd (rt (.int 4)) fun x => bd (rt []) fun xs => rt (.v x :: xs)) fun xs => rt (.s 0 :: xs)) fun as => callM 2 (c .l_draw) as) fun x => bd (rt []) fun xs => rt (x :: xs)) fun ds => of (rng1 ds)) (setD 3) (rt true) (bd (bd (own 0) fun _ => bd (bd (bd (ld 1) fun x => bd (rt (.int 1)) fun y => of (subD x y)) fun x => bd (rt []) fun xs => rt (.v x :: xs)) fun xs => rt (.s 0 :: xs)) fun as => callM 2 (c .l_value) as) [3]) fun x => bd (rt []) fun xs => rt (x :: xs)) fun xs => of (tupleD xs)) fun x => bd (rt []) fun xs => rt (x :: xs)) fun xs => rt (x :: xs)) fun ds => of (mkT ds))) (nilM))
    (retM (bd (bd (lcM (bd (bd (bd (bd (own 0) fun _ => bd (bd (rt (.int 4)) fun x => bd (rt []) fun xs => rt (.v x :: xs)) fun xs => rt (.s 0 :: xs)) fun as => callM 2 (c .l_draw) as) fun x => bd (rt []) fun xs => rt (x :: xs)) fun ds => of (rng1 ds)) (setD 3) (rt true) (bd (bd (bd (bd (own 0) fun _ => bd (rt []) fun xs => rt (.s 0 :: xs)) fun as => callM 1 (c .l_name) as) fun x => bd (bd (bd (bd (own 0) fun _ => bd (bd (bd (ld 1) fun x => bd (rt (.int 1)) fun y => of (subD x y)) fun x => bd (rt []) fun xs => rt (.v x :: xs)) fun xs => rt (.s 0 :: xs)) fun as => callM 2 (c .l_value) as) fun x => bd (rt []) fun xs => rt (x :: xs)) fun xs => rt (x :: xs)) fun ds => of (mkT ds)) [3]) fun x => bd (rt []) fun xs => rt (.v x :: xs)) fun as => callM 1 (c .l_object) as))))
def b_l_wide (c : Fn → M D) (f : Fn → M (List D)) : M Fl :=
  seqM (bd (bd (bd (own 0) fun _ => bd (bd (ld 1) fun x => bd (rt []) fun xs => rt (.v x :: xs)) fun xs => rt (.s 0 :: xs)) fun as => callM 2 (c .l_value) as) fun d => nxt (setD 2 d))
    (seqM (bd (bd (bd (bd (bd (bd (rt (.int 0)) fun x => bd (bd (rt (.int 0)) fun x => bd (bd (rt (.int 1)) fun x => bd (bd (rt (.int 3)) fun x => bd (rt []) fun xs => rt (x :: xs)) fun xs => rt (x :: xs)) fun xs => rt (x :: xs)) fun xs => rt (x :: xs)) fun ds => of (mkL ds)) fun x => bd (bd (bd (own 0) fun _ => bd (bd (rt (.int 4)) fun x => bd (rt []) fun xs => rt (.v x :: xs)) fun xs => rt (.s 0 :: xs)) fun as => callM 2 (c .l_draw) as) fun y => of (ixD x y)) fun x => bd (rt []) fun xs => rt (x :: xs)) fun ds => of (rng1 ds)) fun ds => forM (setD 3) (seqM (bd (lcM (bd (bd (bd (bd (bd (own 0) fun _ => bd (bd (rt (.int 2)) fun x => bd (rt []) fun xs => rt (.v x :: xs)) fun xs => rt (.s 0 :: xs)) fun as => callM 2 (c .l_draw) as) fun x => bd (bd (bd (own 0) fun _ => bd (bd (rt (.int 13)) fun x => bd (rt []) fun xs => rt (.v x :: xs)) fun xs => rt (.s 0 :: xs)) fun as => callM 2 (c .l_draw) as) fun y => of (mulD x y)) fun x => bd (rt []) fun xs => rt (x :: xs)) fun ds => of (rng1 ds)) (setD 5) (rt true) (bd (bd (own 0) fun _ => bd (rt []) fun xs => rt (.s 0 :: xs)) fun as => callM 1 (c .l_leaf) as) [5]) fun d => nxt (setD 4 d))
    (ifM (bd (bd (bd (bd (own 0) fun _ => bd (bd (rt (.int 2)) fun x => bd (rt []) fun xs => rt (.v x :: xs)) fun xs => rt (.s 0 :: xs)) fun as => callM 2 (c .l_draw) as) fun x => bd (rt (.int 0)) fun y => of (eqD x y)) fun x => of (asB x)) (bd (bd (bd (rt (.str "list")) fun x => bd (bd (bd (bd (bd (ld 4) fun x => bd (rt []) fun xs => rt (x :: xs)) fun xs => of (tupleD xs)) fun x => bd (bd (bd (ld 2) fun x => bd (rt []) fun xs => rt (x :: xs)) fun ds => of (mkT ds)) fun y => of (addD x y)) fun x => bd (rt []) fun xs => rt (x :: xs)) fun xs => rt (x :: xs)) fun ds => of (mkT ds)) fun d => nxt (setD 2 d)) (bd (bd (bd (bd (lcM (bd (ld 4) fun d => of (seqOf d)) (setD 6) (rt true) (bd (bd (bd (bd (own 0) fun _ => bd (rt []) fun xs => rt (.s 0 :: xs)) fun as => callM 1 (c .l_name) as) fun x => bd (bd (ld 6) fun x => bd (rt []) fun xs => rt (x :: xs)) fun xs => rt (x :: xs)) fun ds => of (mkT ds)) [6]) fun x => bd (bd (bd (bd (bd (bd (bd (own 0) fun _ => bd (rt []) fun xs => rt (.s 0 :: xs)) fun as => callM 1 (c .l_name) as) fun x => bd (bd (ld 2) fun x => bd (rt []) fun xs => rt (x :: xs)) fun xs => rt (x :: xs)) fun ds => of (mkT ds)) fun x => bd (rt []) fun xs => rt (x :: xs)) fun ds => of (mkL ds)) fun y => of (addD x y)) fun x => bd (rt []) fun xs => rt (.v x :: xs)) fun as => callM 1 (c .l_object) as) fun d => nxt (setD 2 d)))) ds)
    (retM (ld 2)))
def b_l_token (c : Fn → M D) (f : Fn → M (List D)) : M Fl :=
  seqM (ifM (andM (bd (bd (bd (ld 1) fun x => bd (rt (.int 0)) fun y => of (ixD x y)) fun x => bd (rt (.str "list")) fun y => of (eqD x y)) fun x => of (asB x)) (bd (bd (bd (bd (bd (ld 1) fun x => bd (rt (.int 1)) fun y => of (ixD x y)) fun x => bd (rt []) fun xs => rt (x :: xs)) fun xs => of (lenD xs)) fun x => bd (rt (.int 0)) fun y => of (gtD x y)) fun x => of (asB x))) (retM (bd (bd (bd (bd (own 0) fun _ => bd (bd (bd (bd (bd (ld 1) fun x => bd (rt (.int 1)) fun y => of (ixD x y)) fun x => bd (rt []) fun xs => rt (x :: xs)) fun xs => of (lenD xs)) fun x => bd (rt []) fun xs => rt (.v x :: xs)) fun xs => rt (.s 0 :: xs)) fun as => callM 2 (c .l_draw) as) fun x => bd (bd (rt (.int 9)) fun x => bd (rt []) fun xs => rt (x :: xs)) fun xs => rt (x :: xs)) fun xs => of (minD xs))) (nilM))
    (seqM (ifM (andM (bd (bd (bd (ld 1) fun x => bd (rt (.int 0)) fun y => of (ixD x y)) fun x => bd (rt (.str "object")) fun y => of (eqD x y)) fun x => of (asB x)) (bd (bd (bd (bd (bd (ld 1) fun x => bd (rt (.int 1)) fun y => of (ixD x y)) fun x => bd (rt []) fun xs => rt (x :: xs)) fun xs => of (lenD xs)) fun x => bd (rt (.int 0)) fun y => of (gtD x y)) fun x => of (asB x))) (retM (bd (bd (bd (ld 1) fun x => bd (rt (.int 1)) fun y => of (ixD x y)) fun x => bd (bd (bd (own 0) fun _ => bd (bd (bd (bd (bd (ld 1) fun x => bd (rt (.int 1)) fun y => of (ixD x y)) fun x => bd (rt []) fun xs => rt (x :: xs)) fun xs => of (lenD xs)) fun x => bd (rt []) fun xs => rt (.v x :: xs)) fun xs => rt (.s 0 :: xs)) fun as => callM 2 (c .l_draw) as) fun y => of (ixD x y)) fun x => bd (rt (.int 0)) fun y => of (ixD x y))) (nilM))
    (retM (rt .non)))
def b_l_path (c : Fn → M D) (f : Fn → M (List D)) : M Fl :=
  seqM (bd (bd (rt []) fun ds => of (mkT ds)) fun d => nxt (setD 3 d))
    (seqM (bd (bd (bd (ld 2) fun x => bd (rt []) fun xs => rt (x :: xs)) fun ds => of (rng1 ds)) fun ds => forM (setD 4) (seqM (bd (bd (bd (own 0) fun _ => bd (bd (ld 1) fun x => bd (rt []) fun xs => rt (.v x :: xs)) fun xs => rt (.s 0 :: xs)) fun as => callM 2 (c .l_token) as) fun d => nxt (setD 5 d))
    (ifM (andM (bd (bd (ld 5) fun x => bd (rt .non) fun y => of (isNotD x y)) fun x => of (asB x)) (bd (bd (bd (bd (own 0) fun _ => bd (bd (rt (.int 4)) fun x => bd (rt []) fun xs => rt (.v x :: xs)) fun xs => rt (.s 0 :: xs)) fun as => callM 2 (c .l_draw) as) fun x => bd (rt (.int 0)) fun y => of (gtD x y)) fun x => of (asB x))) (seqM (bd (bd (ld 3) fun x => bd (bd (bd (ld 5) fun x => bd (rt []) fun xs => rt (x :: xs)) fun ds => of (mkT ds)) fun y => of (addD x y)) fun d => nxt (setD 3 d))
    (bd (bd (bd (ld 1) fun x => bd (bd (ld 5) fun x => bd (rt []) fun xs => rt (.v x :: xs)) fun xs => rt (.v x :: xs)) fun as => callM 2 (c .l_child) as) fun d => nxt (setD 1 d))) (bd (bd (bd (rt (.str "null")) fun x => bd (rt []) fun xs => rt (x :: xs)) fun ds => of (mkT ds)) fun d => nxt (setD 1 d)))) ds)
    (seqM (ifM (andM (bd (bd (bd (bd (ld 3) fun x => bd (rt []) fun xs => rt (x :: xs)) fun xs => of (lenD xs)) fun x => bd (ld 2) fun y => of (ltD x y)) fun x => of (asB x)) (bd (bd (bd (bd (own 0) fun _ => bd (bd (rt (.int 8)) fun x => bd (rt []) fun xs => rt (.v x :: xs)) fun xs => rt (.s 0 :: xs)) fun as => callM 2 (c .l_draw) as) fun x => bd (rt (.int 0)) fun y => of (eqD x y)) fun x => of (asB x))) (seqM (ifM (bd (bd (bd (bd (own 0) fun _ => bd (bd (rt (.int 2)) fun x => bd (rt []) fun xs => rt (.v x :: xs)) fun xs => rt (.s 0 :: xs)) fun as => callM 2 (c .l_draw) as) fun x => bd (rt (.int 0)) fun y => of (eqD x y)) fun x => of (asB x)) (retM (bd (ld 3) fun x => bd (bd (bd (bd (bd (own 0) fun _ => bd (rt []) fun xs => rt (.s 0 :: xs)) fun as => callM 1 (c .l_name) as) fun x => bd (rt []) fun xs => rt (x :: xs)) fun ds => of (mkT ds)) fun y => of (addD x y))) (nilM))
    (retM (bd (ld 3) fun x => bd (bd (bd (bd (bd (own 0) fun _ => bd (bd (rt (.int 4)) fun x => bd (rt []) fun xs => rt (.v x :: xs)) fun xs => rt (.s 0 :: xs)) fun as => callM 2 (c .l_draw) as) fun x => bd (rt []) fun xs => rt (x :: xs)) fun ds => of (mkT ds)) fun y => of (addD x y)))) (nilM))
    (retM (ld 3))))
def b_l_target (c : Fn → M D) (f : Fn → M (List D)) : M Fl :=
  seqM (bd (bd (bd (own 0) fun _ => bd (bd (ld 1) fun x => bd (bd (ld 2) fun x => bd (rt []) fun xs => rt (.v x :: xs)) fun xs => rt (.v x :: xs)) fun xs => rt (.s 0 :: xs)) fun as => callM 3 (c .l_path) as) fun d => nxt (setD 3 d))
    (seqM (bd (bd (bd (ld 1) fun x => bd (bd (ld 3) fun x => bd (rt []) fun xs => rt (.v x :: xs)) fun xs => rt (.v x :: xs)) fun as => callM 2 (c .l_lookup) as) fun d => nxt (setD 4 d))
    (seqM (ifM (orM (bd (bd (ld 4) fun x => bd (rt .non) fun y => of (isD x y)) fun x => of (asB x)) (bd (bd (bd (bd (ld 3) fun x => bd (rt []) fun xs => rt (x :: xs)) fun xs => of (lenD xs)) fun x => bd (ld 2) fun y => of (geD x y)) fun x => of (asB x))) (retM (ld 3)) (nilM))
    (seqM (bd (bd (bd (own 0) fun _ => bd (bd (rt (.int 3)) fun x => bd (rt []) fun xs => rt (.v x :: xs)) fun xs => rt (.s 0 :: xs)) fun as => callM 2 (c .l_draw) as) fun d => nxt (setD 5 d))
    (seqM (ifM (andM (bd (bd (bd (ld 4) fun x => bd (rt (.int 0)) fun y => of (ixD x y)) fun x => bd (rt (.str "object")) fun y => of (eqD x y)) fun x => of (asB x)) (bd (bd (ld 5) fun x => bd (rt (.int 0)) fun y => of (gtD x y)) fun x => of (asB x))) (retM (bd (ld 3) fun x => bd (bd (bd (bd (bd (own 0) fun _ => bd (rt []) fun xs => rt (.s 0 :: xs)) fun as => callM 1 (c .l_name) as) fun x => bd (rt []) fun xs => rt (x :: xs)) fun ds => of (mkT ds)) fun y => of (addD x y))) (nilM))
    (seqM (ifM (andM (bd (bd (bd (ld 4) fun x => bd (rt (.int 0)) fun y => of (ixD x y)) fun x => bd (rt (.str "list")) fun y => of (eqD x y)) fun x => of (asB x)) (bd (bd (ld 5) fun x => bd (rt (.int 1)) fun y => of (eqD x y)) fun x => of (asB x))) (retM (bd (ld 3) fun x => bd (bd (bd (bd (bd (bd (bd (bd (ld 4) fun x => bd (rt (.int 1)) fun y => of (ixD x y)) fun x => bd (rt []) fun xs => rt (x :: xs)) fun xs => of (lenD xs)) fun x => bd (bd (rt (.int 9)) fun x => bd (rt []) fun xs => rt (x :: xs)) fun xs => rt (x :: xs)) fun xs => of (minD xs)) fun x => bd (rt []) fun xs => rt (x :: xs)) fun ds => of (mkT ds)) fun y => of (addD x y))) (nilM))
    (seqM (ifM (andM (bd (bd (bd (ld 4) fun x => bd (rt (.int 0)) fun y => of (ixD x y)) fun x => bd (rt (.str "list")) fun y => of (eqD x y)) fun x => of (asB x)) (bd (bd (ld 5) fun x => bd (rt (.int 2)) fun y => of (eqD x y)) fun x => of (asB x))) (retM (bd (ld 3) fun x => bd (bd (bd (bd (rt (.int 1)) fun x => of (negD x)) fun x => bd (rt []) fun xs => rt (x :: xs)) fun ds => of (mkT ds)) fun y => of (addD x y))) (nilM))
    (retM (ld 3))))))))
def b_l_changed (c : Fn → M D) (f : Fn → M (List D)) : M Fl :=
  seqM (bd (bd (bd (own 0) fun _ => bd (bd (ld 1) fun x => bd (bd (rt (.int 3)) fun x => bd (rt []) fun xs => rt (.v x :: xs)) fun xs => rt (.v x :: xs)) fun xs => rt (.s 0 :: xs)) fun as => callM 3 (c .l_path) as) fun d => nxt (setD 2 d))
    (seqM (bd (bd (bd (own 0) fun _ => bd (bd (rt (.int 3)) fun x => bd (rt []) fun xs => rt (.v x :: xs)) fun xs => rt (.s 0 :: xs)) fun as => callM 2 (c .l_draw) as) fun d => nxt (setD 3 d))
    (seqM (bd (rt .non) fun d => nxt (setD 4 d))
    (seqM (ifM (bd (bd (ld 3) fun x => bd (rt (.int 0)) fun y => of (eqD x y)) fun x => of (asB x)) (bd (bd (bd (ld 1) fun x => bd (bd (ld 2) fun x => bd (rt []) fun xs => rt (.v x :: xs)) fun xs => rt (.v x :: xs)) fun as => callM 2 (c .l_take) as) fun d => nxt (setD 4 d)) (nilM))
    (seqM (ifM (bd (bd (ld 3) fun x => bd (rt (.int 1)) fun y => of (eqD x y)) fun x => of (asB x)) (bd (bd (bd (ld 1) fun x => bd (bd (bd (bd (own 0) fun _ => bd (bd (ld 1) fun x => bd (bd (rt (.int 3)) fun x => bd (rt []) fun xs => rt (.v x :: xs)) fun xs => rt (.v x :: xs)) fun xs => rt (.s 0 :: xs)) fun as => callM 3 (c .l_target) as) fun x => bd (bd (bd (bd (own 0) fun _ => bd (rt []) fun xs => rt (.s 0 :: xs)) fun as => callM 1 (c .l_leaf) as) fun x => bd (rt []) fun xs => rt (.v x :: xs)) fun xs => rt (.v x :: xs)) fun xs => rt (.v x :: xs)) fun as => callM 3 (c .l_put) as) fun d => nxt (setD 4 d)) (nilM))
    (seqM (ifM (bd (bd (ld 3) fun x => bd (rt (.int 2)) fun y => of (eqD x y)) fun x => of (asB x)) (bd (bd (bd (ld 1) fun x => bd (bd (ld 2) fun x => bd (bd (bd (bd (own 0) fun _ => bd (rt []) fun xs => rt (.s 0 :: xs)) fun as => callM 1 (c .l_leaf) as) fun x => bd (rt []) fun xs => rt (.v x :: xs)) fun xs => rt (.v x :: xs)) fun xs => rt (.v x :: xs)) fun as => callM 3 (c .l_replace) as) fun d => nxt (setD 4 d)) (nilM))
    (seqM (ifM (bd (bd (ld 4) fun x => bd (rt .non) fun y => of (isD x y)) fun x => of (asB x)) (retM (ld 1)) (nilM))
    (retM (ld 4))))))))
def b_law0 (c : Fn → M D) (f : Fn → M (List D)) : M Fl :=
  seqM (bd (bd (bd (bd (bd (bd (ld 0) fun x => bd (bd (rt (.int 0)) fun x => bd (rt []) fun xs => rt (.v x :: xs)) fun xs => rt (.v x :: xs)) fun as => callM 2 (c .l_cell) as) fun x => bd (rt []) fun xs => rt (.v x :: xs)) fun as => callN 1 (f .l_source) as) fun ds => bd (bd (rt (.int 3)) fun x => bd (rt []) fun xs => rt (.v x :: xs)) fun as => callT 2 (c .l_wide) ds as) fun d => nxt (setD 1 d))
    (seqM (bd (bd (bd (ld 1) fun x => bd (rt []) fun xs => rt (.v x :: xs)) fun as => callM 1 (c .p_equal_formula) as) fun d => nxt (setD 2 d))
    (seqM (ifM (bd (bd (bd (bd (ld 2) fun x => bd (bd (rt (.bl true)) fun x => bd (bd (rt (.int 300)) fun x => bd (rt []) fun xs => rt (.v x :: xs)) fun xs => rt (.v x :: xs)) fun xs => rt (.v x :: xs)) fun as => callM 3 (c .l_is_formula) as) fun x => of (truD x)) fun x => rt (!x)) (retM (rt (.bl false))) (nilM))
    (seqM (bd (bd (ld 1) fun x => bd (rt []) fun xs => rt (x :: xs)) fun ds => if ds.length ≤ sizeLine then nxt (setO 3 ds) else fun _ => none)
    (seqM (bd (bd (bd (ld 0) fun x => bd (bd (rt (.int 1)) fun x => of (asI x)) fun l => bd (bd (rt (.int 15)) fun x => of (asI x)) fun h => of (slD x l h)) fun d => of (seqOf d)) fun ds => forM (setD 4) (ifM (bd (bd (bd (bd (bd (ld 4) fun x => bd (rt []) fun xs => rt (x :: xs)) fun xs => of (intD xs)) fun x => bd (rt (.int 4)) fun y => of (modD x y)) fun x => bd (rt (.int 0)) fun y => of (gtD x y)) fun x => of (asB x)) (bd (own 3) fun _ => bd (bd (bd (bd (bd (bd (bd (ld 4) fun x => bd (rt []) fun xs => rt (x :: xs)) fun xs => of (intD xs)) fun x => bd (rt (.int 4)) fun y => of (fdivD x y)) fun x => bd (rt []) fun xs => rt (.v x :: xs)) fun as => callN 1 (f .l_source) as) fun ds => bd (bd (ld 1) fun x => bd (rt []) fun xs => rt (.v x :: xs)) fun as => callT 2 (c .l_changed) ds as) fun d => nxt (appM 3 d)) (bd (own 3) fun _ => bd (bd (bd (bd (bd (bd (bd (ld 4) fun x => bd (rt []) fun xs => rt (x :: xs)) fun xs => of (intD xs)) fun x => bd (rt (.int 4)) fun y => of (fdivD x y)) fun x => bd (rt []) fun xs => rt (.v x :: xs)) fun as => callN 1 (f .l_source) as) fun ds => bd (bd (rt (.int 2)) fun x => bd (rt []) fun xs => rt (.v x :: xs)) fun as => callT 2 (c .l_value) ds as) fun d => nxt (appM 3 d))) ds)
    (retM (bd (bd (lcO 3 (setD 5) (rt true) (bd (bd (bd (ld 2) fun x => bd (bd (ld 5) fun x => bd (bd (rt .non) fun x => bd (rt []) fun xs => rt (.v x :: xs)) fun xs => rt (.v x :: xs)) fun xs => rt (.v x :: xs)) fun as => callM 3 (c .l_holds) as) fun x => bd (bd (ld 5) fun x => bd (ld 1) fun y => of (eqD x y)) fun y => of (eqD x y)) [5]) fun x => bd (rt []) fun xs => rt (x :: xs)) fun xs => of (allD xs)))))))
def bodies (c : Fn → M D) (f : Fn → M (List D)) : Fn → M D
  | .p_bounded_formula => bodyF 4 1 (b_p_bounded_formula c f)
  | .p_items_formula => bodyF 1 4 (b_p_items_formula c f)
  | .p_field_formula => bodyF 3 1 (b_p_field_formula c f)
  | .p_fields_formula => bodyF 2 6 (b_p_fields_formula c f)
  | .p_equal_formula => bodyF 1 5 (b_p_equal_formula c f)
  | .l_child => bodyF 2 1 (b_l_child c f)
  | .l_lookup => bodyF 2 1 (b_l_lookup c f)
  | .l_with => bodyF 3 3 (b_l_with c f)
  | .l_replace => bodyF 3 2 (b_l_replace c f)
  | .l_put => bodyF 3 4 (b_l_put c f)
  | .l_take => bodyF 2 4 (b_l_take c f)
  | .l_holds => bodyF 3 5 (b_l_holds c f)
  | .l_is_integer => bodyF 1 0 (b_l_is_integer c f)
  | .l_is_string => bodyF 1 1 (b_l_is_string c f)
  | .l_is_token => bodyF 1 0 (b_l_is_token c f)
  | .l_formula_parts => bodyF 2 4 (b_l_formula_parts c f)
  | .l_is_formula => bodyF 3 5 (b_l_is_formula c f)
  | .l_cell => bodyF 2 0 (b_l_cell c f)
  | .l_draw => bodyF 2 2 (b_l_draw c f)
  | .l_char => bodyF 1 1 (b_l_char c f)
  | .l_name => bodyF 1 2 (b_l_name c f)
  | .l_number => bodyF 1 1 (b_l_number c f)
  | .l_leaf => bodyF 1 1 (b_l_leaf c f)
  | .l_object => bodyF 1 2 (b_l_object c f)
  | .l_value => bodyF 2 2 (b_l_value c f)
  | .l_wide => bodyF 2 5 (b_l_wide c f)
  | .l_token => bodyF 2 0 (b_l_token c f)
  | .l_path => bodyF 3 3 (b_l_path c f)
  | .l_target => bodyF 3 3 (b_l_target c f)
  | .l_changed => bodyF 2 3 (b_l_changed c f)
  | .law0 => bodyF 1 5 (b_law0 c f)
  | _ => fun _ => none
def bodiesN (c : Fn → M D) (f : Fn → M (List D)) : Fn → M (List D)
  | .l_source => bodyN 1 0 (b_l_source c f)
  | _ => fun _ => none
def sems : Nat → (Fn → M D) × (Fn → M (List D))
  | 0 => (fun _ _ => none, fun _ _ => none)
  | n + 1 => (bodies (sems n).1 (sems n).2, bodiesN (sems n).1 (sems n).2)
abbrev sem (n : Nat) : Fn → M D := (sems n).1
abbrev semN (n : Nat) : Fn → M (List D) := (sems n).2
structure FF (K : PySem.W.Frag) (mg : Str → Option Value) (x : Str) (st : Stmt) (ps : List Str) where
  f : Addr
  fd : FuncData
  F : Fun K x x st f fd
  b : Binds K fd ps []
  m : mg x = some (.ref f)
abbrev fnNm : Fn → Str
  | .p_bounded_formula => "bounded_formula"
  | .p_items_formula => "items_formula"
  | .p_field_formula => "field_formula"
  | .p_fields_formula => "fields_formula"
  | .p_equal_formula => "equal_formula"
  | .l_child => "_law_child"
  | .l_lookup => "_law_lookup"
  | .l_with => "_law_with"
  | .l_replace => "_law_replace"
  | .l_put => "_law_put"
  | .l_take => "_law_take"
  | .l_holds => "_law_holds"
  | .l_is_integer => "_law_is_integer"
  | .l_is_string => "_law_is_string"
  | .l_is_token => "_law_is_token"
  | .l_formula_parts => "_law_formula_parts"
  | .l_is_formula => "_law_is_formula"
  | .l_cell => "_law_cell"
  | .l_source => "_law_source"
  | .l_draw => "_law_draw"
  | .l_char => "_law_char"
  | .l_name => "_law_name"
  | .l_number => "_law_number"
  | .l_leaf => "_law_leaf"
  | .l_object => "_law_object"
  | .l_value => "_law_value"
  | .l_wide => "_law_wide"
  | .l_token => "_law_token"
  | .l_path => "_law_path"
  | .l_target => "_law_target"
  | .l_changed => "_law_changed"
  | .law0 => "law"
abbrev fnSt : Fn → Stmt
  | .p_bounded_formula => s_p_bounded_formula
  | .p_items_formula => s_p_items_formula
  | .p_field_formula => s_p_field_formula
  | .p_fields_formula => s_p_fields_formula
  | .p_equal_formula => s_p_equal_formula
  | .l_child => s_l_child
  | .l_lookup => s_l_lookup
  | .l_with => s_l_with
  | .l_replace => s_l_replace
  | .l_put => s_l_put
  | .l_take => s_l_take
  | .l_holds => s_l_holds
  | .l_is_integer => s_l_is_integer
  | .l_is_string => s_l_is_string
  | .l_is_token => s_l_is_token
  | .l_formula_parts => s_l_formula_parts
  | .l_is_formula => s_l_is_formula
  | .l_cell => s_l_cell
  | .l_source => s_l_source
  | .l_draw => s_l_draw
  | .l_char => s_l_char
  | .l_name => s_l_name
  | .l_number => s_l_number
  | .l_leaf => s_l_leaf
  | .l_object => s_l_object
  | .l_value => s_l_value
  | .l_wide => s_l_wide
  | .l_token => s_l_token
  | .l_path => s_l_path
  | .l_target => s_l_target
  | .l_changed => s_l_changed
  | .law0 => s_law0
abbrev fnPs : Fn → List Str
  | .p_bounded_formula => ["kind", "word", "low", "high"]
  | .p_items_formula => ["formulas"]
  | .p_field_formula => ["name", "formula", "required"]
  | .p_fields_formula => ["rows", "others"]
  | .p_equal_formula => ["value"]
  | .l_child => ["value", "token"]
  | .l_lookup => ["value", "path"]
  | .l_with => ["value", "token", "new"]
  | .l_replace => ["value", "path", "new"]
  | .l_put => ["value", "path", "new"]
  | .l_take => ["value", "path"]
  | .l_holds => ["formula", "value", "held"]
  | .l_is_integer => ["number"]
  | .l_is_string => ["string"]
  | .l_is_token => ["token"]
  | .l_formula_parts => ["formula", "plain"]
  | .l_is_formula => ["formula", "plain", "depth"]
  | .l_cell => ["script", "k"]
  | .l_source => ["cell"]
  | .l_draw => ["source", "many"]
  | .l_char => ["source"]
  | .l_name => ["source"]
  | .l_number => ["source"]
  | .l_leaf => ["source"]
  | .l_object => ["pairs"]
  | .l_value => ["source", "depth"]
  | .l_wide => ["source", "depth"]
  | .l_token => ["source", "value"]
  | .l_path => ["source", "value", "most"]
  | .l_target => ["source", "value", "most"]
  | .l_changed => ["source", "value"]
  | .law0 => ["script"]
structure Facts (K : PySem.W.Frag) (mg : Str → Option Value) (w : World) where
  ff : ∀ i : Fn, FF K mg (fnNm i) (fnSt i) (fnPs i)
  n_all : mg "all" = none
  n_any : mg "any" = none
  n_bool : mg "bool" = none
  n_enumerate : mg "enumerate" = none
  n_int : mg "int" = none
  n_isinstance : mg "isinstance" = none
  n_len : mg "len" = none
  n_min : mg "min" = none
  n_ord : mg "ord" = none
  n_range : mg "range" = none
  n_str : mg "str" = none
  n_tuple : mg "tuple" = none
section
variable {P : Program} {w : World} {K : PySem.W.Frag} {mg : Str → Option Value} {base : Heap}
theorem sc_p_bounded_formula : FnScope ["kind", "word", "low", "high", "parts"] ["kind", "word", "low", "high"] (defScope s_p_bounded_formula) := ⟨rfl, rfl, rfl, by decide +kernel, rfl, by decide +kernel, by decide +kernel⟩
theorem ok_p_bounded_formula (T : Facts K mg w) (n : Nat) :
    FnOk P w K mg base CX0 (n + 1) (T.ff .p_bounded_formula).f (T.ff .p_bounded_formula).fd ["kind", "word", "low", "high"] (spF [] K 4 (sem (n + 1) .p_bounded_formula)) := by
  refine fn_ok (n := 4) (nl := 1) (show Fun K "bounded_formula" "bounded_formula" s_p_bounded_formula (T.ff .p_bounded_formula).f (T.ff .p_bounded_formula).fd from (T.ff .p_bounded_formula).F) sc_p_bounded_formula rfl rfl (m := b_p_bounded_formula (sem n) (semN n)) (fun cdv A outer s H E hr => ?_)
  delta b_p_bounded_formula
  exact sb_cons (ss_setO (i := 4) sc_p_bounded_formula.nd rfl (by first | exact Or.inl rfl | exact Or.inr rfl) (sa_cons (se_if (st_cmp opg_is (se_ld (pv 2)) (se_non) (nomark _)) (se_tup (sa_cons (se_str) (sa_cons (se_ld (pv 0)) (sa_nil)))) (se_tup (sa_cons (se_ld (pv 1)) (sa_cons (se_ld (pv 2)) (sa_nil))))) (sa_nil)))
    (sb_cons (ss_if (st_cmp opg_isNot (se_ld (pv 3)) (se_non) (nomark _)) (sb_one (ss_app (pv 4) (se_tup (sa_cons (se_str) (sa_cons (se_tup (sa_cons (se_ld (pv 1)) (sa_cons (se_bin opg_add (se_ld (pv 3)) (se_int)) (sa_nil)))) (sa_nil)))))) (sb_nil))
    (sb_one (ss_ret (se_tup (sa_cons (se_str) (sa_cons (se_tupleO (pv 4) rfl T.n_tuple bo_tuple) (sa_nil)))))))
theorem sc_p_items_formula : FnScope ["formulas", "count", "parts", "index", "formula"] ["formulas"] (defScope s_p_items_formula) := ⟨rfl, rfl, rfl, by decide +kernel, rfl, by decide +kernel, by decide +kernel⟩
theorem ok_p_items_formula (T : Facts K mg w) (n : Nat)
    (G_p_bounded_formula : FnOk P w K mg base CX0 n (T.ff .p_bounded_formula).f (T.ff .p_bounded_formula).fd ["kind", "word", "low", "high"] (spF [] K 4 (sem (n) .p_bounded_formula))) :
    FnOk P w K mg base CX0 (n + 1) (T.ff .p_items_formula).f (T.ff .p_items_formula).fd ["formulas"] (spF [] K 1 (sem (n + 1) .p_items_formula)) := by
  refine fn_ok (n := 1) (nl := 4) (show Fun K "items_formula" "items_formula" s_p_items_formula (T.ff .p_items_formula).f (T.ff .p_items_formula).fd from (T.ff .p_items_formula).F) sc_p_items_formula rfl rfl (m := b_p_items_formula (sem n) (semN n)) (fun cdv A outer s H E hr => ?_)
  delta b_p_items_formula
  exact sb_cons (ss_set (i := 1) sc_p_items_formula.nd rfl (by first | exact Or.inl rfl | exact Or.inr rfl) (se_callB cg_len rfl T.n_len bo_len (sa_cons (se_ld (pv 0)) (sa_nil))))
    (sb_cons (ss_setO (i := 2) sc_p_items_formula.nd rfl (by first | exact Or.inl rfl | exact Or.inr rfl) (sa_cons (se_call (CX := CX0) G_p_bounded_formula hr rfl (T.ff .p_bounded_formula).m (T.ff .p_bounded_formula).F.kp (T.ff .p_bounded_formula).b (sr_v (se_str) (sr_v (se_str) (sr_v (se_ld (pv 1)) (sr_v (se_ld (pv 1)) (sr_nil)))))) (sa_nil)))
    (sb_cons (ss_ext (pv 2) (se_lc (own := [("index", 3), ("formula", 4)]) rfl sc_p_items_formula.nd (si_enum rfl T.n_enumerate (sa_cons (se_ld (pv 0)) (sa_nil))) (blkOk_by (own := [("index", 3), ("formula", 4)]) (N := ["formulas", "count", "parts", "index", "formula"]) (sc := defScope s_p_items_formula) (by decide +kernel)) (fun _ _ _ _ _ => sgw_tup rfl (sgws_cons (sgw_name (pg_name (i := 3) sc_p_items_formula.nd rfl (by first | exact Or.inl rfl | exact Or.inr rfl)) (by decide)) (sgws_cons (sgw_name (pg_name (i := 4) sc_p_items_formula.nd rfl (by first | exact Or.inl rfl | exact Or.inr rfl)) (by decide)) (sgws_nil)))) (fun _ _ _ _ _ => sq_nil) (fun _ _ _ _ _ => se_tup (sa_cons (se_str) (sa_cons (se_tup (sa_cons (se_ld (pv 3)) (sa_nil))) (sa_cons (se_ld (pv 4)) (sa_nil)))))))
    (sb_one (ss_ret (se_tup (sa_cons (se_str) (sa_cons (se_tupleO (pv 2) rfl T.n_tuple bo_tuple) (sa_nil))))))))
theorem sc_p_field_formula : FnScope ["name", "formula", "required", "valid"] ["name", "formula", "required"] (defScope s_p_field_formula) := ⟨rfl, rfl, rfl, by decide +kernel, rfl, by decide +kernel, by decide +kernel⟩
theorem ok_p_field_formula (T : Facts K mg w) (n : Nat) :
    FnOk P w K mg base CX0 (n + 1) (T.ff .p_field_formula).f (T.ff .p_field_formula).fd ["name", "formula", "required"] (spF [] K 3 (sem (n + 1) .p_field_formula)) := by
  refine fn_ok (n := 3) (nl := 1) (show Fun K "field_formula" "field_formula" s_p_field_formula (T.ff .p_field_formula).f (T.ff .p_field_formula).fd from (T.ff .p_field_formula).F) sc_p_field_formula rfl rfl (m := b_p_field_formula (sem n) (semN n)) (fun cdv A outer s H E hr => ?_)
  delta b_p_field_formula
  exact sb_cons (ss_set (i := 3) sc_p_field_formula.nd rfl (by first | exact Or.inl rfl | exact Or.inr rfl) (se_tup (sa_cons (se_str) (sa_cons (se_tup (sa_cons (se_ld (pv 0)) (sa_nil))) (sa_cons (se_ld (pv 1)) (sa_nil))))))
    (sb_cons (ss_if (st_tru (se_ld (pv 2))) (sb_one (ss_ret (se_ld (pv 3)))) (sb_nil))
    (sb_one (ss_ret (se_tup (sa_cons (se_str) (sa_cons (se_tup (sa_cons (se_ld (pv 3)) (sa_cons (se_tup (sa_cons (se_str) (sa_cons (se_tup (sa_cons (se_str) (sa_cons (se_tup (sa_cons (se_ld (pv 0)) (sa_nil))) (sa_cons (se_tup (sa_cons (se_str) (sa_nil))) (sa_nil))))) (sa_nil)))) (sa_nil)))) (sa_nil)))))))
theorem sc_p_fields_formula : FnScope ["rows", "others", "names", "row", "parts", "name", "formula", "required"] ["rows", "others"] (defScope s_p_fields_formula) := ⟨rfl, rfl, rfl, by decide +kernel, rfl, by decide +kernel, by decide +kernel⟩
theorem ok_p_fields_formula (T : Facts K mg w) (n : Nat)
    (G_p_field_formula : FnOk P w K mg base CX0 n (T.ff .p_field_formula).f (T.ff .p_field_formula).fd ["name", "formula", "required"] (spF [] K 3 (sem (n) .p_field_formula))) :
    FnOk P w K mg base CX0 (n + 1) (T.ff .p_fields_formula).f (T.ff .p_fields_formula).fd ["rows", "others"] (spF [] K 2 (sem (n + 1) .p_fields_formula)) := by
  refine fn_ok (n := 2) (nl := 6) (show Fun K "fields_formula" "fields_formula" s_p_fields_formula (T.ff .p_fields_formula).f (T.ff .p_fields_formula).fd from (T.ff .p_fields_formula).F) sc_p_fields_formula rfl rfl (m := b_p_fields_formula (sem n) (semN n)) (fun cdv A outer s H E hr => ?_)
  delta b_p_fields_formula
  exact sb_cons (ss_set (i := 2) sc_p_fields_formula.nd rfl (by first | exact Or.inl rfl | exact Or.inr rfl) (se_callTy cg_tuple rfl T.n_tuple bo_tuple (sa_cons (se_lc (own := [("row", 3)]) rfl sc_p_fields_formula.nd (si_val (se_ld (pv 0))) (blkOk_by (own := [("row", 3)]) (N := ["rows", "others", "names", "row", "parts", "name", "formula", "required"]) (sc := defScope s_p_fields_formula) (by decide +kernel)) (fun _ _ _ _ _ => sgw_name (pg_name (i := 3) sc_p_fields_formula.nd rfl (by first | exact Or.inl rfl | exact Or.inr rfl)) (by decide)) (fun _ _ _ _ _ => sq_nil) (fun _ _ _ _ _ => se_ix (se_ld (pv 3)) (se_int) (fun _ _ => rfl))) (sa_nil))))
    (sb_cons (ss_setO (i := 4) sc_p_fields_formula.nd rfl (by first | exact Or.inl rfl | exact Or.inr rfl) (sa_cons (se_tup (sa_cons (se_str) (sa_cons (se_ld (pv 2)) (sa_cons (se_ld (pv 1)) (sa_nil))))) (sa_nil)))
    (sb_cons (ss_ext (pv 4) (se_lc (own := [("name", 5), ("formula", 6), ("required", 7)]) rfl sc_p_fields_formula.nd (si_val (se_ld (pv 0))) (blkOk_by (own := [("name", 5), ("formula", 6), ("required", 7)]) (N := ["rows", "others", "names", "row", "parts", "name", "formula", "required"]) (sc := defScope s_p_fields_formula) (by decide +kernel)) (fun _ _ _ _ _ => sgw_tup rfl (sgws_cons (sgw_name (pg_name (i := 5) sc_p_fields_formula.nd rfl (by first | exact Or.inl rfl | exact Or.inr rfl)) (by decide)) (sgws_cons (sgw_name (pg_name (i := 6) sc_p_fields_formula.nd rfl (by first | exact Or.inl rfl | exact Or.inr rfl)) (by decide)) (sgws_cons (sgw_name (pg_name (i := 7) sc_p_fields_formula.nd rfl (by first | exact Or.inl rfl | exact Or.inr rfl)) (by decide)) (sgws_nil))))) (fun _ _ _ _ _ => sq_nil) (fun _ _ _ _ _ => se_call (CX := CX0) G_p_field_formula hr rfl (T.ff .p_field_formula).m (T.ff .p_field_formula).F.kp (T.ff .p_field_formula).b (sr_v (se_ld (pv 5)) (sr_v (se_ld (pv 6)) (sr_v (se_ld (pv 7)) (sr_nil)))))))
    (sb_one (ss_ret (se_tup (sa_cons (se_str) (sa_cons (se_tupleO (pv 4) rfl T.n_tuple bo_tuple) (sa_nil))))))))
theorem sc_p_equal_formula : FnScope ["value", "kind", "item", "rows", "name", "part"] ["value"] (defScope s_p_equal_formula) := ⟨rfl, rfl, rfl, by decide +kernel, rfl, by decide +kernel, by decide +kernel⟩
theorem ok_p_equal_formula (T : Facts K mg w) (n : Nat)
    (G_p_bounded_formula : FnOk P w K mg base CX0 n (T.ff .p_bounded_formula).f (T.ff .p_bounded_formula).fd ["kind", "word", "low", "high"] (spF [] K 4 (sem (n) .p_bounded_formula)))
    (G_p_items_formula : FnOk P w K mg base CX0 n (T.ff .p_items_formula).f (T.ff .p_items_formula).fd ["formulas"] (spF [] K 1 (sem (n) .p_items_formula)))
    (G_p_fields_formula : FnOk P w K mg base CX0 n (T.ff .p_fields_formula).f (T.ff .p_fields_formula).fd ["rows", "others"] (spF [] K 2 (sem (n) .p_fields_formula)))
    (G_p_equal_formula : FnOk P w K mg base CX0 n (T.ff .p_equal_formula).f (T.ff .p_equal_formula).fd ["value"] (spF [] K 1 (sem (n) .p_equal_formula))) :
    FnOk P w K mg base CX0 (n + 1) (T.ff .p_equal_formula).f (T.ff .p_equal_formula).fd ["value"] (spF [] K 1 (sem (n + 1) .p_equal_formula)) := by
  refine fn_ok (n := 1) (nl := 5) (show Fun K "equal_formula" "equal_formula" s_p_equal_formula (T.ff .p_equal_formula).f (T.ff .p_equal_formula).fd from (T.ff .p_equal_formula).F) sc_p_equal_formula rfl rfl (m := b_p_equal_formula (sem n) (semN n)) (fun cdv A outer s H E hr => ?_)
  delta b_p_equal_formula
  exact sb_cons (ss_set (i := 1) sc_p_equal_formula.nd rfl (by first | exact Or.inl rfl | exact Or.inr rfl) (se_ix (se_ld (pv 0)) (se_int) (fun _ _ => rfl)))
    (sb_cons (ss_if (st_cmp (opg_eq (hu200 hr)) (se_ld (pv 1)) (se_str) (nomark _)) (sb_one (ss_ret (se_tup (sa_cons (se_str) (sa_cons (se_str) (sa_nil)))))) (sb_nil))
    (sb_cons (ss_if (st_cmp (opg_eq (hu200 hr)) (se_ld (pv 1)) (se_str) (nomark _)) (sb_one (ss_ret (se_tup (sa_cons (se_str) (sa_cons (se_ix (se_ld (pv 0)) (se_int) (fun _ _ => rfl)) (sa_nil)))))) (sb_nil))
    (sb_cons (ss_if (st_cmp (opg_eq (hu200 hr)) (se_ld (pv 1)) (se_str) (nomark _)) (sb_one (ss_ret (se_call (CX := CX0) G_p_bounded_formula hr rfl (T.ff .p_bounded_formula).m (T.ff .p_bounded_formula).F.kp (T.ff .p_bounded_formula).b (sr_v (se_str) (sr_v (se_str) (sr_v (se_ix (se_ld (pv 0)) (se_int) (fun _ _ => rfl)) (sr_v (se_ix (se_ld (pv 0)) (se_int) (fun _ _ => rfl)) (sr_nil)))))))) (sb_nil))
    (sb_cons (ss_if (st_cmp (opg_eq (hu200 hr)) (se_ld (pv 1)) (se_str) (nomark _)) (sb_one (ss_ret (se_tup (sa_cons (se_str) (sa_cons (se_ix (se_ld (pv 0)) (se_int) (fun _ _ => rfl)) (sa_nil)))))) (sb_nil))
    (sb_cons (ss_if (st_cmp (opg_eq (hu200 hr)) (se_ld (pv 1)) (se_str) (nomark _)) (sb_one (ss_ret (se_call (CX := CX0) G_p_items_formula hr rfl (T.ff .p_items_formula).m (T.ff .p_items_formula).F.kp (T.ff .p_items_formula).b (sr_v (se_lc (own := [("item", 2)]) rfl sc_p_equal_formula.nd (si_val (se_ix (se_ld (pv 0)) (se_int) (fun _ _ => rfl))) (blkOk_by (own := [("item", 2)]) (N := ["value", "kind", "item", "rows", "name", "part"]) (sc := defScope s_p_equal_formula) (by decide +kernel)) (fun _ _ _ _ _ => sgw_name (pg_name (i := 2) sc_p_equal_formula.nd rfl (by first | exact Or.inl rfl | exact Or.inr rfl)) (by decide)) (fun _ _ _ _ _ => sq_nil) (fun _ _ _ _ _ => se_call (CX := CX0) G_p_equal_formula hr rfl (T.ff .p_equal_formula).m (T.ff .p_equal_formula).F.kp (T.ff .p_equal_formula).b (sr_v (se_ld (pv 2)) (sr_nil)))) (sr_nil))))) (sb_nil))
    (sb_cons (ss_setLc (i := 3) (own := [("name", 4), ("part", 5)]) rfl sc_p_equal_formula.nd rfl rfl (sw_true rfl rfl rfl (by decide +kernel)) (si_val (se_ix (se_ld (pv 0)) (se_int) (fun _ _ => rfl))) (blkOk_by (own := [("name", 4), ("part", 5)]) (N := ["value", "kind", "item", "rows", "name", "part"]) (sc := defScope s_p_equal_formula) (by decide +kernel)) (fun _ _ _ _ _ => sgw_tup rfl (sgws_cons (sgw_name (pg_name (i := 4) sc_p_equal_formula.nd rfl (by first | exact Or.inl rfl | exact Or.inr rfl)) (by decide)) (sgws_cons (sgw_name (pg_name (i := 5) sc_p_equal_formula.nd rfl (by first | exact Or.inl rfl | exact Or.inr rfl)) (by decide)) (sgws_nil)))) (fun _ _ _ _ _ => sq_nil) (fun _ _ _ _ _ => se_tup (sa_cons (se_ld (pv 4)) (sa_cons (se_call (CX := CX0) G_p_equal_formula hr rfl (T.ff .p_equal_formula).m (T.ff .p_equal_formula).F.kp (T.ff .p_equal_formula).b (sr_v (se_ld (pv 5)) (sr_nil))) (sa_cons (se_bl) (sa_nil))))))
    (sb_one (ss_ret (se_call (CX := CX0) G_p_fields_formula hr rfl (T.ff .p_fields_formula).m (T.ff .p_fields_formula).F.kp (T.ff .p_fields_formula).b (sr_v (se_ld (pv 3)) (sr_v (se_tup (sa_cons (se_str) (sa_nil))) (sr_nil))))))))))))
theorem sc_l_child : FnScope ["value", "token", "field"] ["value", "token"] (defScope s_l_child) := ⟨rfl, rfl, rfl, by decide +kernel, rfl, by decide +kernel, by decide +kernel⟩
theorem ok_l_child (T : Facts K mg w) (n : Nat) :
    FnOk P w K mg base CX0 (n + 1) (T.ff .l_child).f (T.ff .l_child).fd ["value", "token"] (spF [] K 2 (sem (n + 1) .l_child)) := by
  refine fn_ok (n := 2) (nl := 1) (show Fun K "_law_child" "_law_child" s_l_child (T.ff .l_child).f (T.ff .l_child).fd from (T.ff .l_child).F) sc_l_child rfl rfl (m := b_l_child (sem n) (semN n)) (fun cdv A outer s H E hr => ?_)
  delta b_l_child
  exact sb_cons (ss_if (PW.pt (sw_and (st_cmp (opg_eq (hu200 hr)) (se_ix (se_ld (pv 0)) (se_int) (fun _ _ => rfl)) (se_str) (nomark _)) (sw_and1 (st_tru (se_isi (T := "int") (se_ld (pv 1)) rfl T.n_isinstance rfl T.n_int bo_int))))) (sb_one (ss_if (PW.pt (sw_and (st_cmp opg_le (se_int) (se_ld (pv 1)) (nomark _)) (sw_and1 (st_cmp opg_lt (se_ld (pv 1)) (se_callB cg_len rfl T.n_len bo_len (sa_cons (se_ix (se_ld (pv 0)) (se_int) (fun _ _ => rfl)) (sa_nil))) (nomark _))))) (sb_one (ss_ret (se_ix (se_ix (se_ld (pv 0)) (se_int) (fun _ _ => rfl)) (se_ld (pv 1)) (fun _ _ => rfl)))) (sb_nil))) (sb_nil))
    (sb_cons (ss_if (PW.pt (sw_and (st_cmp (opg_eq (hu200 hr)) (se_ix (se_ld (pv 0)) (se_int) (fun _ _ => rfl)) (se_str) (nomark _)) (sw_and1 (st_tru (se_isi (T := "str") (se_ld (pv 1)) rfl T.n_isinstance rfl T.n_str bo_str))))) (sb_one (ss_for PassesOwn.never rfl (si_val (se_ix (se_ld (pv 0)) (se_int) (fun _ _ => rfl))) (sg_name (pg_name (i := 2) sc_l_child.nd rfl (by first | exact Or.inl rfl | exact Or.inr rfl))) (sb_one (ss_if (st_cmp (opg_eq (hu200 hr)) (se_ix (se_ld (pv 2)) (se_int) (fun _ _ => rfl)) (se_ld (pv 1)) (nomark _)) (sb_one (ss_ret (se_ix (se_ld (pv 2)) (se_int) (fun _ _ => rfl)))) (sb_nil))))) (sb_nil))
    (sb_one (ss_ret (se_non))))
theorem sc_l_lookup : FnScope ["value", "path", "token"] ["value", "path"] (defScope s_l_lookup) := ⟨rfl, rfl, rfl, by decide +kernel, rfl, by decide +kernel, by decide +kernel⟩
theorem ok_l_lookup (T : Facts K mg w) (n : Nat)
    (G_l_child : FnOk P w K mg base CX0 n (T.ff .l_child).f (T.ff .l_child).fd ["value", "token"] (spF [] K 2 (sem (n) .l_child))) :
    FnOk P w K mg base CX0 (n + 1) (T.ff .l_lookup).f (T.ff .l_lookup).fd ["value", "path"] (spF [] K 2 (sem (n + 1) .l_lookup)) := by
  refine fn_ok (n := 2) (nl := 1) (show Fun K "_law_lookup" "_law_lookup" s_l_lookup (T.ff .l_lookup).f (T.ff .l_lookup).fd from (T.ff .l_lookup).F) sc_l_lookup rfl rfl (m := b_l_lookup (sem n) (semN n)) (fun cdv A outer s H E hr => ?_)
  delta b_l_lookup
  exact sb_cons (ss_for PassesOwn.never rfl (si_val (se_ld (pv 1))) (sg_name (pg_name (i := 2) sc_l_lookup.nd rfl (by first | exact Or.inl rfl | exact Or.inr rfl))) (sb_one (ss_if (st_cmp opg_isNot (se_ld (pv 0)) (se_non) (nomark _)) (sb_one (ss_set (i := 0) sc_l_lookup.nd rfl (by first | exact Or.inl rfl | exact Or.inr rfl) (se_call (CX := CX0) G_l_child hr rfl (T.ff .l_child).m (T.ff .l_child).F.kp (T.ff .l_child).b (sr_v (se_ld (pv 0)) (sr_v (se_ld (pv 2)) (sr_nil)))))) (sb_nil))))
    (sb_one (ss_ret (se_ld (pv 0))))
theorem sc_l_with : FnScope ["value", "token", "new", "smaller", "field", "greater"] ["value", "token", "new"] (defScope s_l_with) := ⟨rfl, rfl, rfl, by decide +kernel, rfl, by decide +kernel, by decide +kernel⟩
theorem ok_l_with (T : Facts K mg w) (n : Nat) :
    FnOk P w K mg base CX0 (n + 1) (T.ff .l_with).f (T.ff .l_with).fd ["value", "token", "new"] (spF [] K 3 (sem (n + 1) .l_with)) := by
  refine fn_ok (n := 3) (nl := 3) (show Fun K "_law_with" "_law_with" s_l_with (T.ff .l_with).f (T.ff .l_with).fd from (T.ff .l_with).F) sc_l_with rfl rfl (m := b_l_with (sem n) (semN n)) (fun cdv A outer s H E hr => ?_)
  delta b_l_with
  exact sb_cons (ss_if (st_cmp (opg_eq (hu200 hr)) (se_ix (se_ld (pv 0)) (se_int) (fun _ _ => rfl)) (se_str) (nomark _)) (sb_one (ss_ret (se_tup (sa_cons (se_str) (sa_cons (se_bin opg_add (se_bin opg_add (se_slice (se_ix (se_ld (pv 0)) (se_int) (fun _ _ => rfl)) (so_none) (so_some (se_ld (pv 1)))) (se_tup (sa_cons (se_ld (pv 2)) (sa_nil)))) (se_slice (se_ix (se_ld (pv 0)) (se_int) (fun _ _ => rfl)) (so_some (se_bin opg_add (se_ld (pv 1)) (se_int))) (so_none))) (sa_nil)))))) (sb_nil))
    (sb_cons (ss_setLc (i := 3) (own := [("field", 4)]) rfl sc_l_with.nd rfl rfl (sw_true rfl rfl rfl (by decide +kernel)) (si_val (se_ix (se_ld (pv 0)) (se_int) (fun _ _ => rfl))) (blkOk_by (own := [("field", 4)]) (N := ["value", "token", "new", "smaller", "field", "greater"]) (sc := defScope s_l_with) (by decide +kernel)) (fun _ _ _ _ _ => sgw_name (pg_name (i := 4) sc_l_with.nd rfl (by first | exact Or.inl rfl | exact Or.inr rfl)) (by decide)) (fun _ _ _ _ _ => sq_one (st_cmp opg_lt (se_ix (se_ld (pv 4)) (se_int) (fun _ _ => rfl)) (se_ld (pv 1)) (nomark _))) (fun _ _ _ _ _ => se_ld (pv 4)))
    (sb_cons (ss_setLc (i := 5) (own := [("field", 4)]) rfl sc_l_with.nd rfl rfl (sw_true rfl rfl rfl (by decide +kernel)) (si_val (se_ix (se_ld (pv 0)) (se_int) (fun _ _ => rfl))) (blkOk_by (own := [("field", 4)]) (N := ["value", "token", "new", "smaller", "field", "greater"]) (sc := defScope s_l_with) (by decide +kernel)) (fun _ _ _ _ _ => sgw_name (pg_name (i := 4) sc_l_with.nd rfl (by first | exact Or.inl rfl | exact Or.inr rfl)) (by decide)) (fun _ _ _ _ _ => sq_one (st_cmp opg_gt (se_ix (se_ld (pv 4)) (se_int) (fun _ _ => rfl)) (se_ld (pv 1)) (nomark _))) (fun _ _ _ _ _ => se_ld (pv 4)))
    (sb_one (ss_ret (se_tup (sa_cons (se_str) (sa_cons (se_bin opg_add (se_bin opg_add (se_callTy cg_tuple rfl T.n_tuple bo_tuple (sa_cons (se_ld (pv 3)) (sa_nil))) (se_tup (sa_cons (se_tup (sa_cons (se_ld (pv 1)) (sa_cons (se_ld (pv 2)) (sa_nil)))) (sa_nil)))) (se_callTy cg_tuple rfl T.n_tuple bo_tuple (sa_cons (se_ld (pv 5)) (sa_nil)))) (sa_nil))))))))
theorem sc_l_replace : FnScope ["value", "path", "new", "child", "inner"] ["value", "path", "new"] (defScope s_l_replace) := ⟨rfl, rfl, rfl, by decide +kernel, rfl, by decide +kernel, by decide +kernel⟩
theorem ok_l_replace (T : Facts K mg w) (n : Nat)
    (G_l_child : FnOk P w K mg base CX0 n (T.ff .l_child).f (T.ff .l_child).fd ["value", "token"] (spF [] K 2 (sem (n) .l_child)))
    (G_l_with : FnOk P w K mg base CX0 n (T.ff .l_with).f (T.ff .l_with).fd ["value", "token", "new"] (spF [] K 3 (sem (n) .l_with)))
    (G_l_replace : FnOk P w K mg base CX0 n (T.ff .l_replace).f (T.ff .l_replace).fd ["value", "path", "new"] (spF [] K 3 (sem (n) .l_replace))) :
    FnOk P w K mg base CX0 (n + 1) (T.ff .l_replace).f (T.ff .l_replace).fd ["value", "path", "new"] (spF [] K 3 (sem (n + 1) .l_replace)) := by
  refine fn_ok (n := 3) (nl := 2) (show Fun K "_law_replace" "_law_replace" s_l_replace (T.ff .l_replace).f (T.ff .l_replace).fd from (T.ff .l_replace).F) sc_l_replace rfl rfl (m := b_l_replace (sem n) (semN n)) (fun cdv A outer s H E hr => ?_)
  delta b_l_replace
  exact sb_cons (ss_if (st_cmp (opg_eq (hu200 hr)) (se_callB cg_len rfl T.n_len bo_len (sa_cons (se_ld (pv 1)) (sa_nil))) (se_int) (nomark _)) (sb_one (ss_ret (se_ld (pv 2)))) (sb_nil))
    (sb_cons (ss_set (i := 3) sc_l_replace.nd rfl (by first | exact Or.inl rfl | exact Or.inr rfl) (se_call (CX := CX0) G_l_child hr rfl (T.ff .l_child).m (T.ff .l_child).F.kp (T.ff .l_child).b (sr_v (se_ld (pv 0)) (sr_v (se_ix (se_ld (pv 1)) (se_int) (fun _ _ => rfl)) (sr_nil)))))
    (sb_cons (ss_if (st_cmp opg_is (se_ld (pv 3)) (se_non) (nomark _)) (sb_one (ss_ret (se_non))) (sb_nil))
    (sb_cons (ss_set (i := 4) sc_l_replace.nd rfl (by first | exact Or.inl rfl | exact Or.inr rfl) (se_call (CX := CX0) G_l_replace hr rfl (T.ff .l_replace).m (T.ff .l_replace).F.kp (T.ff .l_replace).b (sr_v (se_ld (pv 3)) (sr_v (se_slice (se_ld (pv 1)) (so_some (se_int)) (so_none)) (sr_v (se_ld (pv 2)) (sr_nil))))))
    (sb_cons (ss_if (st_cmp opg_is (se_ld (pv 4)) (se_non) (nomark _)) (sb_one (ss_ret (se_non))) (sb_nil))
    (sb_one (ss_ret (se_call (CX := CX0) G_l_with hr rfl (T.ff .l_with).m (T.ff .l_with).F.kp (T.ff .l_with).b (sr_v (se_ld (pv 0)) (sr_v (se_ix (se_ld (pv 1)) (se_int) (fun _ _ => rfl)) (sr_v (se_ld (pv 4)) (sr_nil)))))))))))
theorem sc_l_put : FnScope ["value", "path", "new", "parent", "token", "made", "index"] ["value", "path", "new"] (defScope s_l_put) := ⟨rfl, rfl, rfl, by decide +kernel, rfl, by decide +kernel, by decide +kernel⟩
theorem ok_l_put (T : Facts K mg w) (n : Nat)
    (G_l_lookup : FnOk P w K mg base CX0 n (T.ff .l_lookup).f (T.ff .l_lookup).fd ["value", "path"] (spF [] K 2 (sem (n) .l_lookup)))
    (G_l_with : FnOk P w K mg base CX0 n (T.ff .l_with).f (T.ff .l_with).fd ["value", "token", "new"] (spF [] K 3 (sem (n) .l_with)))
    (G_l_replace : FnOk P w K mg base CX0 n (T.ff .l_replace).f (T.ff .l_replace).fd ["value", "path", "new"] (spF [] K 3 (sem (n) .l_replace))) :
    FnOk P w K mg base CX0 (n + 1) (T.ff .l_put).f (T.ff .l_put).fd ["value", "path", "new"] (spF [] K 3 (sem (n + 1) .l_put)) := by
  refine fn_ok (n := 3) (nl := 4) (show Fun K "_law_put" "_law_put" s_l_put (T.ff .l_put).f (T.ff .l_put).fd from (T.ff .l_put).F) sc_l_put rfl rfl (m := b_l_put (sem n) (semN n)) (fun cdv A outer s H E hr => ?_)
  delta b_l_put
  exact sb_cons (ss_if (st_cmp (opg_eq (hu200 hr)) (se_callB cg_len rfl T.n_len bo_len (sa_cons (se_ld (pv 1)) (sa_nil))) (se_int) (nomark _)) (sb_one (ss_ret (se_ld (pv 2)))) (sb_nil))
    (sb_cons (ss_set (i := 3) sc_l_put.nd rfl (by first | exact Or.inl rfl | exact Or.inr rfl) (se_call (CX := CX0) G_l_lookup hr rfl (T.ff .l_lookup).m (T.ff .l_lookup).F.kp (T.ff .l_lookup).b (sr_v (se_ld (pv 0)) (sr_v (se_slice (se_ld (pv 1)) (so_none) (so_some (se_un ung_neg (se_int)))) (sr_nil)))))
    (sb_cons (ss_if (st_cmp opg_is (se_ld (pv 3)) (se_non) (nomark _)) (sb_one (ss_ret (se_non))) (sb_nil))
    (sb_cons (ss_set (i := 4) sc_l_put.nd rfl (by first | exact Or.inl rfl | exact Or.inr rfl) (se_ix (se_ld (pv 1)) (se_un ung_neg (se_int)) (fun _ _ => rfl)))
    (sb_cons (ss_set (i := 5) sc_l_put.nd rfl (by first | exact Or.inl rfl | exact Or.inr rfl) (se_non))
    (sb_cons (ss_if (PW.pt (sw_and (st_cmp (opg_eq (hu200 hr)) (se_ix (se_ld (pv 3)) (se_int) (fun _ _ => rfl)) (se_str) (nomark _)) (sw_and1 (st_tru (se_isi (T := "str") (se_ld (pv 4)) rfl T.n_isinstance rfl T.n_str bo_str))))) (sb_one (ss_set (i := 5) sc_l_put.nd rfl (by first | exact Or.inl rfl | exact Or.inr rfl) (se_call (CX := CX0) G_l_with hr rfl (T.ff .l_with).m (T.ff .l_with).F.kp (T.ff .l_with).b (sr_v (se_ld (pv 3)) (sr_v (se_ld (pv 4)) (sr_v (se_ld (pv 2)) (sr_nil))))))) (sb_nil))
    (sb_cons (ss_if (PW.pt (sw_and (st_cmp (opg_eq (hu200 hr)) (se_ix (se_ld (pv 3)) (se_int) (fun _ _ => rfl)) (se_str) (nomark _)) (sw_and (st_tru (se_isi (T := "int") (se_ld (pv 4)) rfl T.n_isinstance rfl T.n_int bo_int)) (sw_and1 (st_cmp opg_le (se_ld (pv 4)) (se_callB cg_len rfl T.n_len bo_len (sa_cons (se_ix (se_ld (pv 3)) (se_int) (fun _ _ => rfl)) (sa_nil))) (nomark _)))))) (sb_cons (ss_set (i := 6) sc_l_put.nd rfl (by first | exact Or.inl rfl | exact Or.inr rfl) (se_ld (pv 4)))
    (sb_cons (ss_if (st_cmp (opg_eq (hu200 hr)) (se_ld (pv 4)) (se_un ung_neg (se_int)) (nomark _)) (sb_one (ss_set (i := 6) sc_l_put.nd rfl (by first | exact Or.inl rfl | exact Or.inr rfl) (se_callB cg_len rfl T.n_len bo_len (sa_cons (se_ix (se_ld (pv 3)) (se_int) (fun _ _ => rfl)) (sa_nil))))) (sb_nil))
    (sb_one (ss_set (i := 5) sc_l_put.nd rfl (by first | exact Or.inl rfl | exact Or.inr rfl) (se_tup (sa_cons (se_str) (sa_cons (se_bin opg_add (se_bin opg_add (se_slice (se_ix (se_ld (pv 3)) (se_int) (fun _ _ => rfl)) (so_none) (so_some (se_ld (pv 6)))) (se_tup (sa_cons (se_ld (pv 2)) (sa_nil)))) (se_slice (se_ix (se_ld (pv 3)) (se_int) (fun _ _ => rfl)) (so_some (se_ld (pv 6))) (so_none))) (sa_nil)))))))) (sb_nil))
    (sb_cons (ss_if (st_cmp opg_is (se_ld (pv 5)) (se_non) (nomark _)) (sb_one (ss_ret (se_non))) (sb_nil))
    (sb_one (ss_ret (se_call (CX := CX0) G_l_replace hr rfl (T.ff .l_replace).m (T.ff .l_replace).F.kp (T.ff .l_replace).b (sr_v (se_ld (pv 0)) (sr_v (se_slice (se_ld (pv 1)) (so_none) (so_some (se_un ung_neg (se_int)))) (sr_v (se_ld (pv 5)) (sr_nil))))))))))))))
theorem sc_l_take : FnScope ["value", "path", "parent", "token", "made", "field"] ["value", "path"] (defScope s_l_take) := ⟨rfl, rfl, rfl, by decide +kernel, rfl, by decide +kernel, by decide +kernel⟩
theorem ok_l_take (T : Facts K mg w) (n : Nat)
    (G_l_lookup : FnOk P w K mg base CX0 n (T.ff .l_lookup).f (T.ff .l_lookup).fd ["value", "path"] (spF [] K 2 (sem (n) .l_lookup)))
    (G_l_replace : FnOk P w K mg base CX0 n (T.ff .l_replace).f (T.ff .l_replace).fd ["value", "path", "new"] (spF [] K 3 (sem (n) .l_replace))) :
    FnOk P w K mg base CX0 (n + 1) (T.ff .l_take).f (T.ff .l_take).fd ["value", "path"] (spF [] K 2 (sem (n + 1) .l_take)) := by
  refine fn_ok (n := 2) (nl := 4) (show Fun K "_law_take" "_law_take" s_l_take (T.ff .l_take).f (T.ff .l_take).fd from (T.ff .l_take).F) sc_l_take rfl rfl (m := b_l_take (sem n) (semN n)) (fun cdv A outer s H E hr => ?_)
  delta b_l_take
  exact sb_cons (ss_if (PW.pt (sw_or (st_cmp (opg_eq (hu200 hr)) (se_callB cg_len rfl T.n_len bo_len (sa_cons (se_ld (pv 1)) (sa_nil))) (se_int) (nomark _)) (sw_or1 (st_cmp opg_is (se_call (CX := CX0) G_l_lookup hr rfl (T.ff .l_lookup).m (T.ff .l_lookup).F.kp (T.ff .l_lookup).b (sr_v (se_ld (pv 0)) (sr_v (se_ld (pv 1)) (sr_nil)))) (se_non) (nomark _))))) (sb_one (ss_ret (se_non))) (sb_nil))
    (sb_cons (ss_set (i := 2) sc_l_take.nd rfl (by first | exact Or.inl rfl | exact Or.inr rfl) (se_call (CX := CX0) G_l_lookup hr rfl (T.ff .l_lookup).m (T.ff .l_lookup).F.kp (T.ff .l_lookup).b (sr_v (se_ld (pv 0)) (sr_v (se_slice (se_ld (pv 1)) (so_none) (so_some (se_un ung_neg (se_int)))) (sr_nil)))))
    (sb_cons (ss_set (i := 3) sc_l_take.nd rfl (by first | exact Or.inl rfl | exact Or.inr rfl) (se_ix (se_ld (pv 1)) (se_un ung_neg (se_int)) (fun _ _ => rfl)))
    (sb_cons (ss_if (st_cmp (opg_eq (hu200 hr)) (se_ix (se_ld (pv 2)) (se_int) (fun _ _ => rfl)) (se_str) (nomark _)) (sb_one (ss_set (i := 4) sc_l_take.nd rfl (by first | exact Or.inl rfl | exact Or.inr rfl) (se_tup (sa_cons (se_str) (sa_cons (se_bin opg_add (se_slice (se_ix (se_ld (pv 2)) (se_int) (fun _ _ => rfl)) (so_none) (so_some (se_ld (pv 3)))) (se_slice (se_ix (se_ld (pv 2)) (se_int) (fun _ _ => rfl)) (so_some (se_bin opg_add (se_ld (pv 3)) (se_int))) (so_none))) (sa_nil)))))) (sb_one (ss_set (i := 4) sc_l_take.nd rfl (by first | exact Or.inl rfl | exact Or.inr rfl) (se_tup (sa_cons (se_str) (sa_cons (se_callTy cg_tuple rfl T.n_tuple bo_tuple (sa_cons (se_lc (own := [("field", 5)]) rfl sc_l_take.nd (si_val (se_ix (se_ld (pv 2)) (se_int) (fun _ _ => rfl))) (blkOk_by (own := [("field", 5)]) (N := ["value", "path", "parent", "token", "made", "field"]) (sc := defScope s_l_take) (by decide +kernel)) (fun _ _ _ _ _ => sgw_name (pg_name (i := 5) sc_l_take.nd rfl (by first | exact Or.inl rfl | exact Or.inr rfl)) (by decide)) (fun _ _ _ _ _ => sq_one (st_cmp (opg_ne (hu200 hr)) (se_ix (se_ld (pv 5)) (se_int) (fun _ _ => rfl)) (se_ld (pv 3)) (nomark _))) (fun _ _ _ _ _ => se_ld (pv 5))) (sa_nil))) (sa_nil)))))))
    (sb_one (ss_ret (se_call (CX := CX0) G_l_replace hr rfl (T.ff .l_replace).m (T.ff .l_replace).F.kp (T.ff .l_replace).b (sr_v (se_ld (pv 0)) (sr_v (se_slice (se_ld (pv 1)) (so_none) (so_some (se_un ung_neg (se_int)))) (sr_v (se_ld (pv 4)) (sr_nil))))))))))
theorem sc_l_holds : FnScope ["formula", "value", "held", "word", "part", "place", "item", "field"] ["formula", "value", "held"] (defScope s_l_holds) := ⟨rfl, rfl, rfl, by decide +kernel, rfl, by decide +kernel, by decide +kernel⟩
theorem ok_l_holds (T : Facts K mg w) (n : Nat)
    (G_l_lookup : FnOk P w K mg base CX0 n (T.ff .l_lookup).f (T.ff .l_lookup).fd ["value", "path"] (spF [] K 2 (sem (n) .l_lookup)))
    (G_l_holds : FnOk P w K mg base CX0 n (T.ff .l_holds).f (T.ff .l_holds).fd ["formula", "value", "held"] (spF [] K 3 (sem (n) .l_holds))) :
    FnOk P w K mg base CX0 (n + 1) (T.ff .l_holds).f (T.ff .l_holds).fd ["formula", "value", "held"] (spF [] K 3 (sem (n + 1) .l_holds)) := by
  refine fn_ok (n := 3) (nl := 5) (show Fun K "_law_holds" "_law_holds" s_l_holds (T.ff .l_holds).f (T.ff .l_holds).fd from (T.ff .l_holds).F) sc_l_holds rfl rfl (m := b_l_holds (sem n) (semN n)) (fun cdv A outer s H E hr => ?_)
  delta b_l_holds
  exact sb_cons (ss_set (i := 3) sc_l_holds.nd rfl (by first | exact Or.inl rfl | exact Or.inr rfl) (se_ix (se_ld (pv 0)) (se_int) (fun _ _ => rfl)))
    (sb_cons (ss_if (PW.pt (sw_or (st_cmp (opg_eq (hu200 hr)) (se_ld (pv 3)) (se_str) (nomark _)) (sw_or1 (st_cmp (opg_eq (hu200 hr)) (se_ld (pv 3)) (se_str) (nomark _))))) (sb_one (ss_ret (se_cmp (opg_eq (hu200 hr)) (se_ld (pv 3)) (se_str) (nomark _)))) (sb_nil))
    (sb_cons (ss_if (st_cmp (opg_eq (hu200 hr)) (se_ld (pv 3)) (se_str) (nomark _)) (sb_one (ss_ret (se_not (se_call (CX := CX0) G_l_holds hr rfl (T.ff .l_holds).m (T.ff .l_holds).F.kp (T.ff .l_holds).b (sr_v (se_ix (se_ld (pv 0)) (se_int) (fun _ _ => rfl)) (sr_v (se_ld (pv 1)) (sr_v (se_ld (pv 2)) (sr_nil)))))))) (sb_nil))
    (sb_cons (ss_if (st_cmp (opg_eq (hu200 hr)) (se_ld (pv 3)) (se_str) (nomark _)) (sb_one (ss_ret (se_callB (cg_all rfl) rfl T.n_all bo_all (sa_cons (se_lc (own := [("part", 4)]) rfl sc_l_holds.nd (si_val (se_ix (se_ld (pv 0)) (se_int) (fun _ _ => rfl))) (blkOk_by (own := [("part", 4)]) (N := ["formula", "value", "held", "word", "part", "place", "item", "field"]) (sc := defScope s_l_holds) (by decide +kernel)) (fun _ _ _ _ _ => sgw_name (pg_name (i := 4) sc_l_holds.nd rfl (by first | exact Or.inl rfl | exact Or.inr rfl)) (by decide)) (fun _ _ _ _ _ => sq_nil) (fun _ _ _ _ _ => se_call (CX := CX0) G_l_holds hr rfl (T.ff .l_holds).m (T.ff .l_holds).F.kp (T.ff .l_holds).b (sr_v (se_ld (pv 4)) (sr_v (se_ld (pv 1)) (sr_v (se_ld (pv 2)) (sr_nil)))))) (sa_nil))))) (sb_nil))
    (sb_cons (ss_if (st_cmp (opg_eq (hu200 hr)) (se_ld (pv 3)) (se_str) (nomark _)) (sb_one (ss_ret (se_callB (cg_any rfl) rfl T.n_any bo_any (sa_cons (se_lc (own := [("part", 4)]) rfl sc_l_holds.nd (si_val (se_ix (se_ld (pv 0)) (se_int) (fun _ _ => rfl))) (blkOk_by (own := [("part", 4)]) (N := ["formula", "value", "held", "word", "part", "place", "item", "field"]) (sc := defScope s_l_holds) (by decide +kernel)) (fun _ _ _ _ _ => sgw_name (pg_name (i := 4) sc_l_holds.nd rfl (by first | exact Or.inl rfl | exact Or.inr rfl)) (by decide)) (fun _ _ _ _ _ => sq_nil) (fun _ _ _ _ _ => se_call (CX := CX0) G_l_holds hr rfl (T.ff .l_holds).m (T.ff .l_holds).F.kp (T.ff .l_holds).b (sr_v (se_ld (pv 4)) (sr_v (se_ld (pv 1)) (sr_v (se_ld (pv 2)) (sr_nil)))))) (sa_nil))))) (sb_nil))
    (sb_cons (ss_if (st_cmp (opg_eq (hu200 hr)) (se_ld (pv 3)) (se_str) (nomark _)) (sb_one (ss_ret (se_call (CX := CX0) G_l_holds hr rfl (T.ff .l_holds).m (T.ff .l_holds).F.kp (T.ff .l_holds).b (sr_v (se_ix (se_ld (pv 0)) (se_int) (fun _ _ => rfl)) (sr_v (se_ld (pv 2)) (sr_v (se_non) (sr_nil))))))) (sb_nil))
    (sb_cons (ss_if (st_cmp (opg_eq (hu200 hr)) (se_ld (pv 3)) (se_str) (nomark _)) (sb_cons (ss_set (i := 5) sc_l_holds.nd rfl (by first | exact Or.inl rfl | exact Or.inr rfl) (se_call (CX := CX0) G_l_lookup hr rfl (T.ff .l_lookup).m (T.ff .l_lookup).F.kp (T.ff .l_lookup).b (sr_v (se_ld (pv 1)) (sr_v (se_ix (se_ld (pv 0)) (se_int) (fun _ _ => rfl)) (sr_nil)))))
    (sb_one (ss_ret (se_and (se_cmp opg_isNot (se_ld (pv 5)) (se_non) (nomark _)) (se_one (se_call (CX := CX0) G_l_holds hr rfl (T.ff .l_holds).m (T.ff .l_holds).F.kp (T.ff .l_holds).b (sr_v (se_ix (se_ld (pv 0)) (se_int) (fun _ _ => rfl)) (sr_v (se_ld (pv 5)) (sr_v (se_non) (sr_nil)))))))))) (sb_nil))
    (sb_cons (ss_if (st_cmp (opg_eq (hu200 hr)) (se_ld (pv 3)) (se_str) (nomark _)) (sb_one (ss_ret (se_cmp (opg_eq (hu200 hr)) (se_ix (se_ld (pv 1)) (se_int) (fun _ _ => rfl)) (se_ix (se_ld (pv 0)) (se_int) (fun _ _ => rfl)) (nomark _)))) (sb_nil))
    (sb_cons (ss_if (st_cmp (opg_eq (hu200 hr)) (se_ld (pv 3)) (se_str) (nomark _)) (sb_one (ss_ret (se_and (se_cmp (opg_eq (hu200 hr)) (se_ix (se_ld (pv 1)) (se_int) (fun _ _ => rfl)) (se_str) (nomark _)) (se_one (se_cmp opg_ge (se_ix (se_ld (pv 1)) (se_int) (fun _ _ => rfl)) (se_ix (se_ld (pv 0)) (se_int) (fun _ _ => rfl)) (nomark _)))))) (sb_nil))
    (sb_cons (ss_if (PW.pt (sw_or (st_cmp (opg_eq (hu200 hr)) (se_ld (pv 3)) (se_str) (nomark _)) (sw_or1 (st_cmp (opg_eq (hu200 hr)) (se_ld (pv 3)) (se_str) (nomark _))))) (sb_one (ss_ret (se_cmp (opg_eq (hu200 hr)) (se_ld (pv 1)) (se_tup (sa_cons (se_slice (se_ld (pv 3)) (so_none) (so_some (se_int))) (sa_cons (se_ix (se_ld (pv 0)) (se_int) (fun _ _ => rfl)) (sa_nil)))) (nomark _)))) (sb_nil))
    (sb_cons (ss_if (st_cmp (opg_eq (hu200 hr)) (se_ld (pv 3)) (se_str) (nomark _)) (sb_one (ss_ret (se_and (se_cmp (opg_eq (hu200 hr)) (se_ix (se_ld (pv 1)) (se_int) (fun _ _ => rfl)) (se_str) (nomark _)) (se_one (se_cmp opg_ge (se_callB cg_len rfl T.n_len bo_len (sa_cons (se_ix (se_ld (pv 1)) (se_int) (fun _ _ => rfl)) (sa_nil))) (se_ix (se_ld (pv 0)) (se_int) (fun _ _ => rfl)) (nomark _)))))) (sb_nil))
    (sb_cons (ss_if (st_cmp (opg_eq (hu200 hr)) (se_ld (pv 3)) (se_str) (nomark _)) (sb_one (ss_ret (se_and (se_cmp (opg_eq (hu200 hr)) (se_ix (se_ld (pv 1)) (se_int) (fun _ _ => rfl)) (se_str) (nomark _)) (se_one (se_cmp opg_ge (se_callB cg_len rfl T.n_len bo_len (sa_cons (se_ix (se_ld (pv 1)) (se_int) (fun _ _ => rfl)) (sa_nil))) (se_ix (se_ld (pv 0)) (se_int) (fun _ _ => rfl)) (nomark _)))))) (sb_nil))
    (sb_cons (ss_if (st_cmp (opg_eq (hu200 hr)) (se_ld (pv 3)) (se_str) (nomark _)) (sb_cons (ss_if (st_cmp (opg_ne (hu200 hr)) (se_ix (se_ld (pv 1)) (se_int) (fun _ _ => rfl)) (se_str) (nomark _)) (sb_one (ss_ret (se_bl))) (sb_nil))
    (sb_one (ss_ret (se_callB (cg_all rfl) rfl T.n_all bo_all (sa_cons (se_lc (own := [("item", 6)]) rfl sc_l_holds.nd (si_val (se_slice (se_ix (se_ld (pv 1)) (se_int) (fun _ _ => rfl)) (so_some (se_ix (se_ld (pv 0)) (se_int) (fun _ _ => rfl))) (so_none))) (blkOk_by (own := [("item", 6)]) (N := ["formula", "value", "held", "word", "part", "place", "item", "field"]) (sc := defScope s_l_holds) (by decide +kernel)) (fun _ _ _ _ _ => sgw_name (pg_name (i := 6) sc_l_holds.nd rfl (by first | exact Or.inl rfl | exact Or.inr rfl)) (by decide)) (fun _ _ _ _ _ => sq_nil) (fun _ _ _ _ _ => se_call (CX := CX0) G_l_holds hr rfl (T.ff .l_holds).m (T.ff .l_holds).F.kp (T.ff .l_holds).b (sr_v (se_ix (se_ld (pv 0)) (se_int) (fun _ _ => rfl)) (sr_v (se_ld (pv 6)) (sr_v (se_non) (sr_nil)))))) (sa_nil)))))) (sb_nil))
    (sb_cons (ss_if (st_cmp (opg_ne (hu200 hr)) (se_ix (se_ld (pv 1)) (se_int) (fun _ _ => rfl)) (se_str) (nomark _)) (sb_one (ss_ret (se_bl))) (sb_nil))
    (sb_one (ss_ret (se_callB (cg_all rfl) rfl T.n_all bo_all (sa_cons (se_lc (own := [("field", 7)]) rfl sc_l_holds.nd (si_val (se_ix (se_ld (pv 1)) (se_int) (fun _ _ => rfl))) (blkOk_by (own := [("field", 7)]) (N := ["formula", "value", "held", "word", "part", "place", "item", "field"]) (sc := defScope s_l_holds) (by decide +kernel)) (fun _ _ _ _ _ => sgw_name (pg_name (i := 7) sc_l_holds.nd rfl (by first | exact Or.inl rfl | exact Or.inr rfl)) (by decide)) (fun _ _ _ _ _ => sq_one (st_cmp (opg_notIn2 (hu200 hr)) (se_ix (se_ld (pv 7)) (se_int) (fun _ _ => rfl)) (se_ix (se_ld (pv 0)) (se_int) (fun _ _ => rfl)) rfl)) (fun _ _ _ _ _ => se_call (CX := CX0) G_l_holds hr rfl (T.ff .l_holds).m (T.ff .l_holds).F.kp (T.ff .l_holds).b (sr_v (se_ix (se_ld (pv 0)) (se_int) (fun _ _ => rfl)) (sr_v (se_ix (se_ld (pv 7)) (se_int) (fun _ _ => rfl)) (sr_v (se_non) (sr_nil)))))) (sa_nil))))))))))))))))))
theorem sc_l_is_integer : FnScope ["number"] ["number"] (defScope s_l_is_integer) := ⟨rfl, rfl, rfl, by decide +kernel, rfl, by decide +kernel, by decide +kernel⟩
theorem ok_l_is_integer (T : Facts K mg w) (n : Nat) :
    FnOk P w K mg base CX0 (n + 1) (T.ff .l_is_integer).f (T.ff .l_is_integer).fd ["number"] (spF [] K 1 (sem (n + 1) .l_is_integer)) := by
  refine fn_ok (n := 1) (nl := 0) (show Fun K "_law_is_integer" "_law_is_integer" s_l_is_integer (T.ff .l_is_integer).f (T.ff .l_is_integer).fd from (T.ff .l_is_integer).F) sc_l_is_integer rfl rfl (m := b_l_is_integer (sem n) (semN n)) (fun cdv A outer s H E hr => ?_)
  delta b_l_is_integer
  exact sb_one (ss_ret (se_and (se_isi (T := "int") (se_ld (pv 0)) rfl T.n_isinstance rfl T.n_int bo_int) (se_one (se_not (se_isi (T := "bool") (se_ld (pv 0)) rfl T.n_isinstance rfl T.n_bool bo_bool)))))
theorem sc_l_is_string : FnScope ["string", "char"] ["string"] (defScope s_l_is_string) := ⟨rfl, rfl, rfl, by decide +kernel, rfl, by decide +kernel, by decide +kernel⟩
theorem ok_l_is_string (T : Facts K mg w) (n : Nat) :
    FnOk P w K mg base CX0 (n + 1) (T.ff .l_is_string).f (T.ff .l_is_string).fd ["string"] (spF [] K 1 (sem (n + 1) .l_is_string)) := by
  refine fn_ok (n := 1) (nl := 1) (show Fun K "_law_is_string" "_law_is_string" s_l_is_string (T.ff .l_is_string).f (T.ff .l_is_string).fd from (T.ff .l_is_string).F) sc_l_is_string rfl rfl (m := b_l_is_string (sem n) (semN n)) (fun cdv A outer s H E hr => ?_)
  delta b_l_is_string
  exact sb_cons (ss_if (st_not (st_tru (se_isi (T := "str") (se_ld (pv 0)) rfl T.n_isinstance rfl T.n_str bo_str))) (sb_one (ss_ret (se_bl))) (sb_nil))
    (sb_one (ss_ret (se_callB (cg_all rfl) rfl T.n_all bo_all (sa_cons (se_lc (own := [("char", 1)]) rfl sc_l_is_string.nd (si_val (se_ld (pv 0))) (blkOk_by (own := [("char", 1)]) (N := ["string", "char"]) (sc := defScope s_l_is_string) (by decide +kernel)) (fun _ _ _ _ _ => sgw_name (pg_name (i := 1) sc_l_is_string.nd rfl (by first | exact Or.inl rfl | exact Or.inr rfl)) (by decide)) (fun _ _ _ _ _ => sq_nil) (fun _ _ _ _ _ => se_and (se_cmp opg_le (se_str) (se_ld (pv 1)) (nomark _)) (se_and (se_cmp opg_le (se_ld (pv 1)) (se_str) (nomark _)) (se_one (se_cmp (opg_ne (hu200 hr)) (se_callB cg_ord rfl T.n_ord bo_ord (sa_cons (se_ld (pv 1)) (sa_nil))) (se_int) (nomark _)))))) (sa_nil)))))
theorem sc_l_is_token : FnScope ["token"] ["token"] (defScope s_l_is_token) := ⟨rfl, rfl, rfl, by decide +kernel, rfl, by decide +kernel, by decide +kernel⟩
theorem ok_l_is_token (T : Facts K mg w) (n : Nat)
    (G_l_is_integer : FnOk P w K mg base CX0 n (T.ff .l_is_integer).f (T.ff .l_is_integer).fd ["number"] (spF [] K 1 (sem (n) .l_is_integer)))
    (G_l_is_string : FnOk P w K mg base CX0 n (T.ff .l_is_string).f (T.ff .l_is_string).fd ["string"] (spF [] K 1 (sem (n) .l_is_string))) :
    FnOk P w K mg base CX0 (n + 1) (T.ff .l_is_token).f (T.ff .l_is_token).fd ["token"] (spF [] K 1 (sem (n + 1) .l_is_token)) := by
  refine fn_ok (n := 1) (nl := 0) (show Fun K "_law_is_token" "_law_is_token" s_l_is_token (T.ff .l_is_token).f (T.ff .l_is_token).fd from (T.ff .l_is_token).F) sc_l_is_token rfl rfl (m := b_l_is_token (sem n) (semN n)) (fun cdv A outer s H E hr => ?_)
  delta b_l_is_token
  exact sb_one (ss_ret (se_or (se_call (CX := CX0) G_l_is_string hr rfl (T.ff .l_is_string).m (T.ff .l_is_string).F.kp (T.ff .l_is_string).b (sr_v (se_ld (pv 0)) (sr_nil))) (se_one (se_and (se_call (CX := CX0) G_l_is_integer hr rfl (T.ff .l_is_integer).m (T.ff .l_is_integer).F.kp (T.ff .l_is_integer).b (sr_v (se_ld (pv 0)) (sr_nil))) (se_one (se_cmp opg_ge (se_ld (pv 0)) (se_int) (nomark _)))))))
theorem sc_l_formula_parts : FnScope ["formula", "plain", "word", "part", "item", "good"] ["formula", "plain"] (defScope s_l_formula_parts) := ⟨rfl, rfl, rfl, by decide +kernel, rfl, by decide +kernel, by decide +kernel⟩
theorem ok_l_formula_parts (T : Facts K mg w) (n : Nat)
    (G_l_is_integer : FnOk P w K mg base CX0 n (T.ff .l_is_integer).f (T.ff .l_is_integer).fd ["number"] (spF [] K 1 (sem (n) .l_is_integer)))
    (G_l_is_string : FnOk P w K mg base CX0 n (T.ff .l_is_string).f (T.ff .l_is_string).fd ["string"] (spF [] K 1 (sem (n) .l_is_string)))
    (G_l_is_token : FnOk P w K mg base CX0 n (T.ff .l_is_token).f (T.ff .l_is_token).fd ["token"] (spF [] K 1 (sem (n) .l_is_token))) :
    FnOk P w K mg base CX0 (n + 1) (T.ff .l_formula_parts).f (T.ff .l_formula_parts).fd ["formula", "plain"] (spF [] K 2 (sem (n + 1) .l_formula_parts)) := by
  refine fn_ok (n := 2) (nl := 4) (show Fun K "_law_formula_parts" "_law_formula_parts" s_l_formula_parts (T.ff .l_formula_parts).f (T.ff .l_formula_parts).fd from (T.ff .l_formula_parts).F) sc_l_formula_parts rfl rfl (m := b_l_formula_parts (sem n) (semN n)) (fun cdv A outer s H E hr => ?_)
  delta b_l_formula_parts
  exact sb_cons (ss_set (i := 2) sc_l_formula_parts.nd rfl (by first | exact Or.inl rfl | exact Or.inr rfl) (se_ix (se_ld (pv 0)) (se_int) (fun _ _ => rfl)))
    (sb_cons (ss_set (i := 3) sc_l_formula_parts.nd rfl (by first | exact Or.inl rfl | exact Or.inr rfl) (se_ix (se_ld (pv 0)) (se_un ung_neg (se_int)) (fun _ _ => rfl)))
    (sb_cons (ss_if (st_cmp (opg_eq (hu200 hr)) (se_callB cg_len rfl T.n_len bo_len (sa_cons (se_ld (pv 0)) (sa_nil))) (se_int) (nomark _)) (sb_one (ss_ret (se_ix (se_lst (sa_cons (se_non) (sa_cons (se_lst (sa_nil)) (sa_nil)))) (se_callTy cg_int rfl T.n_int bo_int (sa_cons (se_or (se_cmp (opg_eq (hu200 hr)) (se_ld (pv 2)) (se_str) (nomark _)) (se_one (se_cmp (opg_eq (hu200 hr)) (se_ld (pv 2)) (se_str) (nomark _)))) (sa_nil))) (fun _ _ => rfl)))) (sb_nil))
    (sb_cons (ss_if (PW.pt (sw_and (st_cmp (opg_eq (hu200 hr)) (se_callB cg_len rfl T.n_len bo_len (sa_cons (se_ld (pv 0)) (sa_nil))) (se_int) (nomark _)) (sw_and1 (PW.pt (sw_or (st_cmp (opg_eq (hu200 hr)) (se_ld (pv 2)) (se_str) (nomark _)) (sw_or1 (PW.pt (sw_and (st_cmp (opg_eq (hu200 hr)) (se_ld (pv 2)) (se_str) (nomark _)) (sw_and1 (st_not (st_tru (se_ld (pv 1))))))))))))) (sb_one (ss_ret (se_lst (sa_cons (se_tup (sa_cons (se_ld (pv 3)) (sa_cons (se_or (se_ld (pv 1)) (se_one (se_cmp (opg_eq (hu200 hr)) (se_ld (pv 2)) (se_str) (nomark _)))) (sa_nil)))) (sa_nil))))) (sb_nil))
    (sb_cons (ss_if (PW.pt (sw_and (st_cmp (opg_eq (hu200 hr)) (se_callB cg_len rfl T.n_len bo_len (sa_cons (se_ld (pv 0)) (sa_nil))) (se_int) (nomark _)) (sw_and (PW.pt (sw_or (st_cmp (opg_eq (hu200 hr)) (se_ld (pv 2)) (se_str) (nomark _)) (sw_or1 (st_cmp (opg_eq (hu200 hr)) (se_ld (pv 2)) (se_str) (nomark _))))) (sw_and1 (st_tru (se_isi (T := "tuple") (se_ld (pv 3)) rfl T.n_isinstance rfl T.n_tuple bo_tuple)))))) (sb_one (ss_ret (se_lc (own := [("item", 4)]) rfl sc_l_formula_parts.nd (si_val (se_ld (pv 3))) (blkOk_by (own := [("item", 4)]) (N := ["formula", "plain", "word", "part", "item", "good"]) (sc := defScope s_l_formula_parts) (by decide +kernel)) (fun _ _ _ _ _ => sgw_name (pg_name (i := 4) sc_l_formula_parts.nd rfl (by first | exact Or.inl rfl | exact Or.inr rfl)) (by decide)) (fun _ _ _ _ _ => sq_nil) (fun _ _ _ _ _ => se_tup (sa_cons (se_ld (pv 4)) (sa_cons (se_ld (pv 1)) (sa_nil))))))) (sb_nil))
    (sb_cons (ss_if (st_cmp (opg_eq (hu200 hr)) (se_callB cg_len rfl T.n_len bo_len (sa_cons (se_ld (pv 0)) (sa_nil))) (se_int) (nomark _)) (sb_cons (ss_set (i := 5) sc_l_formula_parts.nd rfl (by first | exact Or.inl rfl | exact Or.inr rfl) (se_and (se_cmp (opg_eq (hu200 hr)) (se_ld (pv 2)) (se_str) (nomark _)) (se_one (se_cmp (opg_in2 (hu200 hr)) (se_ld (pv 3)) (se_lst (sa_cons (se_str) (sa_cons (se_str) (sa_cons (se_str) (sa_cons (se_str) (sa_cons (se_str) (sa_cons (se_str) (sa_nil)))))))) rfl))))
    (sb_cons (ss_set (i := 5) sc_l_formula_parts.nd rfl (by first | exact Or.inl rfl | exact Or.inr rfl) (se_or (se_ld (pv 5)) (se_or (se_and (se_cmp (opg_eq (hu200 hr)) (se_ld (pv 2)) (se_str) (nomark _)) (se_one (se_isi (T := "bool") (se_ld (pv 3)) rfl T.n_isinstance rfl T.n_bool bo_bool))) (se_one (se_and (se_cmp (opg_eq (hu200 hr)) (se_ld (pv 2)) (se_str) (nomark _)) (se_one (se_call (CX := CX0) G_l_is_string hr rfl (T.ff .l_is_string).m (T.ff .l_is_string).F.kp (T.ff .l_is_string).b (sr_v (se_ld (pv 3)) (sr_nil)))))))))
    (sb_cons (ss_set (i := 5) sc_l_formula_parts.nd rfl (by first | exact Or.inl rfl | exact Or.inr rfl) (se_or (se_ld (pv 5)) (se_one (se_and (se_cmp (opg_eq (hu200 hr)) (se_ld (pv 2)) (se_str) (nomark _)) (se_one (se_call (CX := CX0) G_l_is_integer hr rfl (T.ff .l_is_integer).m (T.ff .l_is_integer).F.kp (T.ff .l_is_integer).b (sr_v (se_ld (pv 3)) (sr_nil))))))))
    (sb_cons (ss_set (i := 5) sc_l_formula_parts.nd rfl (by first | exact Or.inl rfl | exact Or.inr rfl) (se_or (se_ld (pv 5)) (se_one (se_and (se_cmp (opg_in2 (hu200 hr)) (se_ld (pv 2)) (se_lst (sa_cons (se_str) (sa_cons (se_str) (sa_nil)))) rfl) (se_and (se_call (CX := CX0) G_l_is_integer hr rfl (T.ff .l_is_integer).m (T.ff .l_is_integer).F.kp (T.ff .l_is_integer).b (sr_v (se_ld (pv 3)) (sr_nil))) (se_one (se_cmp opg_ge (se_ld (pv 3)) (se_int) (nomark _))))))))
    (sb_one (ss_ret (se_ix (se_lst (sa_cons (se_non) (sa_cons (se_lst (sa_nil)) (sa_nil)))) (se_callTy cg_int rfl T.n_int bo_int (sa_cons (se_ld (pv 5)) (sa_nil))) (fun _ _ => rfl)))))))) (sb_nil))
    (sb_cons (ss_set (i := 5) sc_l_formula_parts.nd rfl (by first | exact Or.inl rfl | exact Or.inr rfl) (se_and (se_cmp (opg_eq (hu200 hr)) (se_ld (pv 2)) (se_str) (nomark _)) (se_and (se_call (CX := CX0) G_l_is_integer hr rfl (T.ff .l_is_integer).m (T.ff .l_is_integer).F.kp (T.ff .l_is_integer).b (sr_v (se_ix (se_ld (pv 0)) (se_int) (fun _ _ => rfl)) (sr_nil))) (se_one (se_cmp opg_ge (se_ix (se_ld (pv 0)) (se_int) (fun _ _ => rfl)) (se_int) (nomark _))))))
    (sb_cons (ss_if (PW.pt (sw_and (PW.pt (sw_or (st_cmp (opg_eq (hu200 hr)) (se_ld (pv 2)) (se_str) (nomark _)) (sw_or1 (st_cmp (opg_eq (hu200 hr)) (se_ld (pv 2)) (se_str) (nomark _))))) (sw_and1 (st_tru (se_isi (T := "tuple") (se_ix (se_ld (pv 0)) (se_int) (fun _ _ => rfl)) rfl T.n_isinstance rfl T.n_tuple bo_tuple))))) (sb_one (ss_set (i := 5) sc_l_formula_parts.nd rfl (by first | exact Or.inl rfl | exact Or.inr rfl) (se_callB (cg_all rfl) rfl T.n_all bo_all (sa_cons (se_lc (own := [("item", 4)]) rfl sc_l_formula_parts.nd (si_val (se_ix (se_ld (pv 0)) (se_int) (fun _ _ => rfl))) (blkOk_by (own := [("item", 4)]) (N := ["formula", "plain", "word", "part", "item", "good"]) (sc := defScope s_l_formula_parts) (by decide +kernel)) (fun _ _ _ _ _ => sgw_name (pg_name (i := 4) sc_l_formula_parts.nd rfl (by first | exact Or.inl rfl | exact Or.inr rfl)) (by decide)) (fun _ _ _ _ _ => sq_nil) (fun _ _ _ _ _ => se_and (se_call (CX := CX0) G_l_is_token hr rfl (T.ff .l_is_token).m (T.ff .l_is_token).F.kp (T.ff .l_is_token).b (sr_v (se_ld (pv 4)) (sr_nil))) (se_one (se_or (se_cmp (opg_eq (hu200 hr)) (se_ld (pv 2)) (se_str) (nomark _)) (se_one (se_isi (T := "str") (se_ld (pv 4)) rfl T.n_isinstance rfl T.n_str bo_str)))))) (sa_nil))))) (sb_nil))
    (sb_one (ss_ret (se_ix (se_lst (sa_cons (se_non) (sa_cons (se_lst (sa_cons (se_tup (sa_cons (se_ld (pv 3)) (sa_cons (se_bl) (sa_nil)))) (sa_nil))) (sa_nil)))) (se_callTy cg_int rfl T.n_int bo_int (sa_cons (se_ld (pv 5)) (sa_nil))) (fun _ _ => rfl)))))))))))
theorem sc_l_is_formula : FnScope ["formula", "plain", "depth", "level", "k", "below", "row", "parts"] ["formula", "plain", "depth"] (defScope s_l_is_formula) := ⟨rfl, rfl, rfl, by decide +kernel, rfl, by decide +kernel, by decide +kernel⟩
theorem ok_l_is_formula (T : Facts K mg w) (n : Nat)
    (G_l_formula_parts : FnOk P w K mg base CX0 n (T.ff .l_formula_parts).f (T.ff .l_formula_parts).fd ["formula", "plain"] (spF [] K 2 (sem (n) .l_formula_parts))) :
    FnOk P w K mg base CX0 (n + 1) (T.ff .l_is_formula).f (T.ff .l_is_formula).fd ["formula", "plain", "depth"] (spF [] K 3 (sem (n + 1) .l_is_formula)) := by
  refine fn_ok (n := 3) (nl := 5) (show Fun K "_law_is_formula" "_law_is_formula" s_l_is_formula (T.ff .l_is_formula).f (T.ff .l_is_formula).fd from (T.ff .l_is_formula).F) sc_l_is_formula rfl rfl (m := b_l_is_formula (sem n) (semN n)) (fun cdv A outer s H E hr => ?_)
  delta b_l_is_formula
  exact sb_cons (ss_set (i := 3) sc_l_is_formula.nd rfl (by first | exact Or.inl rfl | exact Or.inr rfl) (se_lst (sa_cons (se_tup (sa_cons (se_ld (pv 0)) (sa_cons (se_ld (pv 1)) (sa_nil)))) (sa_nil))))
    (sb_cons (ss_for PassesOwn.never rfl (si_range1 rfl T.n_range (sa_cons (se_ld (pv 2)) (sa_nil))) (sg_name (pg_name (i := 4) sc_l_is_formula.nd rfl (by first | exact Or.inl rfl | exact Or.inr rfl))) (sb_cons (ss_setO (i := 5) sc_l_is_formula.nd rfl (by first | exact Or.inl rfl | exact Or.inr rfl) (sa_nil))
    (sb_cons (ss_for PassesOwn.never rfl (si_val (se_ld (pv 3))) (sg_name (pg_name (i := 6) sc_l_is_formula.nd rfl (by first | exact Or.inl rfl | exact Or.inr rfl))) (sb_cons (ss_if (PW.pt (sw_or (st_not (st_tru (se_isi (T := "tuple") (se_ix (se_ld (pv 6)) (se_int) (fun _ _ => rfl)) rfl T.n_isinstance rfl T.n_tuple bo_tuple))) (sw_or1 (st_cmp (opg_notIn2 (hu200 hr)) (se_callB cg_len rfl T.n_len bo_len (sa_cons (se_ix (se_ld (pv 6)) (se_int) (fun _ _ => rfl)) (sa_nil))) (se_lst (sa_cons (se_int) (sa_cons (se_int) (sa_cons (se_int) (sa_nil))))) rfl)))) (sb_one (ss_ret (se_bl))) (sb_nil))
    (sb_cons (ss_set (i := 7) sc_l_is_formula.nd rfl (by first | exact Or.inl rfl | exact Or.inr rfl) (se_call (CX := CX0) G_l_formula_parts hr rfl (T.ff .l_formula_parts).m (T.ff .l_formula_parts).F.kp (T.ff .l_formula_parts).b (sr_v (se_ix (se_ld (pv 6)) (se_int) (fun _ _ => rfl)) (sr_v (se_ix (se_ld (pv 6)) (se_int) (fun _ _ => rfl)) (sr_nil)))))
    (sb_cons (ss_if (st_cmp opg_is (se_ld (pv 7)) (se_non) (nomark _)) (sb_one (ss_ret (se_bl))) (sb_nil))
    (sb_one (ss_ext (pv 5) (se_ld (pv 7))))))))
    (sb_one (ss_set (i := 3) sc_l_is_formula.nd rfl (by first | exact Or.inl rfl | exact Or.inr rfl) (se_ldF (pv 5)))))))
    (sb_one (ss_ret (se_cmp (opg_eq (hu200 hr)) (se_callB cg_len rfl T.n_len bo_len (sa_cons (se_ld (pv 3)) (sa_nil))) (se_int) (nomark _)))))
theorem sc_l_cell : FnScope ["script", "k"] ["script", "k"] (defScope s_l_cell) := ⟨rfl, rfl, rfl, by decide +kernel, rfl, by decide +kernel, by decide +kernel⟩
theorem ok_l_cell (T : Facts K mg w) (n : Nat) :
    FnOk P w K mg base CX0 (n + 1) (T.ff .l_cell).f (T.ff .l_cell).fd ["script", "k"] (spF [] K 2 (sem (n + 1) .l_cell)) := by
  refine fn_ok (n := 2) (nl := 0) (show Fun K "_law_cell" "_law_cell" s_l_cell (T.ff .l_cell).f (T.ff .l_cell).fd from (T.ff .l_cell).F) sc_l_cell rfl rfl (m := b_l_cell (sem n) (semN n)) (fun cdv A outer s H E hr => ?_)
  delta b_l_cell
  exact sb_cons (ss_if (st_cmp opg_lt (se_ld (pv 1)) (se_callB cg_len rfl T.n_len bo_len (sa_cons (se_ld (pv 0)) (sa_nil))) (nomark _)) (sb_one (ss_ret (se_ix (se_ld (pv 0)) (se_ld (pv 1)) (fun _ _ => rfl)))) (sb_nil))
    (sb_one (ss_ret (se_int)))
theorem sc_l_source : FnScope ["cell"] ["cell"] (defScope s_l_source) := ⟨rfl, rfl, rfl, by decide +kernel, rfl, by decide +kernel, by decide +kernel⟩
theorem ok_l_source (T : Facts K mg w) (n : Nat) :
    FnOk P w K mg base CX0 (n + 1) (T.ff .l_source).f (T.ff .l_source).fd ["cell"] (spN [] K 1 (semN (n + 1) .l_source)) := by
  refine fn_okN (n := 1) (nl := 0) (show Fun K "_law_source" "_law_source" s_l_source (T.ff .l_source).f (T.ff .l_source).fd from (T.ff .l_source).F) sc_l_source rfl rfl (m := b_l_source (sem n) (semN n)) (fun cdv A outer s H E hr => ?_)
  delta b_l_source
  exact sb_one (ss_retL (sa_cons (se_ld (pv 0)) (sa_cons (se_callTy cg_int rfl T.n_int bo_int (sa_cons (se_cmp opg_ge (se_ld (pv 0)) (se_bin opg_pow (se_int) (se_int)) (nomark _)) (sa_nil))) (sa_cons (se_int) (sa_nil)))))
theorem sc_l_draw : FnScope ["source", "many", "digit", "mixed"] ["source", "many"] (defScope s_l_draw) := ⟨rfl, rfl, rfl, by decide +kernel, rfl, by decide +kernel, by decide +kernel⟩
theorem ok_l_draw (T : Facts K mg w) (n : Nat) :
    FnOk P w K mg base CX0 (n + 1) (T.ff .l_draw).f (T.ff .l_draw).fd ["source", "many"] (spF [] K 2 (sem (n + 1) .l_draw)) := by
  refine fn_ok (n := 2) (nl := 2) (show Fun K "_law_draw" "_law_draw" s_l_draw (T.ff .l_draw).f (T.ff .l_draw).fd from (T.ff .l_draw).F) sc_l_draw rfl rfl (m := b_l_draw (sem n) (semN n)) (fun cdv A outer s H E hr => ?_)
  delta b_l_draw
  exact sb_cons (ss_if (st_cmp (opg_eq (hu200 hr)) (se_ixO (pv 0) (se_int) (fun _ _ => rfl)) (se_int) (nomark _)) (sb_cons (ss_set (i := 2) sc_l_draw.nd rfl (by first | exact Or.inl rfl | exact Or.inr rfl) (se_bin opg_mod (se_callTy cg_int rfl T.n_int bo_int (sa_cons (se_ixO (pv 0) (se_int) (fun _ _ => rfl)) (sa_nil))) (se_ld (pv 1))))
    (sb_cons (ss_st (pv 0) (se_int) (se_bin opg_fdiv (se_ixO (pv 0) (se_int) (fun _ _ => rfl)) (se_ld (pv 1))))
    (sb_one (ss_ret (se_ld (pv 2)))))) (sb_nil))
    (sb_cons (ss_st (pv 0) (se_int) (se_bin opg_add (se_ixO (pv 0) (se_int) (fun _ _ => rfl)) (se_int)))
    (sb_cons (ss_set (i := 3) sc_l_draw.nd rfl (by first | exact Or.inl rfl | exact Or.inr rfl) (se_bin opg_mod (se_callTy cg_int rfl T.n_int bo_int (sa_cons (se_bin opg_add (se_bin opg_mul (se_ixO (pv 0) (se_int) (fun _ _ => rfl)) (se_int)) (se_bin opg_mul (se_ixO (pv 0) (se_int) (fun _ _ => rfl)) (se_int))) (sa_nil))) (se_int)))
    (sb_cons (ss_set (i := 3) sc_l_draw.nd rfl (by first | exact Or.inl rfl | exact Or.inr rfl) (se_bin opg_mod (se_callTy cg_int rfl T.n_int bo_int (sa_cons (se_bin opg_add (se_bin opg_add (se_bin opg_mul (se_ld (pv 3)) (se_ld (pv 3))) (se_bin opg_mul (se_ixO (pv 0) (se_int) (fun _ _ => rfl)) (se_int))) (se_bin opg_fdiv (se_ld (pv 3)) (se_int))) (sa_nil))) (se_int)))
    (sb_one (ss_ret (se_bin opg_mod (se_callTy cg_int rfl T.n_int bo_int (sa_cons (se_bin opg_fdiv (se_ld (pv 3)) (se_int)) (sa_nil))) (se_ld (pv 1))))))))
theorem sc_l_char : FnScope ["source", "chars"] ["source"] (defScope s_l_char) := ⟨rfl, rfl, rfl, by decide +kernel, rfl, by decide +kernel, by decide +kernel⟩
theorem ok_l_char (T : Facts K mg w) (n : Nat)
    (G_l_draw : FnOk P w K mg base CX0 n (T.ff .l_draw).f (T.ff .l_draw).fd ["source", "many"] (spF [] K 2 (sem (n) .l_draw))) :
    FnOk P w K mg base CX0 (n + 1) (T.ff .l_char).f (T.ff .l_char).fd ["source"] (spF [] K 1 (sem (n + 1) .l_char)) := by
  refine fn_ok (n := 1) (nl := 1) (show Fun K "_law_char" "_law_char" s_l_char (T.ff .l_char).f (T.ff .l_char).fd from (T.ff .l_char).F) sc_l_char rfl rfl (m := b_l_char (sem n) (semN n)) (fun cdv A outer s H E hr => ?_)
  delta b_l_char
  exact sb_cons (ss_set (i := 1) sc_l_char.nd rfl (by first | exact Or.inl rfl | exact Or.inr rfl) (se_str))
    (sb_cons (ss_set (i := 1) sc_l_char.nd rfl (by first | exact Or.inl rfl | exact Or.inr rfl) (se_bin opg_add (se_ld (pv 1)) (se_str)))
    (sb_one (ss_ret (se_ix (se_ld (pv 1)) (se_call (CX := CX0) G_l_draw hr rfl (T.ff .l_draw).m (T.ff .l_draw).F.kp (T.ff .l_draw).b (sr_s (pv 0) (sr_v (se_int) (sr_nil)))) (fun _ _ => rfl)))))
theorem sc_l_name : FnScope ["source", "k", "j"] ["source"] (defScope s_l_name) := ⟨rfl, rfl, rfl, by decide +kernel, rfl, by decide +kernel, by decide +kernel⟩
theorem ok_l_name (T : Facts K mg w) (n : Nat)
    (G_l_draw : FnOk P w K mg base CX0 n (T.ff .l_draw).f (T.ff .l_draw).fd ["source", "many"] (spF [] K 2 (sem (n) .l_draw)))
    (G_l_char : FnOk P w K mg base CX0 n (T.ff .l_char).f (T.ff .l_char).fd ["source"] (spF [] K 1 (sem (n) .l_char))) :
    FnOk P w K mg base CX0 (n + 1) (T.ff .l_name).f (T.ff .l_name).fd ["source"] (spF [] K 1 (sem (n + 1) .l_name)) := by
  refine fn_ok (n := 1) (nl := 2) (show Fun K "_law_name" "_law_name" s_l_name (T.ff .l_name).f (T.ff .l_name).fd from (T.ff .l_name).F) sc_l_name rfl rfl (m := b_l_name (sem n) (semN n)) (fun cdv A outer s H E hr => ?_)
  delta b_l_name
  exact sb_cons (ss_set (i := 1) sc_l_name.nd rfl (by first | exact Or.inl rfl | exact Or.inr rfl) (se_call (CX := CX0) G_l_draw hr rfl (T.ff .l_draw).m (T.ff .l_draw).F.kp (T.ff .l_draw).b (sr_s (pv 0) (sr_v (se_int) (sr_nil)))))
    (sb_cons (ss_if (st_cmp opg_lt (se_ld (pv 1)) (se_int) (nomark _)) (sb_one (ss_ret (se_ix (se_lst (sa_cons (se_str) (sa_cons (se_str) (sa_cons (se_str) (sa_cons (se_str) (sa_cons (se_str) (sa_cons (se_str) (sa_cons (se_str) (sa_cons (se_str) (sa_nil)))))))))) (se_ld (pv 1)) (fun _ _ => rfl)))) (sb_nil))
    (sb_cons (ss_if (st_cmp (opg_eq (hu200 hr)) (se_call (CX := CX0) G_l_draw hr rfl (T.ff .l_draw).m (T.ff .l_draw).F.kp (T.ff .l_draw).b (sr_s (pv 0) (sr_v (se_int) (sr_nil)))) (se_int) (nomark _)) (sb_one (ss_ret (se_bin opg_add (se_bin opg_add (se_bin opg_mul (se_str) (se_call (CX := CX0) G_l_draw hr rfl (T.ff .l_draw).m (T.ff .l_draw).F.kp (T.ff .l_draw).b (sr_s (pv 0) (sr_v (se_int) (sr_nil))))) (se_call (CX := CX0) G_l_char hr rfl (T.ff .l_char).m (T.ff .l_char).F.kp (T.ff .l_char).b (sr_s (pv 0) (sr_nil)))) (se_bin opg_mul (se_str) (se_call (CX := CX0) G_l_draw hr rfl (T.ff .l_draw).m (T.ff .l_draw).F.kp (T.ff .l_draw).b (sr_s (pv 0) (sr_v (se_int) (sr_nil)))))))) (sb_nil))
    (sb_one (ss_ret (se_join (se_str) (se_lc (own := [("j", 2)]) rfl sc_l_name.nd (si_range1 rfl T.n_range (sa_cons (se_call (CX := CX0) G_l_draw hr rfl (T.ff .l_draw).m (T.ff .l_draw).F.kp (T.ff .l_draw).b (sr_s (pv 0) (sr_v (se_int) (sr_nil)))) (sa_nil))) (blkOk_by (own := [("j", 2)]) (N := ["source", "k", "j"]) (sc := defScope s_l_name) (by decide +kernel)) (fun _ _ _ _ _ => sgw_name (pg_name (i := 2) sc_l_name.nd rfl (by first | exact Or.inl rfl | exact Or.inr rfl)) (by decide)) (fun _ _ _ _ _ => sq_nil) (fun _ _ _ _ _ => se_call (CX := CX0) G_l_char hr rfl (T.ff .l_char).m (T.ff .l_char).F.kp (T.ff .l_char).b (sr_s (pv 0) (sr_nil)))))))))
theorem sc_l_number : FnScope ["source", "k"] ["source"] (defScope s_l_number) := ⟨rfl, rfl, rfl, by decide +kernel, rfl, by decide +kernel, by decide +kernel⟩
theorem ok_l_number (T : Facts K mg w) (n : Nat)
    (G_l_draw : FnOk P w K mg base CX0 n (T.ff .l_draw).f (T.ff .l_draw).fd ["source", "many"] (spF [] K 2 (sem (n) .l_draw))) :
    FnOk P w K mg base CX0 (n + 1) (T.ff .l_number).f (T.ff .l_number).fd ["source"] (spF [] K 1 (sem (n + 1) .l_number)) := by
  refine fn_ok (n := 1) (nl := 1) (show Fun K "_law_number" "_law_number" s_l_number (T.ff .l_number).f (T.ff .l_number).fd from (T.ff .l_number).F) sc_l_number rfl rfl (m := b_l_number (sem n) (semN n)) (fun cdv A outer s H E hr => ?_)
  delta b_l_number
  exact sb_cons (ss_set (i := 1) sc_l_number.nd rfl (by first | exact Or.inl rfl | exact Or.inr rfl) (se_call (CX := CX0) G_l_draw hr rfl (T.ff .l_draw).m (T.ff .l_draw).F.kp (T.ff .l_draw).b (sr_s (pv 0) (sr_v (se_int) (sr_nil)))))
    (sb_cons (ss_if (st_cmp (opg_eq (hu200 hr)) (se_ld (pv 1)) (se_int) (nomark _)) (sb_one (ss_ret (se_bin opg_sub (se_call (CX := CX0) G_l_draw hr rfl (T.ff .l_draw).m (T.ff .l_draw).F.kp (T.ff .l_draw).b (sr_s (pv 0) (sr_v (se_int) (sr_nil)))) (se_int)))) (sb_nil))
    (sb_cons (ss_if (st_cmp (opg_eq (hu200 hr)) (se_ld (pv 1)) (se_int) (nomark _)) (sb_one (ss_ret (se_bin opg_sub (se_call (CX := CX0) G_l_draw hr rfl (T.ff .l_draw).m (T.ff .l_draw).F.kp (T.ff .l_draw).b (sr_s (pv 0) (sr_v (se_bin opg_pow (se_int) (se_int)) (sr_nil)))) (se_bin opg_mul (se_int) (se_bin opg_pow (se_int) (se_int)))))) (sb_nil))
    (sb_one (ss_ret (se_bin opg_sub (se_call (CX := CX0) G_l_draw hr rfl (T.ff .l_draw).m (T.ff .l_draw).F.kp (T.ff .l_draw).b (sr_s (pv 0) (sr_v (se_int) (sr_nil)))) (se_int))))))
theorem sc_l_leaf : FnScope ["source", "k"] ["source"] (defScope s_l_leaf) := ⟨rfl, rfl, rfl, by decide +kernel, rfl, by decide +kernel, by decide +kernel⟩
theorem ok_l_leaf (T : Facts K mg w) (n : Nat)
    (G_l_draw : FnOk P w K mg base CX0 n (T.ff .l_draw).f (T.ff .l_draw).fd ["source", "many"] (spF [] K 2 (sem (n) .l_draw)))
    (G_l_name : FnOk P w K mg base CX0 n (T.ff .l_name).f (T.ff .l_name).fd ["source"] (spF [] K 1 (sem (n) .l_name)))
    (G_l_number : FnOk P w K mg base CX0 n (T.ff .l_number).f (T.ff .l_number).fd ["source"] (spF [] K 1 (sem (n) .l_number))) :
    FnOk P w K mg base CX0 (n + 1) (T.ff .l_leaf).f (T.ff .l_leaf).fd ["source"] (spF [] K 1 (sem (n + 1) .l_leaf)) := by
  refine fn_ok (n := 1) (nl := 1) (show Fun K "_law_leaf" "_law_leaf" s_l_leaf (T.ff .l_leaf).f (T.ff .l_leaf).fd from (T.ff .l_leaf).F) sc_l_leaf rfl rfl (m := b_l_leaf (sem n) (semN n)) (fun cdv A outer s H E hr => ?_)
  delta b_l_leaf
  exact sb_cons (ss_set (i := 1) sc_l_leaf.nd rfl (by first | exact Or.inl rfl | exact Or.inr rfl) (se_call (CX := CX0) G_l_draw hr rfl (T.ff .l_draw).m (T.ff .l_draw).F.kp (T.ff .l_draw).b (sr_s (pv 0) (sr_v (se_int) (sr_nil)))))
    (sb_cons (ss_if (st_cmp (opg_eq (hu200 hr)) (se_ld (pv 1)) (se_int) (nomark _)) (sb_one (ss_ret (se_tup (sa_cons (se_str) (sa_nil))))) (sb_nil))
    (sb_cons (ss_if (st_cmp (opg_eq (hu200 hr)) (se_ld (pv 1)) (se_int) (nomark _)) (sb_one (ss_ret (se_tup (sa_cons (se_str) (sa_cons (se_cmp (opg_eq (hu200 hr)) (se_call (CX := CX0) G_l_draw hr rfl (T.ff .l_draw).m (T.ff .l_draw).F.kp (T.ff .l_draw).b (sr_s (pv 0) (sr_v (se_int) (sr_nil)))) (se_int) (nomark _)) (sa_nil)))))) (sb_nil))
    (sb_cons (ss_if (st_cmp opg_lt (se_ld (pv 1)) (se_int) (nomark _)) (sb_one (ss_ret (se_tup (sa_cons (se_str) (sa_cons (se_call (CX := CX0) G_l_number hr rfl (T.ff .l_number).m (T.ff .l_number).F.kp (T.ff .l_number).b (sr_s (pv 0) (sr_nil))) (sa_nil)))))) (sb_nil))
    (sb_one (ss_ret (se_tup (sa_cons (se_str) (sa_cons (se_call (CX := CX0) G_l_name hr rfl (T.ff .l_name).m (T.ff .l_name).F.kp (T.ff .l_name).b (sr_s (pv 0) (sr_nil))) (sa_nil)))))))))
theorem sc_l_object : FnScope ["pairs", "made", "pair"] ["pairs"] (defScope s_l_object) := ⟨rfl, rfl, rfl, by decide +kernel, rfl, by decide +kernel, by decide +kernel⟩
theorem ok_l_object (T : Facts K mg w) (n : Nat)
    (G_l_with : FnOk P w K mg base CX0 n (T.ff .l_with).f (T.ff .l_with).fd ["value", "token", "new"] (spF [] K 3 (sem (n) .l_with))) :
    FnOk P w K mg base CX0 (n + 1) (T.ff .l_object).f (T.ff .l_object).fd ["pairs"] (spF [] K 1 (sem (n + 1) .l_object)) := by
  refine fn_ok (n := 1) (nl := 2) (show Fun K "_law_object" "_law_object" s_l_object (T.ff .l_object).f (T.ff .l_object).fd from (T.ff .l_object).F) sc_l_object rfl rfl (m := b_l_object (sem n) (semN n)) (fun cdv A outer s H E hr => ?_)
  delta b_l_object
  exact sb_cons (ss_set (i := 1) sc_l_object.nd rfl (by first | exact Or.inl rfl | exact Or.inr rfl) (se_tup (sa_cons (se_str) (sa_cons (se_tup (sa_nil)) (sa_nil)))))
    (sb_cons (ss_for PassesOwn.never rfl (si_val (se_ld (pv 0))) (sg_name (pg_name (i := 2) sc_l_object.nd rfl (by first | exact Or.inl rfl | exact Or.inr rfl))) (sb_one (ss_set (i := 1) sc_l_object.nd rfl (by first | exact Or.inl rfl | exact Or.inr rfl) (se_call (CX := CX0) G_l_with hr rfl (T.ff .l_with).m (T.ff .l_with).F.kp (T.ff .l_with).b (sr_v (se_ld (pv 1)) (sr_v (se_ix (se_ld (pv 2)) (se_int) (fun _ _ => rfl)) (sr_v (se_ix (se_ld (pv 2)) (se_int) (fun _ _ => rfl)) (sr_nil))))))))
    (sb_one (ss_ret (se_ld (pv 1)))))
theorem sc_l_value : FnScope ["source", "depth", "k", "j"] ["source", "depth"] (defScope s_l_value) := ⟨rfl, rfl, rfl, by decide +kernel, rfl, by decide +kernel, by decide +kernel⟩
theorem ok_l_value (T : Facts K mg w) (n : Nat)
    (G_l_draw : FnOk P w K mg base CX0 n (T.ff .l_draw).f (T.ff .l_draw).fd ["source", "many"] (spF [] K 2 (sem (n) .l_draw)))
    (G_l_name : FnOk P w K mg base CX0 n (T.ff .l_name).f (T.ff .l_name).fd ["source"] (spF [] K 1 (sem (n) .l_name)))
    (G_l_leaf : FnOk P w K mg base CX0 n (T.ff .l_leaf).f (T.ff .l_leaf).fd ["source"] (spF [] K 1 (sem (n) .l_leaf)))
    (G_l_object : FnOk P w K mg base CX0 n (T.ff .l_object).f (T.ff .l_object).fd ["pairs"] (spF [] K 1 (sem (n) .l_object)))
    (G_l_value : FnOk P w K mg base CX0 n (T.ff .l_value).f (T.ff .l_value).fd ["source", "depth"] (spF [] K 2 (sem (n) .l_value))) :
    FnOk P w K mg base CX0 (n + 1) (T.ff .l_value).f (T.ff .l_value).fd ["source", "depth"] (spF [] K 2 (sem (n + 1) .l_value)) := by
  refine fn_ok (n := 2) (nl := 2) (show Fun K "_law_value" "_law_value" s_l_value (T.ff .l_value).f (T.ff .l_value).fd from (T.ff .l_value).F) sc_l_value rfl rfl (m := b_l_value (sem n) (semN n)) (fun cdv A outer s H E hr => ?_)
  delta b_l_value
  exact sb_cons (ss_set (i := 2) sc_l_value.nd rfl (by first | exact Or.inl rfl | exact Or.inr rfl) (se_call (CX := CX0) G_l_draw hr rfl (T.ff .l_draw).m (T.ff .l_draw).F.kp (T.ff .l_draw).b (sr_s (pv 0) (sr_v (se_int) (sr_nil)))))
    (sb_cons (ss_if (PW.pt (sw_or (st_cmp opg_lt (se_ld (pv 1)) (se_int) (nomark _)) (sw_or1 (st_cmp opg_lt (se_ld (pv 2)) (se_int) (nomark _))))) (sb_one (ss_ret (se_call (CX := CX0) G_l_leaf hr rfl (T.ff .l_leaf).m (T.ff .l_leaf).F.kp (T.ff .l_leaf).b (sr_s (pv 0) (sr_nil))))) (sb_nil))
    (sb_cons (ss_if (st_cmp opg_lt (se_ld (pv 2)) (se_int) (nomark _)) (sb_one (ss_ret (se_tup (sa_cons (se_str) (sa_cons (se_callTy cg_tuple rfl T.n_tuple bo_tuple (sa_cons (se_lc (own := [("j", 3)]) rfl sc_l_value.nd (si_range1 rfl T.n_range (sa_cons (se_call (CX := CX0) G_l_draw hr rfl (T.ff .l_draw).m (T.ff .l_draw).F.kp (T.ff .l_draw).b (sr_s (pv 0) (sr_v (se_int) (sr_nil)))) (sa_nil))) (blkOk_by (own := [("j", 3)]) (N := ["source", "depth", "k", "j"]) (sc := defScope s_l_value) (by decide +kernel)) (fun _ _ _ _ _ => sgw_name (pg_name (i := 3) sc_l_value.nd rfl (by first | exact Or.inl rfl | exact Or.inr rfl)) (by decide)) (fun _ _ _ _ _ => sq_nil) (fun _ _ _ _ _ => se_call (CX := CX0) G_l_value hr rfl (T.ff .l_value).m (T.ff .l_value).F.kp (T.ff .l_value).b (sr_s (pv 0) (sr_v (se_bin opg_sub (se_ld (pv 1)) (se_int)) (sr_nil))))) (sa_nil))) (sa_nil)))))) (sb_nil))
    (sb_one (ss_ret (se_call (CX := CX0) G_l_object hr rfl (T.ff .l_object).m (T.ff .l_object).F.kp (T.ff .l_object).b (sr_v (se_lc (own := [("j", 3)]) rfl sc_l_value.nd (si_range1 rfl T.n_range (sa_cons (se_call (CX := CX0) G_l_draw hr rfl (T.ff .l_draw).m (T.ff .l_draw).F.kp (T.ff .l_draw).b (sr_s (pv 0) (sr_v (se_int) (sr_nil)))) (sa_nil))) (blkOk_by (own := [("j", 3)]) (N := ["source", "depth", "k", "j"]) (sc := defScope s_l_value) (by decide +kernel)) (fun _ _ _ _ _ => sgw_name (pg_name (i := 3) sc_l_value.nd rfl (by first | exact Or.inl rfl | exact Or.inr rfl)) (by decide)) (fun _ _ _ _ _ => sq_nil) (fun _ _ _ _ _ => se_tup (sa_cons (se_call (CX := CX0) G_l_name hr rfl (T.ff .l_name).m (T.ff .l_name).F.kp (T.ff .l_name).b (sr_s (pv 0) (sr_nil))) (sa_cons (se_call (CX := CX0) G_l_value hr rfl (T.ff .l_value).m (T.ff .l_value).F.kp (T.ff .l_value).b (sr_s (pv 0) (sr_v (se_bin opg_sub (se_ld (pv 1)) (se_int)) (sr_nil)))) (sa_nil))))) (sr_nil)))))))
theorem sc_l_wide : FnScope ["source", "depth", "value", "j", "others", "i", "item"] ["source", "depth"] (defScope s_l_wide) := ⟨rfl, rfl, rfl, by decide +kernel, rfl, by decide +kernel, by decide +kernel⟩
theorem ok_l_wide (T : Facts K mg w) (n : Nat)
    (G_l_draw : FnOk P w K mg base CX0 n (T.ff .l_draw).f (T.ff .l_draw).fd ["source", "many"] (spF [] K 2 (sem (n) .l_draw)))
    (G_l_name : FnOk P w K mg base CX0 n (T.ff .l_name).f (T.ff .l_name).fd ["source"] (spF [] K 1 (sem (n) .l_name)))
    (G_l_leaf : FnOk P w K mg base CX0 n (T.ff .l_leaf).f (T.ff .l_leaf).fd ["source"] (spF [] K 1 (sem (n) .l_leaf)))
    (G_l_object : FnOk P w K mg base CX0 n (T.ff .l_object).f (T.ff .l_object).fd ["pairs"] (spF [] K 1 (sem (n) .l_object)))
    (G_l_value : FnOk P w K mg base CX0 n (T.ff .l_value).f (T.ff .l_value).fd ["source", "depth"] (spF [] K 2 (sem (n) .l_value))) :
    FnOk P w K mg base CX0 (n + 1) (T.ff .l_wide).f (T.ff .l_wide).fd ["source", "depth"] (spF [] K 2 (sem (n + 1) .l_wide)) := by
  refine fn_ok (n := 2) (nl := 5) (show Fun K "_law_wide" "_law_wide" s_l_wide (T.ff .l_wide).f (T.ff .l_wide).fd from (T.ff .l_wide).F) sc_l_wide rfl rfl (m := b_l_wide (sem n) (semN n)) (fun cdv A outer s H E hr => ?_)
  delta b_l_wide
  exact sb_cons (ss_set (i := 2) sc_l_wide.nd rfl (by first | exact Or.inl rfl | exact Or.inr rfl) (se_call (CX := CX0) G_l_value hr rfl (T.ff .l_value).m (T.ff .l_value).F.kp (T.ff .l_value).b (sr_s (pv 0) (sr_v (se_ld (pv 1)) (sr_nil)))))
    (sb_cons (ss_for PassesOwn.never rfl (si_range1 rfl T.n_range (sa_cons (se_ix (se_lst (sa_cons (se_int) (sa_cons (se_int) (sa_cons (se_int) (sa_cons (se_int) (sa_nil)))))) (se_call (CX := CX0) G_l_draw hr rfl (T.ff .l_draw).m (T.ff .l_draw).F.kp (T.ff .l_draw).b (sr_s (pv 0) (sr_v (se_int) (sr_nil)))) (fun _ _ => rfl)) (sa_nil))) (sg_name (pg_name (i := 3) sc_l_wide.nd rfl (by first | exact Or.inl rfl | exact Or.inr rfl))) (sb_cons (ss_setLc (i := 4) (own := [("i", 5)]) rfl sc_l_wide.nd rfl rfl (sw_true rfl rfl rfl (by decide +kernel)) (si_range1 rfl T.n_range (sa_cons (se_bin opg_mul (se_call (CX := CX0) G_l_draw hr rfl (T.ff .l_draw).m (T.ff .l_draw).F.kp (T.ff .l_draw).b (sr_s (pv 0) (sr_v (se_int) (sr_nil)))) (se_call (CX := CX0) G_l_draw hr rfl (T.ff .l_draw).m (T.ff .l_draw).F.kp (T.ff .l_draw).b (sr_s (pv 0) (sr_v (se_int) (sr_nil))))) (sa_nil))) (blkOk_by (own := [("i", 5)]) (N := ["source", "depth", "value", "j", "others", "i", "item"]) (sc := defScope s_l_wide) (by decide +kernel)) (fun _ _ _ _ _ => sgw_name (pg_name (i := 5) sc_l_wide.nd rfl (by first | exact Or.inl rfl | exact Or.inr rfl)) (by decide)) (fun _ _ _ _ _ => sq_nil) (fun _ _ _ _ _ => se_call (CX := CX0) G_l_leaf hr rfl (T.ff .l_leaf).m (T.ff .l_leaf).F.kp (T.ff .l_leaf).b (sr_s (pv 0) (sr_nil))))
    (sb_one (ss_if (st_cmp (opg_eq (hu200 hr)) (se_call (CX := CX0) G_l_draw hr rfl (T.ff .l_draw).m (T.ff .l_draw).F.kp (T.ff .l_draw).b (sr_s (pv 0) (sr_v (se_int) (sr_nil)))) (se_int) (nomark _)) (sb_one (ss_set (i := 2) sc_l_wide.nd rfl (by first | exact Or.inl rfl | exact Or.inr rfl) (se_tup (sa_cons (se_str) (sa_cons (se_bin opg_add (se_callTy cg_tuple rfl T.n_tuple bo_tuple (sa_cons (se_ld (pv 4)) (sa_nil))) (se_tup (sa_cons (se_ld (pv 2)) (sa_nil)))) (sa_nil)))))) (sb_one (ss_set (i := 2) sc_l_wide.nd rfl (by first | exact Or.inl rfl | exact Or.inr rfl) (se_call (CX := CX0) G_l_object hr rfl (T.ff .l_object).m (T.ff .l_object).F.kp (T.ff .l_object).b (sr_v (se_bin opg_add (se_lc (own := [("item", 6)]) rfl sc_l_wide.nd (si_val (se_ld (pv 4))) (blkOk_by (own := [("item", 6)]) (N := ["source", "depth", "value", "j", "others", "i", "item"]) (sc := defScope s_l_wide) (by decide +kernel)) (fun _ _ _ _ _ => sgw_name (pg_name (i := 6) sc_l_wide.nd rfl (by first | exact Or.inl rfl | exact Or.inr rfl)) (by decide)) (fun _ _ _ _ _ => sq_nil) (fun _ _ _ _ _ => se_tup (sa_cons (se_call (CX := CX0) G_l_name hr rfl (T.ff .l_name).m (T.ff .l_name).F.kp (T.ff .l_name).b (sr_s (pv 0) (sr_nil))) (sa_cons (se_ld (pv 6)) (sa_nil))))) (se_lst (sa_cons (se_tup (sa_cons (se_call (CX := CX0) G_l_name hr rfl (T.ff .l_name).m (T.ff .l_name).F.kp (T.ff .l_name).b (sr_s (pv 0) (sr_nil))) (sa_cons (se_ld (pv 2)) (sa_nil)))) (sa_nil)))) (sr_nil)))))))))
    (sb_one (ss_ret (se_ld (pv 2)))))
theorem sc_l_token : FnScope ["source", "value"] ["source", "value"] (defScope s_l_token) := ⟨rfl, rfl, rfl, by decide +kernel, rfl, by decide +kernel, by decide +kernel⟩
theorem ok_l_token (T : Facts K mg w) (n : Nat)
    (G_l_draw : FnOk P w K mg base CX0 n (T.ff .l_draw).f (T.ff .l_draw).fd ["source", "many"] (spF [] K 2 (sem (n) .l_draw))) :
    FnOk P w K mg base CX0 (n + 1) (T.ff .l_token).f (T.ff .l_token).fd ["source", "value"] (spF [] K 2 (sem (n + 1) .l_token)) := by
  refine fn_ok (n := 2) (nl := 0) (show Fun K "_law_token" "_law_token" s_l_token (T.ff .l_token).f (T.ff .l_token).fd from (T.ff .l_token).F) sc_l_token rfl rfl (m := b_l_token (sem n) (semN n)) (fun cdv A outer s H E hr => ?_)
  delta b_l_token
  exact sb_cons (ss_if (PW.pt (sw_and (st_cmp (opg_eq (hu200 hr)) (se_ix (se_ld (pv 1)) (se_int) (fun _ _ => rfl)) (se_str) (nomark _)) (sw_and1 (st_cmp opg_gt (se_callB cg_len rfl T.n_len bo_len (sa_cons (se_ix (se_ld (pv 1)) (se_int) (fun _ _ => rfl)) (sa_nil))) (se_int) (nomark _))))) (sb_one (ss_ret (se_callB (cg_min rfl) rfl T.n_min bo_min (sa_cons (se_call (CX := CX0) G_l_draw hr rfl (T.ff .l_draw).m (T.ff .l_draw).F.kp (T.ff .l_draw).b (sr_s (pv 0) (sr_v (se_callB cg_len rfl T.n_len bo_len (sa_cons (se_ix (se_ld (pv 1)) (se_int) (fun _ _ => rfl)) (sa_nil))) (sr_nil)))) (sa_cons (se_int) (sa_nil)))))) (sb_nil))
    (sb_cons (ss_if (PW.pt (sw_and (st_cmp (opg_eq (hu200 hr)) (se_ix (se_ld (pv 1)) (se_int) (fun _ _ => rfl)) (se_str) (nomark _)) (sw_and1 (st_cmp opg_gt (se_callB cg_len rfl T.n_len bo_len (sa_cons (se_ix (se_ld (pv 1)) (se_int) (fun _ _ => rfl)) (sa_nil))) (se_int) (nomark _))))) (sb_one (ss_ret (se_ix (se_ix (se_ix (se_ld (pv 1)) (se_int) (fun _ _ => rfl)) (se_call (CX := CX0) G_l_draw hr rfl (T.ff .l_draw).m (T.ff .l_draw).F.kp (T.ff .l_draw).b (sr_s (pv 0) (sr_v (se_callB cg_len rfl T.n_len bo_len (sa_cons (se_ix (se_ld (pv 1)) (se_int) (fun _ _ => rfl)) (sa_nil))) (sr_nil)))) (fun _ _ => rfl)) (se_int) (fun _ _ => rfl)))) (sb_nil))
    (sb_one (ss_ret (se_non))))
theorem sc_l_path : FnScope ["source", "value", "most", "path", "k", "token"] ["source", "value", "most"] (defScope s_l_path) := ⟨rfl, rfl, rfl, by decide +kernel, rfl, by decide +kernel, by decide +kernel⟩
theorem ok_l_path (T : Facts K mg w) (n : Nat)
    (G_l_child : FnOk P w K mg base CX0 n (T.ff .l_child).f (T.ff .l_child).fd ["value", "token"] (spF [] K 2 (sem (n) .l_child)))
    (G_l_draw : FnOk P w K mg base CX0 n (T.ff .l_draw).f (T.ff .l_draw).fd ["source", "many"] (spF [] K 2 (sem (n) .l_draw)))
    (G_l_name : FnOk P w K mg base CX0 n (T.ff .l_name).f (T.ff .l_name).fd ["source"] (spF [] K 1 (sem (n) .l_name)))
    (G_l_token : FnOk P w K mg base CX0 n (T.ff .l_token).f (T.ff .l_token).fd ["source", "value"] (spF [] K 2 (sem (n) .l_token))) :
    FnOk P w K mg base CX0 (n + 1) (T.ff .l_path).f (T.ff .l_path).fd ["source", "value", "most"] (spF [] K 3 (sem (n + 1) .l_path)) := by
  refine fn_ok (n := 3) (nl := 3) (show Fun K "_law_path" "_law_path" s_l_path (T.ff .l_path).f (T.ff .l_path).fd from (T.ff .l_path).F) sc_l_path rfl rfl (m := b_l_path (sem n) (semN n)) (fun cdv A outer s H E hr => ?_)
  delta b_l_path
  exact sb_cons (ss_set (i := 3) sc_l_path.nd rfl (by first | exact Or.inl rfl | exact Or.inr rfl) (se_tup (sa_nil)))
    (sb_cons (ss_for PassesOwn.never rfl (si_range1 rfl T.n_range (sa_cons (se_ld (pv 2)) (sa_nil))) (sg_name (pg_name (i := 4) sc_l_path.nd rfl (by first | exact Or.inl rfl | exact Or.inr rfl))) (sb_cons (ss_set (i := 5) sc_l_path.nd rfl (by first | exact Or.inl rfl | exact Or.inr rfl) (se_call (CX := CX0) G_l_token hr rfl (T.ff .l_token).m (T.ff .l_token).F.kp (T.ff .l_token).b (sr_s (pv 0) (sr_v (se_ld (pv 1)) (sr_nil)))))
    (sb_one (ss_if (PW.pt (sw_and (st_cmp opg_isNot (se_ld (pv 5)) (se_non) (nomark _)) (sw_and1 (st_cmp opg_gt (se_call (CX := CX0) G_l_draw hr rfl (T.ff .l_draw).m (T.ff .l_draw).F.kp (T.ff .l_draw).b (sr_s (pv 0) (sr_v (se_int) (sr_nil)))) (se_int) (nomark _))))) (sb_cons (ss_set (i := 3) sc_l_path.nd rfl (by first | exact Or.inl rfl | exact Or.inr rfl) (se_bin opg_add (se_ld (pv 3)) (se_tup (sa_cons (se_ld (pv 5)) (sa_nil)))))
    (sb_one (ss_set (i := 1) sc_l_path.nd rfl (by first | exact Or.inl rfl | exact Or.inr rfl) (se_call (CX := CX0) G_l_child hr rfl (T.ff .l_child).m (T.ff .l_child).F.kp (T.ff .l_child).b (sr_v (se_ld (pv 1)) (sr_v (se_ld (pv 5)) (sr_nil))))))) (sb_one (ss_set (i := 1) sc_l_path.nd rfl (by first | exact Or.inl rfl | exact Or.inr rfl) (se_tup (sa_cons (se_str) (sa_nil)))))))))
    (sb_cons (ss_if (PW.pt (sw_and (st_cmp opg_lt (se_callB cg_len rfl T.n_len bo_len (sa_cons (se_ld (pv 3)) (sa_nil))) (se_ld (pv 2)) (nomark _)) (sw_and1 (st_cmp (opg_eq (hu200 hr)) (se_call (CX := CX0) G_l_draw hr rfl (T.ff .l_draw).m (T.ff .l_draw).F.kp (T.ff .l_draw).b (sr_s (pv 0) (sr_v (se_int) (sr_nil)))) (se_int) (nomark _))))) (sb_cons (ss_if (st_cmp (opg_eq (hu200 hr)) (se_call (CX := CX0) G_l_draw hr rfl (T.ff .l_draw).m (T.ff .l_draw).F.kp (T.ff .l_draw).b (sr_s (pv 0) (sr_v (se_int) (sr_nil)))) (se_int) (nomark _)) (sb_one (ss_ret (se_bin opg_add (se_ld (pv 3)) (se_tup (sa_cons (se_call (CX := CX0) G_l_name hr rfl (T.ff .l_name).m (T.ff .l_name).F.kp (T.ff .l_name).b (sr_s (pv 0) (sr_nil))) (sa_nil)))))) (sb_nil))
    (sb_one (ss_ret (se_bin opg_add (se_ld (pv 3)) (se_tup (sa_cons (se_call (CX := CX0) G_l_draw hr rfl (T.ff .l_draw).m (T.ff .l_draw).F.kp (T.ff .l_draw).b (sr_s (pv 0) (sr_v (se_int) (sr_nil)))) (sa_nil))))))) (sb_nil))
    (sb_one (ss_ret (se_ld (pv 3))))))
theorem sc_l_target : FnScope ["source", "value", "most", "path", "place", "k"] ["source", "value", "most"] (defScope s_l_target) := ⟨rfl, rfl, rfl, by decide +kernel, rfl, by decide +kernel, by decide +kernel⟩
theorem ok_l_target (T : Facts K mg w) (n : Nat)
    (G_l_lookup : FnOk P w K mg base CX0 n (T.ff .l_lookup).f (T.ff .l_lookup).fd ["value", "path"] (spF [] K 2 (sem (n) .l_lookup)))
    (G_l_draw : FnOk P w K mg base CX0 n (T.ff .l_draw).f (T.ff .l_draw).fd ["source", "many"] (spF [] K 2 (sem (n) .l_draw)))
    (G_l_name : FnOk P w K mg base CX0 n (T.ff .l_name).f (T.ff .l_name).fd ["source"] (spF [] K 1 (sem (n) .l_name)))
    (G_l_path : FnOk P w K mg base CX0 n (T.ff .l_path).f (T.ff .l_path).fd ["source", "value", "most"] (spF [] K 3 (sem (n) .l_path))) :
    FnOk P w K mg base CX0 (n + 1) (T.ff .l_target).f (T.ff .l_target).fd ["source", "value", "most"] (spF [] K 3 (sem (n + 1) .l_target)) := by
  refine fn_ok (n := 3) (nl := 3) (show Fun K "_law_target" "_law_target" s_l_target (T.ff .l_target).f (T.ff .l_target).fd from (T.ff .l_target).F) sc_l_target rfl rfl (m := b_l_target (sem n) (semN n)) (fun cdv A outer s H E hr => ?_)
  delta b_l_target
  exact sb_cons (ss_set (i := 3) sc_l_target.nd rfl (by first | exact Or.inl rfl | exact Or.inr rfl) (se_call (CX := CX0) G_l_path hr rfl (T.ff .l_path).m (T.ff .l_path).F.kp (T.ff .l_path).b (sr_s (pv 0) (sr_v (se_ld (pv 1)) (sr_v (se_ld (pv 2)) (sr_nil))))))
    (sb_cons (ss_set (i := 4) sc_l_target.nd rfl (by first | exact Or.inl rfl | exact Or.inr rfl) (se_call (CX := CX0) G_l_lookup hr rfl (T.ff .l_lookup).m (T.ff .l_lookup).F.kp (T.ff .l_lookup).b (sr_v (se_ld (pv 1)) (sr_v (se_ld (pv 3)) (sr_nil)))))
    (sb_cons (ss_if (PW.pt (sw_or (st_cmp opg_is (se_ld (pv 4)) (se_non) (nomark _)) (sw_or1 (st_cmp opg_ge (se_callB cg_len rfl T.n_len bo_len (sa_cons (se_ld (pv 3)) (sa_nil))) (se_ld (pv 2)) (nomark _))))) (sb_one (ss_ret (se_ld (pv 3)))) (sb_nil))
    (sb_cons (ss_set (i := 5) sc_l_target.nd rfl (by first | exact Or.inl rfl | exact Or.inr rfl) (se_call (CX := CX0) G_l_draw hr rfl (T.ff .l_draw).m (T.ff .l_draw).F.kp (T.ff .l_draw).b (sr_s (pv 0) (sr_v (se_int) (sr_nil)))))
    (sb_cons (ss_if (PW.pt (sw_and (st_cmp (opg_eq (hu200 hr)) (se_ix (se_ld (pv 4)) (se_int) (fun _ _ => rfl)) (se_str) (nomark _)) (sw_and1 (st_cmp opg_gt (se_ld (pv 5)) (se_int) (nomark _))))) (sb_one (ss_ret (se_bin opg_add (se_ld (pv 3)) (se_tup (sa_cons (se_call (CX := CX0) G_l_name hr rfl (T.ff .l_name).m (T.ff .l_name).F.kp (T.ff .l_name).b (sr_s (pv 0) (sr_nil))) (sa_nil)))))) (sb_nil))
    (sb_cons (ss_if (PW.pt (sw_and (st_cmp (opg_eq (hu200 hr)) (se_ix (se_ld (pv 4)) (se_int) (fun _ _ => rfl)) (se_str) (nomark _)) (sw_and1 (st_cmp (opg_eq (hu200 hr)) (se_ld (pv 5)) (se_int) (nomark _))))) (sb_one (ss_ret (se_bin opg_add (se_ld (pv 3)) (se_tup (sa_cons (se_callB (cg_min rfl) rfl T.n_min bo_min (sa_cons (se_callB cg_len rfl T.n_len bo_len (sa_cons (se_ix (se_ld (pv 4)) (se_int) (fun _ _ => rfl)) (sa_nil))) (sa_cons (se_int) (sa_nil)))) (sa_nil)))))) (sb_nil))
    (sb_cons (ss_if (PW.pt (sw_and (st_cmp (opg_eq (hu200 hr)) (se_ix (se_ld (pv 4)) (se_int) (fun _ _ => rfl)) (se_str) (nomark _)) (sw_and1 (st_cmp (opg_eq (hu200 hr)) (se_ld (pv 5)) (se_int) (nomark _))))) (sb_one (ss_ret (se_bin opg_add (se_ld (pv 3)) (se_tup (sa_cons (se_un ung_neg (se_int)) (sa_nil)))))) (sb_nil))
    (sb_one (ss_ret (se_ld (pv 3))))))))))
theorem sc_l_changed : FnScope ["source", "value", "path", "k", "made"] ["source", "value"] (defScope s_l_changed) := ⟨rfl, rfl, rfl, by decide +kernel, rfl, by decide +kernel, by decide +kernel⟩
theorem ok_l_changed (T : Facts K mg w) (n : Nat)
    (G_l_replace : FnOk P w K mg base CX0 n (T.ff .l_replace).f (T.ff .l_replace).fd ["value", "path", "new"] (spF [] K 3 (sem (n) .l_replace)))
    (G_l_put : FnOk P w K mg base CX0 n (T.ff .l_put).f (T.ff .l_put).fd ["value", "path", "new"] (spF [] K 3 (sem (n) .l_put)))
    (G_l_take : FnOk P w K mg base CX0 n (T.ff .l_take).f (T.ff .l_take).fd ["value", "path"] (spF [] K 2 (sem (n) .l_take)))
    (G_l_draw : FnOk P w K mg base CX0 n (T.ff .l_draw).f (T.ff .l_draw).fd ["source", "many"] (spF [] K 2 (sem (n) .l_draw)))
    (G_l_leaf : FnOk P w K mg base CX0 n (T.ff .l_leaf).f (T.ff .l_leaf).fd ["source"] (spF [] K 1 (sem (n) .l_leaf)))
    (G_l_path : FnOk P w K mg base CX0 n (T.ff .l_path).f (T.ff .l_path).fd ["source", "value", "most"] (spF [] K 3 (sem (n) .l_path)))
    (G_l_target : FnOk P w K mg base CX0 n (T.ff .l_target).f (T.ff .l_target).fd ["source", "value", "most"] (spF [] K 3 (sem (n) .l_target))) :
    FnOk P w K mg base CX0 (n + 1) (T.ff .l_changed).f (T.ff .l_changed).fd ["source", "value"] (spF [] K 2 (sem (n + 1) .l_changed)) := by
  refine fn_ok (n := 2) (nl := 3) (show Fun K "_law_changed" "_law_changed" s_l_changed (T.ff .l_changed).f (T.ff .l_changed).fd from (T.ff .l_changed).F) sc_l_changed rfl rfl (m := b_l_changed (sem n) (semN n)) (fun cdv A outer s H E hr => ?_)
  delta b_l_changed
  exact sb_cons (ss_set (i := 2) sc_l_changed.nd rfl (by first | exact Or.inl rfl | exact Or.inr rfl) (se_call (CX := CX0) G_l_path hr rfl (T.ff .l_path).m (T.ff .l_path).F.kp (T.ff .l_path).b (sr_s (pv 0) (sr_v (se_ld (pv 1)) (sr_v (se_int) (sr_nil))))))
    (sb_cons (ss_set (i := 3) sc_l_changed.nd rfl (by first | exact Or.inl rfl | exact Or.inr rfl) (se_call (CX := CX0) G_l_draw hr rfl (T.ff .l_draw).m (T.ff .l_draw).F.kp (T.ff .l_draw).b (sr_s (pv 0) (sr_v (se_int) (sr_nil)))))
    (sb_cons (ss_set (i := 4) sc_l_changed.nd rfl (by first | exact Or.inl rfl | exact Or.inr rfl) (se_non))
    (sb_cons (ss_if (st_cmp (opg_eq (hu200 hr)) (se_ld (pv 3)) (se_int) (nomark _)) (sb_one (ss_set (i := 4) sc_l_changed.nd rfl (by first | exact Or.inl rfl | exact Or.inr rfl) (se_call (CX := CX0) G_l_take hr rfl (T.ff .l_take).m (T.ff .l_take).F.kp (T.ff .l_take).b (sr_v (se_ld (pv 1)) (sr_v (se_ld (pv 2)) (sr_nil)))))) (sb_nil))
    (sb_cons (ss_if (st_cmp (opg_eq (hu200 hr)) (se_ld (pv 3)) (se_int) (nomark _)) (sb_one (ss_set (i := 4) sc_l_changed.nd rfl (by first | exact Or.inl rfl | exact Or.inr rfl) (se_call (CX := CX0) G_l_put hr rfl (T.ff .l_put).m (T.ff .l_put).F.kp (T.ff .l_put).b (sr_v (se_ld (pv 1)) (sr_v (se_call (CX := CX0) G_l_target hr rfl (T.ff .l_target).m (T.ff .l_target).F.kp (T.ff .l_target).b (sr_s (pv 0) (sr_v (se_ld (pv 1)) (sr_v (se_int) (sr_nil))))) (sr_v (se_call (CX := CX0) G_l_leaf hr rfl (T.ff .l_leaf).m (T.ff .l_leaf).F.kp (T.ff .l_leaf).b (sr_s (pv 0) (sr_nil))) (sr_nil))))))) (sb_nil))
    (sb_cons (ss_if (st_cmp (opg_eq (hu200 hr)) (se_ld (pv 3)) (se_int) (nomark _)) (sb_one (ss_set (i := 4) sc_l_changed.nd rfl (by first | exact Or.inl rfl | exact Or.inr rfl) (se_call (CX := CX0) G_l_replace hr rfl (T.ff .l_replace).m (T.ff .l_replace).F.kp (T.ff .l_replace).b (sr_v (se_ld (pv 1)) (sr_v (se_ld (pv 2)) (sr_v (se_call (CX := CX0) G_l_leaf hr rfl (T.ff .l_leaf).m (T.ff .l_leaf).F.kp (T.ff .l_leaf).b (sr_s (pv 0) (sr_nil))) (sr_nil))))))) (sb_nil))
    (sb_cons (ss_if (st_cmp opg_is (se_ld (pv 4)) (se_non) (nomark _)) (sb_one (ss_ret (se_ld (pv 1)))) (sb_nil))
    (sb_one (ss_ret (se_ld (pv 4))))))))))
theorem sc_law0 : FnScope ["script", "guide", "formula", "values", "cell", "value"] ["script"] (defScope s_law0) := ⟨rfl, rfl, rfl, by decide +kernel, rfl, by decide +kernel, by decide +kernel⟩
theorem ok_law0 (T : Facts K mg w) (n : Nat)
    (G_p_equal_formula : FnOk P w K mg base CX0 n (T.ff .p_equal_formula).f (T.ff .p_equal_formula).fd ["value"] (spF [] K 1 (sem (n) .p_equal_formula)))
    (G_l_holds : FnOk P w K mg base CX0 n (T.ff .l_holds).f (T.ff .l_holds).fd ["formula", "value", "held"] (spF [] K 3 (sem (n) .l_holds)))
    (G_l_is_formula : FnOk P w K mg base CX0 n (T.ff .l_is_formula).f (T.ff .l_is_formula).fd ["formula", "plain", "depth"] (spF [] K 3 (sem (n) .l_is_formula)))
    (G_l_cell : FnOk P w K mg base CX0 n (T.ff .l_cell).f (T.ff .l_cell).fd ["script", "k"] (spF [] K 2 (sem (n) .l_cell)))
    (G_l_source : FnOk P w K mg base CX0 n (T.ff .l_source).f (T.ff .l_source).fd ["cell"] (spN [] K 1 (semN (n) .l_source)))
    (G_l_value : FnOk P w K mg base CX0 n (T.ff .l_value).f (T.ff .l_value).fd ["source", "depth"] (spF [] K 2 (sem (n) .l_value)))
    (G_l_wide : FnOk P w K mg base CX0 n (T.ff .l_wide).f (T.ff .l_wide).fd ["source", "depth"] (spF [] K 2 (sem (n) .l_wide)))
    (G_l_changed : FnOk P w K mg base CX0 n (T.ff .l_changed).f (T.ff .l_changed).fd ["source", "value"] (spF [] K 2 (sem (n) .l_changed))) :
    FnOk P w K mg base CX0 (n + 1) (T.ff .law0).f (T.ff .law0).fd ["script"] (spF [] K 1 (sem (n + 1) .law0)) := by
  refine fn_ok (n := 1) (nl := 5) (show Fun K "law" "law" s_law0 (T.ff .law0).f (T.ff .law0).fd from (T.ff .law0).F) sc_law0 rfl rfl (m := b_law0 (sem n) (semN n)) (fun cdv A outer s H E hr => ?_)
  delta b_law0
  exact sb_cons (ss_set (i := 1) sc_law0.nd rfl (by first | exact Or.inl rfl | exact Or.inr rfl) (se_callT G_l_wide hr rfl (T.ff .l_wide).m (T.ff .l_wide).F.kp (T.ff .l_wide).b (sf_call G_l_source hr rfl (T.ff .l_source).m (T.ff .l_source).F.kp (T.ff .l_source).b (sr_v (se_call (CX := CX0) G_l_cell hr rfl (T.ff .l_cell).m (T.ff .l_cell).F.kp (T.ff .l_cell).b (sr_v (se_ld (pv 0)) (sr_v (se_int) (sr_nil)))) (sr_nil))) (sr_v (se_int) (sr_nil))))
    (sb_cons (ss_set (i := 2) sc_law0.nd rfl (by first | exact Or.inl rfl | exact Or.inr rfl) (se_call (CX := CX0) G_p_equal_formula hr rfl (T.ff .p_equal_formula).m (T.ff .p_equal_formula).F.kp (T.ff .p_equal_formula).b (sr_v (se_ld (pv 1)) (sr_nil))))
    (sb_cons (ss_if (st_not (st_tru (se_call (CX := CX0) G_l_is_formula hr rfl (T.ff .l_is_formula).m (T.ff .l_is_formula).F.kp (T.ff .l_is_formula).b (sr_v (se_ld (pv 2)) (sr_v (se_bl) (sr_v (se_int) (sr_nil))))))) (sb_one (ss_ret (se_bl))) (sb_nil))
    (sb_cons (ss_setO (i := 3) sc_law0.nd rfl (by first | exact Or.inl rfl | exact Or.inr rfl) (sa_cons (se_ld (pv 1)) (sa_nil)))
    (sb_cons (ss_for PassesOwn.never rfl (si_val (se_slice (se_ld (pv 0)) (so_some (se_int)) (so_some (se_int)))) (sg_name (pg_name (i := 4) sc_law0.nd rfl (by first | exact Or.inl rfl | exact Or.inr rfl))) (sb_one (ss_if (st_cmp opg_gt (se_bin opg_mod (se_callTy cg_int rfl T.n_int bo_int (sa_cons (se_ld (pv 4)) (sa_nil))) (se_int)) (se_int) (nomark _)) (sb_one (ss_app (pv 3) (se_callT G_l_changed hr rfl (T.ff .l_changed).m (T.ff .l_changed).F.kp (T.ff .l_changed).b (sf_call G_l_source hr rfl (T.ff .l_source).m (T.ff .l_source).F.kp (T.ff .l_source).b (sr_v (se_bin opg_fdiv (se_callTy cg_int rfl T.n_int bo_int (sa_cons (se_ld (pv 4)) (sa_nil))) (se_int)) (sr_nil))) (sr_v (se_ld (pv 1)) (sr_nil))))) (sb_one (ss_app (pv 3) (se_callT G_l_value hr rfl (T.ff .l_value).m (T.ff .l_value).F.kp (T.ff .l_value).b (sf_call G_l_source hr rfl (T.ff .l_source).m (T.ff .l_source).F.kp (T.ff .l_source).b (sr_v (se_bin opg_fdiv (se_callTy cg_int rfl T.n_int bo_int (sa_cons (se_ld (pv 4)) (sa_nil))) (se_int)) (sr_nil))) (sr_v (se_int) (sr_nil))))))))
    (sb_one (ss_ret (se_callB (cg_all rfl) rfl T.n_all bo_all (sa_cons (se_lcO (own := [("value", 5)]) rfl sc_law0.nd (pv 3) (by decide) (blkOk_by (own := [("value", 5)]) (N := ["script", "guide", "formula", "values", "cell", "value"]) (sc := defScope s_law0) (by decide +kernel)) (fun _ _ _ _ _ => sgw_name (pg_name (i := 5) sc_law0.nd rfl (by first | exact Or.inl rfl | exact Or.inr rfl)) (by decide)) (fun _ _ _ _ _ => sq_nil) (fun _ _ _ _ _ => se_cmp (opg_eq (hu200 hr)) (se_call (CX := CX0) G_l_holds hr rfl (T.ff .l_holds).m (T.ff .l_holds).F.kp (T.ff .l_holds).b (sr_v (se_ld (pv 2)) (sr_v (se_ld (pv 5)) (sr_v (se_non) (sr_nil))))) (se_cmp (opg_eq (hu200 hr)) (se_ld (pv 5)) (se_ld (pv 1)) (nomark _)) (nomark _))) (sa_nil)))))))))
def Ok (P : Program) (w : World) (K : PySem.W.Frag) (mg : Str → Option Value) (base : Heap) (T : Facts K mg w) (n : Nat) : Fn → Prop
  | .p_bounded_formula => FnOk P w K mg base CX0 (n) (T.ff .p_bounded_formula).f (T.ff .p_bounded_formula).fd ["kind", "word", "low", "high"] (spF [] K 4 (sem (n) .p_bounded_formula))
  | .p_items_formula => FnOk P w K mg base CX0 (n) (T.ff .p_items_formula).f (T.ff .p_items_formula).fd ["formulas"] (spF [] K 1 (sem (n) .p_items_formula))
  | .p_field_formula => FnOk P w K mg base CX0 (n) (T.ff .p_field_formula).f (T.ff .p_field_formula).fd ["name", "formula", "required"] (spF [] K 3 (sem (n) .p_field_formula))
  | .p_fields_formula => FnOk P w K mg base CX0 (n) (T.ff .p_fields_formula).f (T.ff .p_fields_formula).fd ["rows", "others"] (spF [] K 2 (sem (n) .p_fields_formula))
  | .p_equal_formula => FnOk P w K mg base CX0 (n) (T.ff .p_equal_formula).f (T.ff .p_equal_formula).fd ["value"] (spF [] K 1 (sem (n) .p_equal_formula))
  | .l_child => FnOk P w K mg base CX0 (n) (T.ff .l_child).f (T.ff .l_child).fd ["value", "token"] (spF [] K 2 (sem (n) .l_child))
  | .l_lookup => FnOk P w K mg base CX0 (n) (T.ff .l_lookup).f (T.ff .l_lookup).fd ["value", "path"] (spF [] K 2 (sem (n) .l_lookup))
  | .l_with => FnOk P w K mg base CX0 (n) (T.ff .l_with).f (T.ff .l_with).fd ["value", "token", "new"] (spF [] K 3 (sem (n) .l_with))
  | .l_replace => FnOk P w K mg base CX0 (n) (T.ff .l_replace).f (T.ff .l_replace).fd ["value", "path", "new"] (spF [] K 3 (sem (n) .l_replace))
  | .l_put => FnOk P w K mg base CX0 (n) (T.ff .l_put).f (T.ff .l_put).fd ["value", "path", "new"] (spF [] K 3 (sem (n) .l_put))
  | .l_take => FnOk P w K mg base CX0 (n) (T.ff .l_take).f (T.ff .l_take).fd ["value", "path"] (spF [] K 2 (sem (n) .l_take))
  | .l_holds => FnOk P w K mg base CX0 (n) (T.ff .l_holds).f (T.ff .l_holds).fd ["formula", "value", "held"] (spF [] K 3 (sem (n) .l_holds))
  | .l_is_integer => FnOk P w K mg base CX0 (n) (T.ff .l_is_integer).f (T.ff .l_is_integer).fd ["number"] (spF [] K 1 (sem (n) .l_is_integer))
  | .l_is_string => FnOk P w K mg base CX0 (n) (T.ff .l_is_string).f (T.ff .l_is_string).fd ["string"] (spF [] K 1 (sem (n) .l_is_string))
  | .l_is_token => FnOk P w K mg base CX0 (n) (T.ff .l_is_token).f (T.ff .l_is_token).fd ["token"] (spF [] K 1 (sem (n) .l_is_token))
  | .l_formula_parts => FnOk P w K mg base CX0 (n) (T.ff .l_formula_parts).f (T.ff .l_formula_parts).fd ["formula", "plain"] (spF [] K 2 (sem (n) .l_formula_parts))
  | .l_is_formula => FnOk P w K mg base CX0 (n) (T.ff .l_is_formula).f (T.ff .l_is_formula).fd ["formula", "plain", "depth"] (spF [] K 3 (sem (n) .l_is_formula))
  | .l_cell => FnOk P w K mg base CX0 (n) (T.ff .l_cell).f (T.ff .l_cell).fd ["script", "k"] (spF [] K 2 (sem (n) .l_cell))
  | .l_source => FnOk P w K mg base CX0 (n) (T.ff .l_source).f (T.ff .l_source).fd ["cell"] (spN [] K 1 (semN (n) .l_source))
  | .l_draw => FnOk P w K mg base CX0 (n) (T.ff .l_draw).f (T.ff .l_draw).fd ["source", "many"] (spF [] K 2 (sem (n) .l_draw))
  | .l_char => FnOk P w K mg base CX0 (n) (T.ff .l_char).f (T.ff .l_char).fd ["source"] (spF [] K 1 (sem (n) .l_char))
  | .l_name => FnOk P w K mg base CX0 (n) (T.ff .l_name).f (T.ff .l_name).fd ["source"] (spF [] K 1 (sem (n) .l_name))
  | .l_number => FnOk P w K mg base CX0 (n) (T.ff .l_number).f (T.ff .l_number).fd ["source"] (spF [] K 1 (sem (n) .l_number))
  | .l_leaf => FnOk P w K mg base CX0 (n) (T.ff .l_leaf).f (T.ff .l_leaf).fd ["source"] (spF [] K 1 (sem (n) .l_leaf))
  | .l_object => FnOk P w K mg base CX0 (n) (T.ff .l_object).f (T.ff .l_object).fd ["pairs"] (spF [] K 1 (sem (n) .l_object))
  | .l_value => FnOk P w K mg base CX0 (n) (T.ff .l_value).f (T.ff .l_value).fd ["source", "depth"] (spF [] K 2 (sem (n) .l_value))
  | .l_wide => FnOk P w K mg base CX0 (n) (T.ff .l_wide).f (T.ff .l_wide).fd ["source", "depth"] (spF [] K 2 (sem (n) .l_wide))
  | .l_token => FnOk P w K mg base CX0 (n) (T.ff .l_token).f (T.ff .l_token).fd ["source", "value"] (spF [] K 2 (sem (n) .l_token))
  | .l_path => FnOk P w K mg base CX0 (n) (T.ff .l_path).f (T.ff .l_path).fd ["source", "value", "most"] (spF [] K 3 (sem (n) .l_path))
  | .l_target => FnOk P w K mg base CX0 (n) (T.ff .l_target).f (T.ff .l_target).fd ["source", "value", "most"] (spF [] K 3 (sem (n) .l_target))
  | .l_changed => FnOk P w K mg base CX0 (n) (T.ff .l_changed).f (T.ff .l_changed).fd ["source", "value"] (spF [] K 2 (sem (n) .l_changed))
  | .law0 => FnOk P w K mg base CX0 (n) (T.ff .law0).f (T.ff .law0).fd ["script"] (spF [] K 1 (sem (n) .law0))
theorem all_ok (T : Facts K mg w) : ∀ n i, Ok P w K mg base T n i
  | 0, i => by
    cases i
    case p_bounded_formula => exact fn_none
    case p_items_formula => exact fn_none
    case p_field_formula => exact fn_none
    case p_fields_formula => exact fn_none
    case p_equal_formula => exact fn_none
    case l_child => exact fn_none
    case l_lookup => exact fn_none
    case l_with => exact fn_none
    case l_replace => exact fn_none
    case l_put => exact fn_none
    case l_take => exact fn_none
    case l_holds => exact fn_none
    case l_is_integer => exact fn_none
    case l_is_string => exact fn_none
    case l_is_token => exact fn_none
    case l_formula_parts => exact fn_none
    case l_is_formula => exact fn_none
    case l_cell => exact fn_none
    case l_source => exact fn_noneN
    case l_draw => exact fn_none
    case l_char => exact fn_none
    case l_name => exact fn_none
    case l_number => exact fn_none
    case l_leaf => exact fn_none
    case l_object => exact fn_none
    case l_value => exact fn_none
    case l_wide => exact fn_none
    case l_token => exact fn_none
    case l_path => exact fn_none
    case l_target => exact fn_none
    case l_changed => exact fn_none
    case law0 => exact fn_none
  | n + 1, i => by
    have h := all_ok T n
    cases i
    case p_bounded_formula => exact ok_p_bounded_formula T n
    case p_items_formula => exact ok_p_items_formula T n (h .p_bounded_formula)
    case p_field_formula => exact ok_p_field_formula T n
    case p_fields_formula => exact ok_p_fields_formula T n (h .p_field_formula)
    case p_equal_formula => exact ok_p_equal_formula T n (h .p_bounded_formula) (h .p_items_formula) (h .p_fields_formula) (h .p_equal_formula)
    case l_child => exact ok_l_child T n
    case l_lookup => exact ok_l_lookup T n (h .l_child)
    case l_with => exact ok_l_with T n
    case l_replace => exact ok_l_replace T n (h .l_child) (h .l_with) (h .l_replace)
    case l_put => exact ok_l_put T n (h .l_lookup) (h .l_with) (h .l_replace)
    case l_take => exact ok_l_take T n (h .l_lookup) (h .l_replace)
    case l_holds => exact ok_l_holds T n (h .l_lookup) (h .l_holds)
    case l_is_integer => exact ok_l_is_integer T n
    case l_is_string => exact ok_l_is_string T n
    case l_is_token => exact ok_l_is_token T n (h .l_is_integer) (h .l_is_string)
    case l_formula_parts => exact ok_l_formula_parts T n (h .l_is_integer) (h .l_is_string) (h .l_is_token)
    case l_is_formula => exact ok_l_is_formula T n (h .l_formula_parts)
    case l_cell => exact ok_l_cell T n
    case l_source => exact ok_l_source T n
    case l_draw => exact ok_l_draw T n
    case l_char => exact ok_l_char T n (h .l_draw)
    case l_name => exact ok_l_name T n (h .l_draw) (h .l_char)
    case l_number => exact ok_l_number T n (h .l_draw)
    case l_leaf => exact ok_l_leaf T n (h .l_draw) (h .l_name) (h .l_number)
    case l_object => exact ok_l_object T n (h .l_with)
    case l_value => exact ok_l_value T n (h .l_draw) (h .l_name) (h .l_leaf) (h .l_object) (h .l_value)
    case l_wide => exact ok_l_wide T n (h .l_draw) (h .l_name) (h .l_leaf) (h .l_object) (h .l_value)
    case l_token => exact ok_l_token T n (h .l_draw)
    case l_path => exact ok_l_path T n (h .l_child) (h .l_draw) (h .l_name) (h .l_token)
    case l_target => exact ok_l_target T n (h .l_lookup) (h .l_draw) (h .l_name) (h .l_path)
    case l_changed => exact ok_l_changed T n (h .l_replace) (h .l_put) (h .l_take) (h .l_draw) (h .l_leaf) (h .l_path) (h .l_target)
    case law0 => exact ok_law0 T n (h .p_equal_formula) (h .l_holds) (h .l_is_formula) (h .l_cell) (h .l_source) (h .l_value) (h .l_wide) (h .l_changed)
end
noncomputable def ff_p_bounded_formula {K : PySem.W.Frag} {h : Heap} {mg : Str → Option Value} (X : K.In h) (G : h.Ns mainGlobals mg) {f : Addr} {od an : Option Addr} {sl : Array (Option Value)} {oc kV dc pm cd ct : Value} (a : PySem.W.nsIn K mainGlobals "bounded_formula" = some (some (.ref f))) (l : K.lookup f = some ⟨oc, od, .func (PySem.W.fnOf "bounded_formula" "bounded_formula" (defArgs s_p_bounded_formula) (defBody s_p_bounded_formula) (defScope s_p_bounded_formula) .none kV dc pm an cd ct), sl⟩) (c : PySem.W.codeIn K cd "bounded_formula" = true) (k : PySem.W.keepIn K (.ref f) = true) : FF K mg "bounded_formula" s_p_bounded_formula ["kind", "word", "low", "high"] :=
  ⟨f, _, fun_mk (st := s_p_bounded_formula) l c k, (fun_mk (st := s_p_bounded_formula) l c k).binds (ps := ["kind", "word", "low", "high"]) fun _ _ _ _ _ _ us hl => match us, hl with | [_, _, _, _], _ => rfl, PySem.W.mg_of X G a⟩
noncomputable def ff_p_items_formula {K : PySem.W.Frag} {h : Heap} {mg : Str → Option Value} (X : K.In h) (G : h.Ns mainGlobals mg) {f : Addr} {od an : Option Addr} {sl : Array (Option Value)} {oc kV dc pm cd ct : Value} (a : PySem.W.nsIn K mainGlobals "items_formula" = some (some (.ref f))) (l : K.lookup f = some ⟨oc, od, .func (PySem.W.fnOf "items_formula" "items_formula" (defArgs s_p_items_formula) (defBody s_p_items_formula) (defScope s_p_items_formula) .none kV dc pm an cd ct), sl⟩) (c : PySem.W.codeIn K cd "items_formula" = true) (k : PySem.W.keepIn K (.ref f) = true) : FF K mg "items_formula" s_p_items_formula ["formulas"] :=
  ⟨f, _, fun_mk (st := s_p_items_formula) l c k, (fun_mk (st := s_p_items_formula) l c k).binds (ps := ["formulas"]) fun _ _ _ _ _ _ us hl => match us, hl with | [_], _ => rfl, PySem.W.mg_of X G a⟩
noncomputable def ff_p_field_formula {K : PySem.W.Frag} {h : Heap} {mg : Str → Option Value} (X : K.In h) (G : h.Ns mainGlobals mg) {f : Addr} {od an : Option Addr} {sl : Array (Option Value)} {oc kV dc pm cd ct : Value} (a : PySem.W.nsIn K mainGlobals "field_formula" = some (some (.ref f))) (l : K.lookup f = some ⟨oc, od, .func (PySem.W.fnOf "field_formula" "field_formula" (defArgs s_p_field_formula) (defBody s_p_field_formula) (defScope s_p_field_formula) .none kV dc pm an cd ct), sl⟩) (c : PySem.W.codeIn K cd "field_formula" = true) (k : PySem.W.keepIn K (.ref f) = true) : FF K mg "field_formula" s_p_field_formula ["name", "formula", "required"] :=
  ⟨f, _, fun_mk (st := s_p_field_formula) l c k, (fun_mk (st := s_p_field_formula) l c k).binds (ps := ["name", "formula", "required"]) fun _ _ _ _ _ _ us hl => match us, hl with | [_, _, _], _ => rfl, PySem.W.mg_of X G a⟩
noncomputable def ff_p_fields_formula {K : PySem.W.Frag} {h : Heap} {mg : Str → Option Value} (X : K.In h) (G : h.Ns mainGlobals mg) {f : Addr} {od an : Option Addr} {sl : Array (Option Value)} {oc kV dc pm cd ct : Value} (a : PySem.W.nsIn K mainGlobals "fields_formula" = some (some (.ref f))) (l : K.lookup f = some ⟨oc, od, .func (PySem.W.fnOf "fields_formula" "fields_formula" (defArgs s_p_fields_formula) (defBody s_p_fields_formula) (defScope s_p_fields_formula) .none kV dc pm an cd ct), sl⟩) (c : PySem.W.codeIn K cd "fields_formula" = true) (k : PySem.W.keepIn K (.ref f) = true) : FF K mg "fields_formula" s_p_fields_formula ["rows", "others"] :=
  ⟨f, _, fun_mk (st := s_p_fields_formula) l c k, (fun_mk (st := s_p_fields_formula) l c k).binds (ps := ["rows", "others"]) fun _ _ _ _ _ _ us hl => match us, hl with | [_, _], _ => rfl, PySem.W.mg_of X G a⟩
noncomputable def ff_p_equal_formula {K : PySem.W.Frag} {h : Heap} {mg : Str → Option Value} (X : K.In h) (G : h.Ns mainGlobals mg) {f : Addr} {od an : Option Addr} {sl : Array (Option Value)} {oc kV dc pm cd ct : Value} (a : PySem.W.nsIn K mainGlobals "equal_formula" = some (some (.ref f))) (l : K.lookup f = some ⟨oc, od, .func (PySem.W.fnOf "equal_formula" "equal_formula" (defArgs s_p_equal_formula) (defBody s_p_equal_formula) (defScope s_p_equal_formula) .none kV dc pm an cd ct), sl⟩) (c : PySem.W.codeIn K cd "equal_formula" = true) (k : PySem.W.keepIn K (.ref f) = true) : FF K mg "equal_formula" s_p_equal_formula ["value"] :=
  ⟨f, _, fun_mk (st := s_p_equal_formula) l c k, (fun_mk (st := s_p_equal_formula) l c k).binds (ps := ["value"]) fun _ _ _ _ _ _ us hl => match us, hl with | [_], _ => rfl, PySem.W.mg_of X G a⟩
noncomputable def ff_l_child {K : PySem.W.Frag} {h : Heap} {mg : Str → Option Value} (X : K.In h) (G : h.Ns mainGlobals mg) {f : Addr} {od an : Option Addr} {sl : Array (Option Value)} {oc kV dc pm cd ct : Value} (a : PySem.W.nsIn K mainGlobals "_law_child" = some (some (.ref f))) (l : K.lookup f = some ⟨oc, od, .func (PySem.W.fnOf "_law_child" "_law_child" (defArgs s_l_child) (defBody s_l_child) (defScope s_l_child) .none kV dc pm an cd ct), sl⟩) (c : PySem.W.codeIn K cd "_law_child" = true) (k : PySem.W.keepIn K (.ref f) = true) : FF K mg "_law_child" s_l_child ["value", "token"] :=
  ⟨f, _, fun_mk (st := s_l_child) l c k, (fun_mk (st := s_l_child) l c k).binds (ps := ["value", "token"]) fun _ _ _ _ _ _ us hl => match us, hl with | [_, _], _ => rfl, PySem.W.mg_of X G a⟩
noncomputable def ff_l_lookup {K : PySem.W.Frag} {h : Heap} {mg : Str → Option Value} (X : K.In h) (G : h.Ns mainGlobals mg) {f : Addr} {od an : Option Addr} {sl : Array (Option Value)} {oc kV dc pm cd ct : Value} (a : PySem.W.nsIn K mainGlobals "_law_lookup" = some (some (.ref f))) (l : K.lookup f = some ⟨oc, od, .func (PySem.W.fnOf "_law_lookup" "_law_lookup" (defArgs s_l_lookup) (defBody s_l_lookup) (defScope s_l_lookup) .none kV dc pm an cd ct), sl⟩) (c : PySem.W.codeIn K cd "_law_lookup" = true) (k : PySem.W.keepIn K (.ref f) = true) : FF K mg "_law_lookup" s_l_lookup ["value", "path"] :=
  ⟨f, _, fun_mk (st := s_l_lookup) l c k, (fun_mk (st := s_l_lookup) l c k).binds (ps := ["value", "path"]) fun _ _ _ _ _ _ us hl => match us, hl with | [_, _], _ => rfl, PySem.W.mg_of X G a⟩
noncomputable def ff_l_with {K : PySem.W.Frag} {h : Heap} {mg : Str → Option Value} (X : K.In h) (G : h.Ns mainGlobals mg) {f : Addr} {od an : Option Addr} {sl : Array (Option Value)} {oc kV dc pm cd ct : Value} (a : PySem.W.nsIn K mainGlobals "_law_with" = some (some (.ref f))) (l : K.lookup f = some ⟨oc, od, .func (PySem.W.fnOf "_law_with" "_law_with" (defArgs s_l_with) (defBody s_l_with) (defScope s_l_with) .none kV dc pm an cd ct), sl⟩) (c : PySem.W.codeIn K cd "_law_with" = true) (k : PySem.W.keepIn K (.ref f) = true) : FF K mg "_law_with" s_l_with ["value", "token", "new"] :=
  ⟨f, _, fun_mk (st := s_l_with) l c k, (fun_mk (st := s_l_with) l c k).binds (ps := ["value", "token", "new"]) fun _ _ _ _ _ _ us hl => match us, hl with | [_, _, _], _ => rfl, PySem.W.mg_of X G a⟩
noncomputable def ff_l_replace {K : PySem.W.Frag} {h : Heap} {mg : Str → Option Value} (X : K.In h) (G : h.Ns mainGlobals mg) {f : Addr} {od an : Option Addr} {sl : Array (Option Value)} {oc kV dc pm cd ct : Value} (a : PySem.W.nsIn K mainGlobals "_law_replace" = some (some (.ref f))) (l : K.lookup f = some ⟨oc, od, .func (PySem.W.fnOf "_law_replace" "_law_replace" (defArgs s_l_replace) (defBody s_l_replace) (defScope s_l_replace) .none kV dc pm an cd ct), sl⟩) (c : PySem.W.codeIn K cd "_law_replace" = true) (k : PySem.W.keepIn K (.ref f) = true) : FF K mg "_law_replace" s_l_replace ["value", "path", "new"] :=
  ⟨f, _, fun_mk (st := s_l_replace) l c k, (fun_mk (st := s_l_replace) l c k).binds (ps := ["value", "path", "new"]) fun _ _ _ _ _ _ us hl => match us, hl with | [_, _, _], _ => rfl, PySem.W.mg_of X G a⟩
noncomputable def ff_l_put {K : PySem.W.Frag} {h : Heap} {mg : Str → Option Value} (X : K.In h) (G : h.Ns mainGlobals mg) {f : Addr} {od an : Option Addr} {sl : Array (Option Value)} {oc kV dc pm cd ct : Value} (a : PySem.W.nsIn K mainGlobals "_law_put" = some (some (.ref f))) (l : K.lookup f = some ⟨oc, od, .func (PySem.W.fnOf "_law_put" "_law_put" (defArgs s_l_put) (defBody s_l_put) (defScope s_l_put) .none kV dc pm an cd ct), sl⟩) (c : PySem.W.codeIn K cd "_law_put" = true) (k : PySem.W.keepIn K (.ref f) = true) : FF K mg "_law_put" s_l_put ["value", "path", "new"] :=
  ⟨f, _, fun_mk (st := s_l_put) l c k, (fun_mk (st := s_l_put) l c k).binds (ps := ["value", "path", "new"]) fun _ _ _ _ _ _ us hl => match us, hl with | [_, _, _], _ => rfl, PySem.W.mg_of X G a⟩
noncomputable def ff_l_take {K : PySem.W.Frag} {h : Heap} {mg : Str → Option Value} (X : K.In h) (G : h.Ns mainGlobals mg) {f : Addr} {od an : Option Addr} {sl : Array (Option Value)} {oc kV dc pm cd ct : Value} (a : PySem.W.nsIn K mainGlobals "_law_take" = some (some (.ref f))) (l : K.lookup f = some ⟨oc, od, .func (PySem.W.fnOf "_law_take" "_law_take" (defArgs s_l_take) (defBody s_l_take) (defScope s_l_take) .none kV dc pm an cd ct), sl⟩) (c : PySem.W.codeIn K cd "_law_take" = true) (k : PySem.W.keepIn K (.ref f) = true) : FF K mg "_law_take" s_l_take ["value", "path"] :=
  ⟨f, _, fun_mk (st := s_l_take) l c k, (fun_mk (st := s_l_take) l c k).binds (ps := ["value", "path"]) fun _ _ _ _ _ _ us hl => match us, hl with | [_, _], _ => rfl, PySem.W.mg_of X G a⟩
noncomputable def ff_l_holds {K : PySem.W.Frag} {h : Heap} {mg : Str → Option Value} (X : K.In h) (G : h.Ns mainGlobals mg) {f : Addr} {od an : Option Addr} {sl : Array (Option Value)} {oc kV dc pm cd ct : Value} (a : PySem.W.nsIn K mainGlobals "_law_holds" = some (some (.ref f))) (l : K.lookup f = some ⟨oc, od, .func (PySem.W.fnOf "_law_holds" "_law_holds" (defArgs s_l_holds) (defBody s_l_holds) (defScope s_l_holds) .none kV dc pm an cd ct), sl⟩) (c : PySem.W.codeIn K cd "_law_holds" = true) (k : PySem.W.keepIn K (.ref f) = true) : FF K mg "_law_holds" s_l_holds ["formula", "value", "held"] :=
  ⟨f, _, fun_mk (st := s_l_holds) l c k, (fun_mk (st := s_l_holds) l c k).binds (ps := ["formula", "value", "held"]) fun _ _ _ _ _ _ us hl => match us, hl with | [_, _, _], _ => rfl, PySem.W.mg_of X G a⟩
noncomputable def ff_l_is_integer {K : PySem.W.Frag} {h : Heap} {mg : Str → Option Value} (X : K.In h) (G : h.Ns mainGlobals mg) {f : Addr} {od an : Option Addr} {sl : Array (Option Value)} {oc kV dc pm cd ct : Value} (a : PySem.W.nsIn K mainGlobals "_law_is_integer" = some (some (.ref f))) (l : K.lookup f = some ⟨oc, od, .func (PySem.W.fnOf "_law_is_integer" "_law_is_integer" (defArgs s_l_is_integer) (defBody s_l_is_integer) (defScope s_l_is_integer) .none kV dc pm an cd ct), sl⟩) (c : PySem.W.codeIn K cd "_law_is_integer" = true) (k : PySem.W.keepIn K (.ref f) = true) : FF K mg "_law_is_integer" s_l_is_integer ["number"] :=
  ⟨f, _, fun_mk (st := s_l_is_integer) l c k, (fun_mk (st := s_l_is_integer) l c k).binds (ps := ["number"]) fun _ _ _ _ _ _ us hl => match us, hl with | [_], _ => rfl, PySem.W.mg_of X G a⟩
noncomputable def ff_l_is_string {K : PySem.W.Frag} {h : Heap} {mg : Str → Option Value} (X : K.In h) (G : h.Ns mainGlobals mg) {f : Addr} {od an : Option Addr} {sl : Array (Option Value)} {oc kV dc pm cd ct : Value} (a : PySem.W.nsIn K mainGlobals "_law_is_string" = some (some (.ref f))) (l : K.lookup f = some ⟨oc, od, .func (PySem.W.fnOf "_law_is_string" "_law_is_string" (defArgs s_l_is_string) (defBody s_l_is_string) (defScope s_l_is_string) .none kV dc pm an cd ct), sl⟩) (c : PySem.W.codeIn K cd "_law_is_string" = true) (k : PySem.W.keepIn K (.ref f) = true) : FF K mg "_law_is_string" s_l_is_string ["string"] :=
  ⟨f, _, fun_mk (st := s_l_is_string) l c k, (fun_mk (st := s_l_is_string) l c k).binds (ps := ["string"]) fun _ _ _ _ _ _ us hl => match us, hl with | [_], _ => rfl, PySem.W.mg_of X G a⟩
noncomputable def ff_l_is_token {K : PySem.W.Frag} {h : Heap} {mg : Str → Option Value} (X : K.In h) (G : h.Ns mainGlobals mg) {f : Addr} {od an : Option Addr} {sl : Array (Option Value)} {oc kV dc pm cd ct : Value} (a : PySem.W.nsIn K mainGlobals "_law_is_token" = some (some (.ref f))) (l : K.lookup f = some ⟨oc, od, .func (PySem.W.fnOf "_law_is_token" "_law_is_token" (defArgs s_l_is_token) (defBody s_l_is_token) (defScope s_l_is_token) .none kV dc pm an cd ct), sl⟩) (c : PySem.W.codeIn K cd "_law_is_token" = true) (k : PySem.W.keepIn K (.ref f) = true) : FF K mg "_law_is_token" s_l_is_token ["token"] :=
  ⟨f, _, fun_mk (st := s_l_is_token) l c k, (fun_mk (st := s_l_is_token) l c k).binds (ps := ["token"]) fun _ _ _ _ _ _ us hl => match us, hl with | [_], _ => rfl, PySem.W.mg_of X G a⟩
noncomputable def ff_l_formula_parts {K : PySem.W.Frag} {h : Heap} {mg : Str → Option Value} (X : K.In h) (G : h.Ns mainGlobals mg) {f : Addr} {od an : Option Addr} {sl : Array (Option Value)} {oc kV dc pm cd ct : Value} (a : PySem.W.nsIn K mainGlobals "_law_formula_parts" = some (some (.ref f))) (l : K.lookup f = some ⟨oc, od, .func (PySem.W.fnOf "_law_formula_parts" "_law_formula_parts" (defArgs s_l_formula_parts) (defBody s_l_formula_parts) (defScope s_l_formula_parts) .none kV dc pm an cd ct), sl⟩) (c : PySem.W.codeIn K cd "_law_formula_parts" = true) (k : PySem.W.keepIn K (.ref f) = true) : FF K mg "_law_formula_parts" s_l_formula_parts ["formula", "plain"] :=
  ⟨f, _, fun_mk (st := s_l_formula_parts) l c k, (fun_mk (st := s_l_formula_parts) l c k).binds (ps := ["formula", "plain"]) fun _ _ _ _ _ _ us hl => match us, hl with | [_, _], _ => rfl, PySem.W.mg_of X G a⟩
noncomputable def ff_l_is_formula {K : PySem.W.Frag} {h : Heap} {mg : Str → Option Value} (X : K.In h) (G : h.Ns mainGlobals mg) {f : Addr} {od an : Option Addr} {sl : Array (Option Value)} {oc kV dc pm cd ct : Value} (a : PySem.W.nsIn K mainGlobals "_law_is_formula" = some (some (.ref f))) (l : K.lookup f = some ⟨oc, od, .func (PySem.W.fnOf "_law_is_formula" "_law_is_formula" (defArgs s_l_is_formula) (defBody s_l_is_formula) (defScope s_l_is_formula) .none kV dc pm an cd ct), sl⟩) (c : PySem.W.codeIn K cd "_law_is_formula" = true) (k : PySem.W.keepIn K (.ref f) = true) : FF K mg "_law_is_formula" s_l_is_formula ["formula", "plain", "depth"] :=
  ⟨f, _, fun_mk (st := s_l_is_formula) l c k, (fun_mk (st := s_l_is_formula) l c k).binds (ps := ["formula", "plain", "depth"]) fun _ _ _ _ _ _ us hl => match us, hl with | [_, _, _], _ => rfl, PySem.W.mg_of X G a⟩
noncomputable def ff_l_cell {K : PySem.W.Frag} {h : Heap} {mg : Str → Option Value} (X : K.In h) (G : h.Ns mainGlobals mg) {f : Addr} {od an : Option Addr} {sl : Array (Option Value)} {oc kV dc pm cd ct : Value} (a : PySem.W.nsIn K mainGlobals "_law_cell" = some (some (.ref f))) (l : K.lookup f = some ⟨oc, od, .func (PySem.W.fnOf "_law_cell" "_law_cell" (defArgs s_l_cell) (defBody s_l_cell) (defScope s_l_cell) .none kV dc pm an cd ct), sl⟩) (c : PySem.W.codeIn K cd "_law_cell" = true) (k : PySem.W.keepIn K (.ref f) = true) : FF K mg "_law_cell" s_l_cell ["script", "k"] :=
  ⟨f, _, fun_mk (st := s_l_cell) l c k, (fun_mk (st := s_l_cell) l c k).binds (ps := ["script", "k"]) fun _ _ _ _ _ _ us hl => match us, hl with | [_, _], _ => rfl, PySem.W.mg_of X G a⟩
noncomputable def ff_l_source {K : PySem.W.Frag} {h : Heap} {mg : Str → Option Value} (X : K.In h) (G : h.Ns mainGlobals mg) {f : Addr} {od an : Option Addr} {sl : Array (Option Value)} {oc kV dc pm cd ct : Value} (a : PySem.W.nsIn K mainGlobals "_law_source" = some (some (.ref f))) (l : K.lookup f = some ⟨oc, od, .func (PySem.W.fnOf "_law_source" "_law_source" (defArgs s_l_source) (defBody s_l_source) (defScope s_l_source) .none kV dc pm an cd ct), sl⟩) (c : PySem.W.codeIn K cd "_law_source" = true) (k : PySem.W.keepIn K (.ref f) = true) : FF K mg "_law_source" s_l_source ["cell"] :=
  ⟨f, _, fun_mk (st := s_l_source) l c k, (fun_mk (st := s_l_source) l c k).binds (ps := ["cell"]) fun _ _ _ _ _ _ us hl => match us, hl with | [_], _ => rfl, PySem.W.mg_of X G a⟩
noncomputable def ff_l_draw {K : PySem.W.Frag} {h : Heap} {mg : Str → Option Value} (X : K.In h) (G : h.Ns mainGlobals mg) {f : Addr} {od an : Option Addr} {sl : Array (Option Value)} {oc kV dc pm cd ct : Value} (a : PySem.W.nsIn K mainGlobals "_law_draw" = some (some (.ref f))) (l : K.lookup f = some ⟨oc, od, .func (PySem.W.fnOf "_law_draw" "_law_draw" (defArgs s_l_draw) (defBody s_l_draw) (defScope s_l_draw) .none kV dc pm an cd ct), sl⟩) (c : PySem.W.codeIn K cd "_law_draw" = true) (k : PySem.W.keepIn K (.ref f) = true) : FF K mg "_law_draw" s_l_draw ["source", "many"] :=
  ⟨f, _, fun_mk (st := s_l_draw) l c k, (fun_mk (st := s_l_draw) l c k).binds (ps := ["source", "many"]) fun _ _ _ _ _ _ us hl => match us, hl with | [_, _], _ => rfl, PySem.W.mg_of X G a⟩
noncomputable def ff_l_char {K : PySem.W.Frag} {h : Heap} {mg : Str → Option Value} (X : K.In h) (G : h.Ns mainGlobals mg) {f : Addr} {od an : Option Addr} {sl : Array (Option Value)} {oc kV dc pm cd ct : Value} (a : PySem.W.nsIn K mainGlobals "_law_char" = some (some (.ref f))) (l : K.lookup f = some ⟨oc, od, .func (PySem.W.fnOf "_law_char" "_law_char" (defArgs s_l_char) (defBody s_l_char) (defScope s_l_char) .none kV dc pm an cd ct), sl⟩) (c : PySem.W.codeIn K cd "_law_char" = true) (k : PySem.W.keepIn K (.ref f) = true) : FF K mg "_law_char" s_l_char ["source"] :=
  ⟨f, _, fun_mk (st := s_l_char) l c k, (fun_mk (st := s_l_char) l c k).binds (ps := ["source"]) fun _ _ _ _ _ _ us hl => match us, hl with | [_], _ => rfl, PySem.W.mg_of X G a⟩
noncomputable def ff_l_name {K : PySem.W.Frag} {h : Heap} {mg : Str → Option Value} (X : K.In h) (G : h.Ns mainGlobals mg) {f : Addr} {od an : Option Addr} {sl : Array (Option Value)} {oc kV dc pm cd ct : Value} (a : PySem.W.nsIn K mainGlobals "_law_name" = some (some (.ref f))) (l : K.lookup f = some ⟨oc, od, .func (PySem.W.fnOf "_law_name" "_law_name" (defArgs s_l_name) (defBody s_l_name) (defScope s_l_name) .none kV dc pm an cd ct), sl⟩) (c : PySem.W.codeIn K cd "_law_name" = true) (k : PySem.W.keepIn K (.ref f) = true) : FF K mg "_law_name" s_l_name ["source"] :=
  ⟨f, _, fun_mk (st := s_l_name) l c k, (fun_mk (st := s_l_name) l c k).binds (ps := ["source"]) fun _ _ _ _ _ _ us hl => match us, hl with | [_], _ => rfl, PySem.W.mg_of X G a⟩
noncomputable def ff_l_number {K : PySem.W.Frag} {h : Heap} {mg : Str → Option Value} (X : K.In h) (G : h.Ns mainGlobals mg) {f : Addr} {od an : Option Addr} {sl : Array (Option Value)} {oc kV dc pm cd ct : Value} (a : PySem.W.nsIn K mainGlobals "_law_number" = some (some (.ref f))) (l : K.lookup f = some ⟨oc, od, .func (PySem.W.fnOf "_law_number" "_law_number" (defArgs s_l_number) (defBody s_l_number) (defScope s_l_number) .none kV dc pm an cd ct), sl⟩) (c : PySem.W.codeIn K cd "_law_number" = true) (k : PySem.W.keepIn K (.ref f) = true) : FF K mg "_law_number" s_l_number ["source"] :=
  ⟨f, _, fun_mk (st := s_l_number) l c k, (fun_mk (st := s_l_number) l c k).binds (ps := ["source"]) fun _ _ _ _ _ _ us hl => match us, hl with | [_], _ => rfl, PySem.W.mg_of X G a⟩
noncomputable def ff_l_leaf {K : PySem.W.Frag} {h : Heap} {mg : Str → Option Value} (X : K.In h) (G : h.Ns mainGlobals mg) {f : Addr} {od an : Option Addr} {sl : Array (Option Value)} {oc kV dc pm cd ct : Value} (a : PySem.W.nsIn K mainGlobals "_law_leaf" = some (some (.ref f))) (l : K.lookup f = some ⟨oc, od, .func (PySem.W.fnOf "_law_leaf" "_law_leaf" (defArgs s_l_leaf) (defBody s_l_leaf) (defScope s_l_leaf) .none kV dc pm an cd ct), sl⟩) (c : PySem.W.codeIn K cd "_law_leaf" = true) (k : PySem.W.keepIn K (.ref f) = true) : FF K mg "_law_leaf" s_l_leaf ["source"] :=
  ⟨f, _, fun_mk (st := s_l_leaf) l c k, (fun_mk (st := s_l_leaf) l c k).binds (ps := ["source"]) fun _ _ _ _ _ _ us hl => match us, hl with | [_], _ => rfl, PySem.W.mg_of X G a⟩
noncomputable def ff_l_object {K : PySem.W.Frag} {h : Heap} {mg : Str → Option Value} (X : K.In h) (G : h.Ns mainGlobals mg) {f : Addr} {od an : Option Addr} {sl : Array (Option Value)} {oc kV dc pm cd ct : Value} (a : PySem.W.nsIn K mainGlobals "_law_object" = some (some (.ref f))) (l : K.lookup f = some ⟨oc, od, .func (PySem.W.fnOf "_law_object" "_law_object" (defArgs s_l_object) (defBody s_l_object) (defScope s_l_object) .none kV dc pm an cd ct), sl⟩) (c : PySem.W.codeIn K cd "_law_object" = true) (k : PySem.W.keepIn K (.ref f) = true) : FF K mg "_law_object" s_l_object ["pairs"] :=
  ⟨f, _, fun_mk (st := s_l_object) l c k, (fun_mk (st := s_l_object) l c k).binds (ps := ["pairs"]) fun _ _ _ _ _ _ us hl => match us, hl with | [_], _ => rfl, PySem.W.mg_of X G a⟩
noncomputable def ff_l_value {K : PySem.W.Frag} {h : Heap} {mg : Str → Option Value} (X : K.In h) (G : h.Ns mainGlobals mg) {f : Addr} {od an : Option Addr} {sl : Array (Option Value)} {oc kV dc pm cd ct : Value} (a : PySem.W.nsIn K mainGlobals "_law_value" = some (some (.ref f))) (l : K.lookup f = some ⟨oc, od, .func (PySem.W.fnOf "_law_value" "_law_value" (defArgs s_l_value) (defBody s_l_value) (defScope s_l_value) .none kV dc pm an cd ct), sl⟩) (c : PySem.W.codeIn K cd "_law_value" = true) (k : PySem.W.keepIn K (.ref f) = true) : FF K mg "_law_value" s_l_value ["source", "depth"] :=
  ⟨f, _, fun_mk (st := s_l_value) l c k, (fun_mk (st := s_l_value) l c k).binds (ps := ["source", "depth"]) fun _ _ _ _ _ _ us hl => match us, hl with | [_, _], _ => rfl, PySem.W.mg_of X G a⟩
noncomputable def ff_l_wide {K : PySem.W.Frag} {h : Heap} {mg : Str → Option Value} (X : K.In h) (G : h.Ns mainGlobals mg) {f : Addr} {od an : Option Addr} {sl : Array (Option Value)} {oc kV dc pm cd ct : Value} (a : PySem.W.nsIn K mainGlobals "_law_wide" = some (some (.ref f))) (l : K.lookup f = some ⟨oc, od, .func (PySem.W.fnOf "_law_wide" "_law_wide" (defArgs s_l_wide) (defBody s_l_wide) (defScope s_l_wide) .none kV dc pm an cd ct), sl⟩) (c : PySem.W.codeIn K cd "_law_wide" = true) (k : PySem.W.keepIn K (.ref f) = true) : FF K mg "_law_wide" s_l_wide ["source", "depth"] :=
  ⟨f, _, fun_mk (st := s_l_wide) l c k, (fun_mk (st := s_l_wide) l c k).binds (ps := ["source", "depth"]) fun _ _ _ _ _ _ us hl => match us, hl with | [_, _], _ => rfl, PySem.W.mg_of X G a⟩
noncomputable def ff_l_token {K : PySem.W.Frag} {h : Heap} {mg : Str → Option Value} (X : K.In h) (G : h.Ns mainGlobals mg) {f : Addr} {od an : Option Addr} {sl : Array (Option Value)} {oc kV dc pm cd ct : Value} (a : PySem.W.nsIn K mainGlobals "_law_token" = some (some (.ref f))) (l : K.lookup f = some ⟨oc, od, .func (PySem.W.fnOf "_law_token" "_law_token" (defArgs s_l_token) (defBody s_l_token) (defScope s_l_token) .none kV dc pm an cd ct), sl⟩) (c : PySem.W.codeIn K cd "_law_token" = true) (k : PySem.W.keepIn K (.ref f) = true) : FF K mg "_law_token" s_l_token ["source", "value"] :=
  ⟨f, _, fun_mk (st := s_l_token) l c k, (fun_mk (st := s_l_token) l c k).binds (ps := ["source", "value"]) fun _ _ _ _ _ _ us hl => match us, hl with | [_, _], _ => rfl, PySem.W.mg_of X G a⟩
noncomputable def ff_l_path {K : PySem.W.Frag} {h : Heap} {mg : Str → Option Value} (X : K.In h) (G : h.Ns mainGlobals mg) {f : Addr} {od an : Option Addr} {sl : Array (Option Value)} {oc kV dc pm cd ct : Value} (a : PySem.W.nsIn K mainGlobals "_law_path" = some (some (.ref f))) (l : K.lookup f = some ⟨oc, od, .func (PySem.W.fnOf "_law_path" "_law_path" (defArgs s_l_path) (defBody s_l_path) (defScope s_l_path) .none kV dc pm an cd ct), sl⟩) (c : PySem.W.codeIn K cd "_law_path" = true) (k : PySem.W.keepIn K (.ref f) = true) : FF K mg "_law_path" s_l_path ["source", "value", "most"] :=
  ⟨f, _, fun_mk (st := s_l_path) l c k, (fun_mk (st := s_l_path) l c k).binds (ps := ["source", "value", "most"]) fun _ _ _ _ _ _ us hl => match us, hl with | [_, _, _], _ => rfl, PySem.W.mg_of X G a⟩
noncomputable def ff_l_target {K : PySem.W.Frag} {h : Heap} {mg : Str → Option Value} (X : K.In h) (G : h.Ns mainGlobals mg) {f : Addr} {od an : Option Addr} {sl : Array (Option Value)} {oc kV dc pm cd ct : Value} (a : PySem.W.nsIn K mainGlobals "_law_target" = some (some (.ref f))) (l : K.lookup f = some ⟨oc, od, .func (PySem.W.fnOf "_law_target" "_law_target" (defArgs s_l_target) (defBody s_l_target) (defScope s_l_target) .none kV dc pm an cd ct), sl⟩) (c : PySem.W.codeIn K cd "_law_target" = true) (k : PySem.W.keepIn K (.ref f) = true) : FF K mg "_law_target" s_l_target ["source", "value", "most"] :=
  ⟨f, _, fun_mk (st := s_l_target) l c k, (fun_mk (st := s_l_target) l c k).binds (ps := ["source", "value", "most"]) fun _ _ _ _ _ _ us hl => match us, hl with | [_, _, _], _ => rfl, PySem.W.mg_of X G a⟩
noncomputable def ff_l_changed {K : PySem.W.Frag} {h : Heap} {mg : Str → Option Value} (X : K.In h) (G : h.Ns mainGlobals mg) {f : Addr} {od an : Option Addr} {sl : Array (Option Value)} {oc kV dc pm cd ct : Value} (a : PySem.W.nsIn K mainGlobals "_law_changed" = some (some (.ref f))) (l : K.lookup f = some ⟨oc, od, .func (PySem.W.fnOf "_law_changed" "_law_changed" (defArgs s_l_changed) (defBody s_l_changed) (defScope s_l_changed) .none kV dc pm an cd ct), sl⟩) (c : PySem.W.codeIn K cd "_law_changed" = true) (k : PySem.W.keepIn K (.ref f) = true) : FF K mg "_law_changed" s_l_changed ["source", "value"] :=
  ⟨f, _, fun_mk (st := s_l_changed) l c k, (fun_mk (st := s_l_changed) l c k).binds (ps := ["source", "value"]) fun _ _ _ _ _ _ us hl => match us, hl with | [_, _], _ => rfl, PySem.W.mg_of X G a⟩
noncomputable def ff_law0 {K : PySem.W.Frag} {h : Heap} {mg : Str → Option Value} (X : K.In h) (G : h.Ns mainGlobals mg) {f : Addr} {od an : Option Addr} {sl : Array (Option Value)} {oc kV dc pm cd ct : Value} (a : PySem.W.nsIn K mainGlobals "law" = some (some (.ref f))) (l : K.lookup f = some ⟨oc, od, .func (PySem.W.fnOf "law" "law" (defArgs s_law0) (defBody s_law0) (defScope s_law0) .none kV dc pm an cd ct), sl⟩) (c : PySem.W.codeIn K cd "law" = true) (k : PySem.W.keepIn K (.ref f) = true) : FF K mg "law" s_law0 ["script"] :=
  ⟨f, _, fun_mk (st := s_law0) l c k, (fun_mk (st := s_law0) l c k).binds (ps := ["script"]) fun _ _ _ _ _ _ us hl => match us, hl with | [_], _ => rfl, PySem.W.mg_of X G a⟩
theorem top_mk {K : PySem.W.Frag} {h : Heap} {mg : Str → Option Value} {w : World} {fa : Addr} (X : K.In h) (G : h.Ns mainGlobals mg) (hfa : mg "law" = some (.ref fa))
    (x_p_bounded_formula : FF K mg "bounded_formula" s_p_bounded_formula ["kind", "word", "low", "high"])
    (x_p_items_formula : FF K mg "items_formula" s_p_items_formula ["formulas"])
    (x_p_field_formula : FF K mg "field_formula" s_p_field_formula ["name", "formula", "required"])
    (x_p_fields_formula : FF K mg "fields_formula" s_p_fields_formula ["rows", "others"])
    (x_p_equal_formula : FF K mg "equal_formula" s_p_equal_formula ["value"])
    (x_l_child : FF K mg "_law_child" s_l_child ["value", "token"])
    (x_l_lookup : FF K mg "_law_lookup" s_l_lookup ["value", "path"])
    (x_l_with : FF K mg "_law_with" s_l_with ["value", "token", "new"])
    (x_l_replace : FF K mg "_law_replace" s_l_replace ["value", "path", "new"])
    (x_l_put : FF K mg "_law_put" s_l_put ["value", "path", "new"])
    (x_l_take : FF K mg "_law_take" s_l_take ["value", "path"])
    (x_l_holds : FF K mg "_law_holds" s_l_holds ["formula", "value", "held"])
    (x_l_is_integer : FF K mg "_law_is_integer" s_l_is_integer ["number"])
    (x_l_is_string : FF K mg "_law_is_string" s_l_is_string ["string"])
    (x_l_is_token : FF K mg "_law_is_token" s_l_is_token ["token"])
    (x_l_formula_parts : FF K mg "_law_formula_parts" s_l_formula_parts ["formula", "plain"])
    (x_l_is_formula : FF K mg "_law_is_formula" s_l_is_formula ["formula", "plain", "depth"])
    (x_l_cell : FF K mg "_law_cell" s_l_cell ["script", "k"])
    (x_l_source : FF K mg "_law_source" s_l_source ["cell"])
    (x_l_draw : FF K mg "_law_draw" s_l_draw ["source", "many"])
    (x_l_char : FF K mg "_law_char" s_l_char ["source"])
    (x_l_name : FF K mg "_law_name" s_l_name ["source"])
    (x_l_number : FF K mg "_law_number" s_l_number ["source"])
    (x_l_leaf : FF K mg "_law_leaf" s_l_leaf ["source"])
    (x_l_object : FF K mg "_law_object" s_l_object ["pairs"])
    (x_l_value : FF K mg "_law_value" s_l_value ["source", "depth"])
    (x_l_wide : FF K mg "_law_wide" s_l_wide ["source", "depth"])
    (x_l_token : FF K mg "_law_token" s_l_token ["source", "value"])
    (x_l_path : FF K mg "_law_path" s_l_path ["source", "value", "most"])
    (x_l_target : FF K mg "_law_target" s_l_target ["source", "value", "most"])
    (x_l_changed : FF K mg "_law_changed" s_l_changed ["source", "value"])
    (x_law0 : FF K mg "law" s_law0 ["script"])
    (hb : ∀ (s : Shared) (u : Value), BindsTo s x_law0.fd ⟨[u], []⟩ [("script", u)])
    (z_all : PySem.W.nsIn K mainGlobals "all" = some none)
    (z_any : PySem.W.nsIn K mainGlobals "any" = some none)
    (z_bool : PySem.W.nsIn K mainGlobals "bool" = some none)
    (z_enumerate : PySem.W.nsIn K mainGlobals "enumerate" = some none)
    (z_int : PySem.W.nsIn K mainGlobals "int" = some none)
    (z_isinstance : PySem.W.nsIn K mainGlobals "isinstance" = some none)
    (z_len : PySem.W.nsIn K mainGlobals "len" = some none)
    (z_min : PySem.W.nsIn K mainGlobals "min" = some none)
    (z_ord : PySem.W.nsIn K mainGlobals "ord" = some none)
    (z_range : PySem.W.nsIn K mainGlobals "range" = some none)
    (z_str : PySem.W.nsIn K mainGlobals "str" = some none)
    (z_tuple : PySem.W.nsIn K mainGlobals "tuple" = some none)
    : ∃ T : Facts K mg w, (T.ff .law0).f = fa ∧ ∀ (s : Shared) (u : Value), BindsTo s (T.ff .law0).fd ⟨[u], []⟩ [("script", u)] := by
  have e := hfa.symm.trans x_law0.m
  cases e
  exact ⟨{ ff := (fun i => match i with | .p_bounded_formula => x_p_bounded_formula | .p_items_formula => x_p_items_formula | .p_field_formula => x_p_field_formula | .p_fields_formula => x_p_fields_formula | .p_equal_formula => x_p_equal_formula | .l_child => x_l_child | .l_lookup => x_l_lookup | .l_with => x_l_with | .l_replace => x_l_replace | .l_put => x_l_put | .l_take => x_l_take | .l_holds => x_l_holds | .l_is_integer => x_l_is_integer | .l_is_string => x_l_is_string | .l_is_token => x_l_is_token | .l_formula_parts => x_l_formula_parts | .l_is_formula => x_l_is_formula | .l_cell => x_l_cell | .l_source => x_l_source | .l_draw => x_l_draw | .l_char => x_l_char | .l_name => x_l_name | .l_number => x_l_number | .l_leaf => x_l_leaf | .l_object => x_l_object | .l_value => x_l_value | .l_wide => x_l_wide | .l_token => x_l_token | .l_path => x_l_path | .l_target => x_l_target | .l_changed => x_l_changed | .law0 => x_law0), n_all := PySem.W.mg_none_of X G z_all, n_any := PySem.W.mg_none_of X G z_any, n_bool := PySem.W.mg_none_of X G z_bool, n_enumerate := PySem.W.mg_none_of X G z_enumerate, n_int := PySem.W.mg_none_of X G z_int, n_isinstance := PySem.W.mg_none_of X G z_isinstance, n_len := PySem.W.mg_none_of X G z_len, n_min := PySem.W.mg_none_of X G z_min, n_ord := PySem.W.mg_none_of X G z_ord, n_range := PySem.W.mg_none_of X G z_range, n_str := PySem.W.mg_none_of X G z_str, n_tuple := PySem.W.mg_none_of X G z_tuple }, rfl, hb⟩
/-- from the pure fact to the row -/
def Says (N : Nat) : Prop := ∀ ns : List Int, ns.length ≤ 63 → (∀ z ∈ ns, Builtin.Int.intBits z ≤ 1048576) → ∃ rr, sem N .law0 [some (.d (.ro (ns.map D.int)))] = some (.bl true, rr)
theorem walk {N : Nat} (hR : Room N callerA) (say : Says N) {l : PySem.W.OpenLaw} {q : Program} {loose : List Str} {XP : (Str → Option Value) → Heap → Prop} {YP : World → Heap → Prop} {d : DefRec} {K : Params → PySem.W.Frag} (hn : l.most = some 63) (hdf : d.params.defaults = [])
    (hY : ∀ (w : World) (h : Heap), YP w h → (K w.params).In h)
    (F : ∀ (w : World) (mg : Str → Option Value) (fa : Addr) (h : Heap), (K w.params).In h → h.Ns mainGlobals mg → mg d.name = some (.ref fa) →
      ∃ T : Facts (K w.params) mg w, (T.ff .law0).f = fa ∧ ∀ (s : Shared) (u : Value), BindsTo s (T.ff .law0).fd ⟨[u], []⟩ [("script", u)]) :
    PySem.W.WalkO q loose XP YP l.row.toRowW d [] (fun f vs => PySem.call f vs) := by
  refine L2.walk_ofB (n := 63) (k := N) (x := "script") (CX := fun _ => CX0) (sp := fun w => spF [] (K w.params) 1 (sem N .law0)) hn (by decide) hdf hR hY (fun w mg fa h KX G hmg => ?_) (fun w H a ns hl hb _ hS => ?_) fun _ _ _ _ _ z => z
  · obtain ⟨T, rfl, hB⟩ := F w mg fa h KX G hmg
    exact ⟨(T.ff .law0).fd, hB, fun base _ _ => all_ok T N .law0⟩
  · obtain ⟨rr, e⟩ := say ns hl hb
    exact spF_law (fun e he => (List.not_mem_nil he).elim) hS e
end Row

set_option maxHeartbeats 1000000
namespace Row
open PySem PySem.Spec PyProof.Rows L2 Pk
local macro_rules | `(tactic| walk_at "s") => `(tactic| first
  | with_reducible refine w_seq ?_ | with_reducible refine w_ret ?_ | with_reducible refine w_if ?_ | with_reducible refine w_and ?_ | with_reducible refine w_or ?_ | with_reducible refine w_bd ?_ | with_reducible refine w_rt ?_ | with_reducible refine w_nil ?_
  | ((with_reducible refine' w_ld ?h ?_); (case h => exact rfl)) | ((with_reducible refine' w_own ?h ?_); (case h => exact rfl)) | ((with_reducible refine' w_ldF ?h ?_); (case h => exact rfl)) | ((with_reducible refine' w_nxt ?h ?_); (case h => exact rfl))
  | with_reducible refine w_chain ?_ | with_reducible refine w_andV ?_ | with_reducible refine w_orV ?_ | with_reducible refine p_itT ?_ | with_reducible refine p_itF ?_ | with_reducible refine w_itT ?_ | with_reducible refine w_itF ?_ | with_reducible refine o_asB ?_ | with_reducible refine o_asI ?_ | with_reducible refine o_asS ?_ | with_reducible refine o_truB ?_ | with_reducible refine o_truN ?_ | with_reducible refine o_truT ?_ | with_reducible refine o_truL ?_
  | with_reducible refine o_intI ?_ | with_reducible refine o_intB ?_ | with_reducible refine o_lenT ?_ | with_reducible refine o_lenL ?_ | with_reducible refine o_lenR ?_ | with_reducible refine o_listT ?_ | with_reducible refine o_listL ?_ | with_reducible refine o_tupleT ?_ | with_reducible refine o_tupleL ?_
  | with_reducible refine o_addI ?_ | with_reducible refine o_subI ?_ | with_reducible refine o_negI ?_ | with_reducible refine o_minI ?_ | with_reducible refine o_maxI ?_ | with_reducible refine o_eqI ?_ | with_reducible refine o_neI ?_
  | with_reducible refine o_ltI ?_ | with_reducible refine o_leI ?_ | with_reducible refine o_gtI ?_ | with_reducible refine o_geI ?_ | with_reducible refine o_ltS ?_ | with_reducible refine o_leS ?_ | with_reducible refine o_gtS ?_ | with_reducible refine o_geS ?_ | with_reducible refine o_isN ?_ | with_reducible refine o_isNotN ?_
  | with_reducible refine o_mkT0 ?_ | with_reducible refine o_mkT1 ?_ | with_reducible refine o_mkT2 ?_ | ((with_reducible refine' o_modI ?h ?_); (case h => decide)) | ((with_reducible refine' o_fdivI ?h ?h2 ?_); (case h => decide); (case h2 => decide)) | ((with_reducible refine' o_powI ?h ?h2 ?h3 ?_); (case h => decide); (case h2 => decide); (case h3 => decide))
  | ((with_reducible refine' o_eqS ?h ?h2 ?_); (case h => first | assumption | exact SOk.str (by assumption) | exact so_list | exact so_object | exact so_null | exact so_bool | exact so_int | exact so_text); (case h2 => first | assumption | exact SOk.str (by assumption) | exact so_list | exact so_object | exact so_null | exact so_bool | exact so_int | exact so_text)) | ((with_reducible refine' o_neS ?h ?h2 ?_); (case h => first | assumption | exact SOk.str (by assumption) | exact so_list | exact so_object | exact so_null | exact so_bool | exact so_int | exact so_text); (case h2 => first | assumption | exact SOk.str (by assumption) | exact so_list | exact so_object | exact so_null | exact so_bool | exact so_int | exact so_text)) | ((with_reducible refine' o_ix ?h ?_); (case h => exact rfl)))
local macro_rules | `(tactic| walk_at "ix") => `(tactic| refine w_of (show ixD _ _ = some _ from rfl) ?_)
local macro_rules | `(tactic| walk_at "go") => `(tactic| (repeat walk_at "s"))
local macro_rules | `(tactic| walk_at "e1") => `(tactic| refine w_env (r' := [_]) rfl ?_)
local macro_rules | `(tactic| walk_at "e2") => `(tactic| refine w_env (r' := [_, _]) rfl ?_)
local macro_rules | `(tactic| walk_at "e3") => `(tactic| refine w_env (r' := [_, _, _]) rfl ?_)
local macro_rules | `(tactic| walk_at "e4") => `(tactic| refine w_env (r' := [_, _, _, _]) rfl ?_)
theorem sem_succ (n : Nat) (f : Fn) : sem (n + 1) f = bodies (sem n) (semN n) f := rfl

theorem semN_succ (n : Nat) (f : Fn) : semN (n + 1) f = bodiesN (sem n) (semN n) f := rfl

def Big (a : Int) : Prop := a.natAbs < 2 ^ 1100000

def Src (k : Nat) (ds : List D) : Prop := ∃ a b c : Int, ds = [.int a, .int b, .int c] ∧ Big a ∧ 0 ≤ c ∧ c ≤ k ∧ k ≤ 2 ^ 60

theorem Src.le {k j : Nat} {ds : List D} (h : Src k ds) (hj : k ≤ j) (hj2 : j ≤ 2 ^ 60) : Src j ds := by
  obtain ⟨a, b, c, e, h1, h2, h3, h4⟩ := h
  exact ⟨a, b, c, e, h1, h2, by omega, hj2⟩

theorem lg {x : Int} {n : Nat} (h : x.natAbs < 2 ^ n) (h0 : 0 < n) : x.natAbs.log2 < n := PySem.Flt.log2_lt_of h0 h

theorem Big.lg {a : Int} (h : Big a) : a.natAbs.log2 < 1100000 := PySem.Flt.log2_lt_of (by decide) h

theorem natAbs_fdiv_le {a m : Int} (hm : 0 < m) : (a.fdiv m).natAbs ≤ a.natAbs := by
  rw [Int.fdiv_eq_ediv_of_nonneg a (by omega)]
  exact Int.natAbs_ediv_le_natAbs a m

theorem Big.fdiv {a m : Int} (h : Big a) (hm : 0 < m) : Big (a.fdiv m) := Nat.lt_of_le_of_lt (natAbs_fdiv_le hm) h

theorem fmod_lt {a m : Int} (hm : 0 < m) : 0 ≤ a.fmod m ∧ a.fmod m < m := ⟨Int.fmod_nonneg_of_pos a hm, Int.fmod_lt_of_pos a hm⟩

theorem lev {c N : Nat} (h : 1 ≤ c) (hN : c ≤ N) : ∃ n, N = n + 1 := ⟨N - 1, by omega⟩

theorem draw_ok {N : Nat} (hN : 1 ≤ N) (k : Nat) (ds : List D) (hs : Src k ds) (hk : k < 2 ^ 60) (m : Int) (hm : 0 < m) (hm2 : m.natAbs.log2 < 9000) :
    wp (sem N .l_draw) (fun d r' => ∃ (x : Int) (ds' : List D), d = .int x ∧ 0 ≤ x ∧ x < m ∧ Src (k + 1) ds' ∧ r' = [some (.own true ds'), some (.d (.int m))]) [some (.own true ds), some (.d (.int m))] := by
  obtain ⟨a, b, c, rfl, ha, hc, hck, hk2⟩ := hs
  obtain ⟨n, rfl⟩ := lev (by omega) hN
  rw [sem_succ]
  refine w_body (by rfl) ?_
  delta b_l_draw
  walk_at "go"
  refine w_it (fun hb => ?_) (fun hb => ?_)
  · walk_at "go"
    refine w_of (w_modD (by omega)) ?_
    walk_at "go"
    refine w_of (w_fdivD (by omega) hm2) ?_
    walk_at "go"
    obtain ⟨h1, h2⟩ := fmod_lt (a := a) hm
    exact ⟨_, _, rfl, h1, h2, ⟨a.fdiv m, b, c, rfl, ha.fdiv hm, hc, by omega, by omega⟩, rfl⟩
  · walk_at "go"
    refine w_of (w_mulD ?_) ?_
    · have h1 := ha.lg
      have h2 : (48271 : Int).natAbs.log2 < 20 := by decide
      omega
    walk_at "go"
    refine w_of (w_mulD ?_) ?_
    · have h1 : (c + 1).natAbs.log2 < 64 := lg (n := 64) (by omega) (by decide)
      have h2 : (69621 : Int).natAbs.log2 < 20 := by decide
      omega
    walk_at "go"
    obtain ⟨g1, g2⟩ := fmod_lt (a := a * 48271 + (c + 1) * 69621) (m := 2147483647) (by decide)
    have lq : ((a * 48271 + (c + 1) * 69621).fmod 2147483647).natAbs.log2 < 31 := lg (n := 31) (by omega) (by decide)
    refine w_of (w_mulD (by omega)) ?_
    walk_at "go"
    refine w_of (w_mulD ?_) ?_
    · have h1 : (c + 1).natAbs.log2 < 64 := lg (n := 64) (by omega) (by decide)
      have h2 : (7919 : Int).natAbs.log2 < 20 := by decide
      omega
    walk_at "go"
    refine w_of (w_modD (by omega)) ?_
    walk_at "go"
    exact ⟨_, _, rfl, (fmod_lt hm).1, (fmod_lt hm).2, ⟨a, b, c + 1, rfl, ha, by omega, by omega, by omega⟩, rfl⟩

abbrev Dr (j k : Nat) (A : D → Prop) : D → Ro → Prop := fun d r' => A d ∧ ∃ ds', Src (k + j) ds' ∧ r' = [some (.own true ds')]

def OkS : D → Prop := fun d => ∃ x, d = .str x ∧ SOk x

theorem addS' {x y : Str} (h : x.length + y.length ≤ 1000) : addD (.str x) (.str y) = some (.str (x ++ y)) := by
  simp only [addD]
  rw [if_pos (Nat.le_trans h (by decide))]

theorem chars_ok : ∀ c ∈ ((Str.ofString " !\"#$&'()*+,-./0123456789:;<=>?@ABCDEFGHIJKLMNOPQRSTUVWXYZ[\\]^_`" ++ Str.ofString "abcdefghijklmnopqrstuvwxyz{|}~" : Str)).cps.toList, COk c := by decide +kernel

theorem chars_len : (Str.ofString " !\"#$&'()*+,-./0123456789:;<=>?@ABCDEFGHIJKLMNOPQRSTUVWXYZ[\\]^_`" ++ Str.ofString "abcdefghijklmnopqrstuvwxyz{|}~" : Str).length = 94 := by decide +kernel

theorem char_ok {N : Nat} (hN : 2 ≤ N) (k : Nat) (ds : List D) (hs : Src k ds) (hk : k + 1 < 2 ^ 60) : wp (sem N .l_char) (Dr 1 k fun d => ∃ c, d = .str ⟨#[c]⟩ ∧ COk c) [some (.own true ds)] := by
  obtain ⟨n, rfl⟩ := lev (by omega) hN
  rw [sem_succ]
  refine w_body (by rfl) ?_
  delta b_l_char
  walk_at "go"
  refine w_of (addS' (by decide +kernel)) ?_
  walk_at "go"
  refine w_call rfl (by decide) rfl (w_mono (draw_ok (by omega) k ds hs (by omega) 94 (by decide) (by decide)) ?_)
  rintro d r' ⟨x, ds', rfl, h0, h1, hs', rfl⟩
  walk_at "go"
  obtain ⟨c, hc, e⟩ := w_ixS (z := (Str.ofString " !\"#$&'()*+,-./0123456789:;<=>?@ABCDEFGHIJKLMNOPQRSTUVWXYZ[\\]^_`" ++ Str.ofString "abcdefghijklmnopqrstuvwxyz{|}~")) (i := x) (by rw [chars_len]; decide) h0 (by rw [chars_len]; exact h1)
  refine w_of e ?_
  exact ⟨⟨c, rfl, chars_ok c hc⟩, ds', hs', rfl⟩

theorem mulName {x : Int} (h0 : 0 ≤ x) (h1 : x < 4) : ∃ y, mulD (.str (Str.ofString "name")) (.int x) = some (.str y) ∧ (∀ c ∈ y.cps.toList, COk c) ∧ y.length ≤ 12 := by
  have : x = 0 ∨ x = 1 ∨ x = 2 ∨ x = 3 := by omega
  rcases this with rfl | rfl | rfl | rfl <;> exact ⟨_, rfl, by decide +kernel, by decide +kernel⟩

theorem addS {x y : Str} (h : x.length + y.length ≤ 1000) : addD (.str x) (.str y) = some (.str (x ++ y)) := by
  simp only [addD]
  rw [if_pos (Nat.le_trans h (by decide))]

theorem eight_ok : ∀ d ∈ ([.str (Str.ofString "a"), .str (Str.ofString "b"), .str (Str.ofString "c"), .str (Str.ofString "ab"), .str (Str.ofString ""), .str (Str.ofString "z9"), .str (Str.ofString "B"), .str (Str.ofString "ba")] : List D), OkS d := by
  intro d hd
  simp only [List.mem_cons, List.not_mem_nil, or_false] at hd
  rcases hd with rfl | rfl | rfl | rfl | rfl | rfl | rfl | rfl <;> exact ⟨_, rfl, sok_by (by decide +kernel)⟩

def One (d : D) : Prop := ∃ c, d = .str ⟨#[c]⟩ ∧ COk c

theorem texts_one : ∀ {ds : List D}, (∀ d ∈ ds, One d) → ∃ ys : List Str, texts ds = some ys ∧ ys.length = ds.length ∧ (∀ y ∈ ys, y.length = 1 ∧ ∀ c ∈ y.cps.toList, COk c)
  | [], _ => ⟨[], rfl, rfl, by simp⟩
  | d :: ds, h => by
    obtain ⟨c, rfl, hc⟩ := h d (List.mem_cons_self ..)
    obtain ⟨ys, e, l, o⟩ := texts_one (ds := ds) fun d hd => h d (List.mem_cons_of_mem _ hd)
    refine ⟨⟨#[c]⟩ :: ys, by simp [texts, e], by simp [l], fun y hy => ?_⟩
    rcases List.mem_cons.mp hy with rfl | hy
    · exact ⟨rfl, by simpa using hc⟩
    · exact o y hy

theorem join_one {ds : List D} (h : ∀ d ∈ ds, One d) (hl : ds.length ≤ 100) : ∃ x, joinD (.str (Str.ofString "")) (.lst ds) = some (.str x) ∧ SOk x ∧ x.length = ds.length := by
  obtain ⟨ys, e, l, o⟩ := texts_one h
  have e0 : (Str.ofString "" : Str) = Str.empty := by rfl
  have hs : ∀ zs : List Str, (∀ y ∈ zs, y.length = 1 ∧ ∀ c ∈ y.cps.toList, COk c) → (zs.map (·.length)).sum = zs.length := fun zs => by
    induction zs with
    | nil => intro _; rfl
    | cons z zs ih =>
      intro hz
      rw [List.map_cons, List.sum_cons, ih fun y hy => hz y (List.mem_cons_of_mem _ hy), (hz z (List.mem_cons_self ..)).1, List.length_cons]; omega
  have hlen : (Str.join Str.empty ys).length = ys.length := by
    have h1 : (Str.join Str.empty ys).length = (Str.join Str.empty ys).cps.toList.length := by rw [Array.length_toList]; rfl
    rw [h1, join_cps, List.length_flatten, List.map_map]
    have : ((fun y : Str => y.cps.toList.length)) = (fun y : Str => y.length) := by funext y; rw [Array.length_toList]; rfl
    show (ys.map fun y => y.cps.toList.length).sum = _
    rw [this]
    exact hs ys o
  refine ⟨Txt.join (Str.ofString "") ys, ?_, ?_, ?_⟩
  · show joinL _ _ = _
    unfold joinL
    rw [e]
    dsimp only
    rw [if_pos]
    rw [hs ys o, e0]
    show ys.length + ys.length * 0 ≤ _
    omega
  · unfold Txt.join
    rw [StrLaws.glued_eq_join, e0]
    refine ⟨fun c hc => ?_, by rw [hlen, l]; exact hl⟩
    rw [join_cps] at hc
    obtain ⟨zs, hz, hc⟩ := List.mem_flatten.mp hc
    obtain ⟨y, hy, rfl⟩ := List.mem_map.mp hz
    exact (o y hy).2 c hc
  · unfold Txt.join
    rw [StrLaws.glued_eq_join, e0, hlen, l]
end Row

set_option maxHeartbeats 1000000
namespace Row
open PySem PySem.Spec PyProof.Rows L2 Pk
local macro_rules | `(tactic| walk_at "s") => `(tactic| first
  | with_reducible refine w_seq ?_ | with_reducible refine w_ret ?_ | with_reducible refine w_if ?_ | with_reducible refine w_and ?_ | with_reducible refine w_or ?_ | with_reducible refine w_bd ?_ | with_reducible refine w_rt ?_ | with_reducible refine w_nil ?_
  | ((with_reducible refine' w_ld ?h ?_); (case h => exact rfl)) | ((with_reducible refine' w_own ?h ?_); (case h => exact rfl)) | ((with_reducible refine' w_ldF ?h ?_); (case h => exact rfl)) | ((with_reducible refine' w_nxt ?h ?_); (case h => exact rfl))
  | with_reducible refine w_chain ?_ | with_reducible refine w_andV ?_ | with_reducible refine w_orV ?_ | with_reducible refine p_itT ?_ | with_reducible refine p_itF ?_ | with_reducible refine w_itT ?_ | with_reducible refine w_itF ?_ | with_reducible refine o_asB ?_ | with_reducible refine o_asI ?_ | with_reducible refine o_asS ?_ | with_reducible refine o_truB ?_ | with_reducible refine o_truN ?_ | with_reducible refine o_truT ?_ | with_reducible refine o_truL ?_
  | with_reducible refine o_intI ?_ | with_reducible refine o_intB ?_ | with_reducible refine o_lenT ?_ | with_reducible refine o_lenL ?_ | with_reducible refine o_lenR ?_ | with_reducible refine o_listT ?_ | with_reducible refine o_listL ?_ | with_reducible refine o_tupleT ?_ | with_reducible refine o_tupleL ?_
  | with_reducible refine o_addI ?_ | with_reducible refine o_subI ?_ | with_reducible refine o_negI ?_ | with_reducible refine o_minI ?_ | with_reducible refine o_maxI ?_ | with_reducible refine o_eqI ?_ | with_reducible refine o_neI ?_
  | with_reducible refine o_ltI ?_ | with_reducible refine o_leI ?_ | with_reducible refine o_gtI ?_ | with_reducible refine o_geI ?_ | with_reducible refine o_ltS ?_ | with_reducible refine o_leS ?_ | with_reducible refine o_gtS ?_ | with_reducible refine o_geS ?_ | with_reducible refine o_isN ?_ | with_reducible refine o_isNotN ?_
  | with_reducible refine o_mkT0 ?_ | with_reducible refine o_mkT1 ?_ | with_reducible refine o_mkT2 ?_ | ((with_reducible refine' o_modI ?h ?_); (case h => decide)) | ((with_reducible refine' o_fdivI ?h ?h2 ?_); (case h => decide); (case h2 => decide)) | ((with_reducible refine' o_powI ?h ?h2 ?h3 ?_); (case h => decide); (case h2 => decide); (case h3 => decide))
  | ((with_reducible refine' o_eqS ?h ?h2 ?_); (case h => first | assumption | exact SOk.str (by assumption) | exact so_list | exact so_object | exact so_null | exact so_bool | exact so_int | exact so_text); (case h2 => first | assumption | exact SOk.str (by assumption) | exact so_list | exact so_object | exact so_null | exact so_bool | exact so_int | exact so_text)) | ((with_reducible refine' o_neS ?h ?h2 ?_); (case h => first | assumption | exact SOk.str (by assumption) | exact so_list | exact so_object | exact so_null | exact so_bool | exact so_int | exact so_text); (case h2 => first | assumption | exact SOk.str (by assumption) | exact so_list | exact so_object | exact so_null | exact so_bool | exact so_int | exact so_text)) | ((with_reducible refine' o_ix ?h ?_); (case h => exact rfl)))
local macro_rules | `(tactic| walk_at "ix") => `(tactic| refine w_of (show ixD _ _ = some _ from rfl) ?_)
local macro_rules | `(tactic| walk_at "go") => `(tactic| (repeat walk_at "s"))
local macro_rules | `(tactic| walk_at "e1") => `(tactic| refine w_env (r' := [_]) rfl ?_)
local macro_rules | `(tactic| walk_at "e2") => `(tactic| refine w_env (r' := [_, _]) rfl ?_)
local macro_rules | `(tactic| walk_at "e3") => `(tactic| refine w_env (r' := [_, _, _]) rfl ?_)
local macro_rules | `(tactic| walk_at "e4") => `(tactic| refine w_env (r' := [_, _, _, _]) rfl ?_)
theorem name_ok {N : Nat} (hN : 3 ≤ N) (k : Nat) (ds : List D) (hs : Src k ds) (hk : k + 20 < 2 ^ 60) : wp (sem N .l_name) (Dr 10 k OkS) [some (.own true ds)] := by
  obtain ⟨n, rfl⟩ := lev (by omega) hN
  rw [sem_succ]
  refine w_body (by rfl) ?_
  delta b_l_name
  walk_at "go"
  refine w_call rfl (by decide) rfl (w_mono (draw_ok (by omega) k ds hs (by omega) 10 (by decide) (by decide)) ?_)
  rintro d r' ⟨x, ds1, rfl, h0, h1, hs1, rfl⟩
  walk_at "go"
  walk_at "e3"
  refine w_it (fun hb => ?_) (fun hb => ?_)
  · walk_at "go"
    have hx : x < 8 := of_decide_eq_true hb
    obtain ⟨d, hd, _, e⟩ := w_ixL (ds := [.str (Str.ofString "a"), .str (Str.ofString "b"), .str (Str.ofString "c"), .str (Str.ofString "ab"), .str (Str.ofString ""), .str (Str.ofString "z9"), .str (Str.ofString "B"), .str (Str.ofString "ba")]) h0 hx
    refine o_mkL (by decide) ?_
    walk_at "go"
    refine w_of e ?_
    exact ⟨eight_ok d hd, ds1, hs1.le (by omega) (by omega), rfl⟩
  · walk_at "go"
    refine w_call rfl (by decide) rfl (w_mono (draw_ok (by omega) (k + 1) ds1 hs1 (by omega) 3 (by decide) (by decide)) ?_)
    rintro d r' ⟨y, ds2, rfl, h2, h3, hs2, rfl⟩
    walk_at "go"
    refine w_it (fun hc => ?_) (fun hc => ?_)
    · walk_at "go"
      refine w_call rfl (by decide) rfl (w_mono (draw_ok (by omega) (k + 2) ds2 hs2 (by omega) 4 (by decide) (by decide)) ?_)
      rintro d r' ⟨z, ds3, rfl, h4, h5, hs3, rfl⟩
      obtain ⟨u, eu, uok, ul⟩ := mulName h4 h5
      walk_at "go"
      refine w_of eu ?_
      walk_at "go"
      refine w_call rfl (by decide) rfl (w_mono (char_ok (by omega) (k + 3) ds3 hs3 (by omega)) ?_)
      rintro d r' ⟨⟨c, rfl, cok⟩, ds4, hs4, rfl⟩
      walk_at "go"
      refine w_of (addS (show u.length + 1 ≤ 1000 by omega)) ?_
      walk_at "go"
      refine w_call rfl (by decide) rfl (w_mono (draw_ok (by omega) (k + 4) ds4 hs4 (by omega) 3 (by decide) (by decide)) ?_)
      rintro d r' ⟨z, ds5, rfl, h6, h7, hs5, rfl⟩
      obtain ⟨v, ev, vok, vl⟩ := mulName h6 (by omega)
      walk_at "go"
      refine w_of ev ?_
      walk_at "go"
      have cl : (u ++ ⟨#[c]⟩ : Str).length = u.length + 1 := app_len _ _
      refine w_of (addS (by rw [cl]; omega)) ?_
      refine ⟨⟨_, rfl, SOk.app (fun c' h => ?_) vok (by rw [cl]; omega)⟩, ds5, hs5.le (by omega) (by omega), rfl⟩
      rw [app_cps] at h
      rcases List.mem_append.mp h with h | h
      · exact uok c' h
      · simp at h; subst h; exact cok
    · walk_at "go"
      refine w_lc ?_
      walk_at "go"
      refine w_call rfl (by decide) rfl (w_mono (draw_ok (by omega) (k + 2) ds2 hs2 (by omega) 4 (by decide) (by decide)) ?_)
      rintro d r' ⟨z, ds3, rfl, h4, h5, hs3, rfl⟩
      walk_at "go"
      walk_at "e3"
      have ez : (z.toNat : Int) = z := Int.toNat_of_nonneg h4
      refine w_of (show rng1 [.int z] = some (rng 0 z.toNat) from ?_) ?_
      · show (if -(2 ^ 62) ≤ z ∧ z < 2 ^ 62 then some (rng 0 z.toNat) else none) = _
        rw [if_pos ⟨by omega, by omega⟩]
      refine ⟨rfl, ?_⟩
      refine w_comp (fun i acc r => (∀ d ∈ acc, One d) ∧ acc.length = i ∧ i ≤ 4 ∧ ∃ ds', Src (k + 3 + i) ds' ∧ r = [some (.own true ds'), some (.d (.int x)), none]) ⟨by simp, rfl, by omega, ds3, hs3, rfl⟩ ?_ ?_
      · rintro i d acc r hd ⟨ho, hl, hi, ds', hs', rfl⟩
        have hi2 : i < (rng 0 z.toNat).length := (List.getElem?_eq_some_iff.mp hd).1
        have hi3 : i < z.toNat := by simpa [rng] using hi2
        refine ⟨_, rfl, ?_⟩
        walk_at "go"
        walk_at "go"
        refine w_call rfl (by decide) rfl (w_mono (char_ok (by omega) (k + 3 + i) ds' hs' (by omega)) ?_)
        rintro d r' ⟨⟨c, rfl, cok⟩, ds4, hs4, rfl⟩
        refine ⟨by have : (4 : Nat) < sizeLine := by decide
                   omega, fun d hd => ?_, by simp [hl], by omega, ds4, hs4, rfl⟩
        rcases List.mem_append.mp hd with h | h
        · exact ho d h
        · simp at h; subst h; exact ⟨c, rfl, cok⟩
      · rintro acc r ⟨ho, hl, hi, ds', hs', rfl⟩
        obtain ⟨w, e, ok, wl⟩ := join_one ho (by omega)
        refine w_of e ?_
        exact ⟨⟨w, rfl, ok⟩, ds', hs'.le (by omega) (by omega), rfl⟩

theorem number_ok {N : Nat} (hN : 2 ≤ N) (k : Nat) (ds : List D) (hs : Src k ds) (hk : k + 5 < 2 ^ 60) : wp (sem N .l_number) (Dr 2 k fun d => ∃ i : Int, d = .int i) [some (.own true ds)] := by
  obtain ⟨n, rfl⟩ := lev (by omega) hN
  rw [sem_succ]
  refine w_body (by rfl) ?_
  delta b_l_number
  walk_at "go"
  refine w_call rfl (by decide) rfl (w_mono (draw_ok (by omega) k ds hs (by omega) 6 (by decide) (by decide)) ?_)
  rintro d r' ⟨x, ds1, rfl, h0, h1, hs1, rfl⟩
  walk_at "go"
  walk_at "e2"
  refine w_it (fun hb => ?_) (fun hb => ?_)
  · walk_at "go"
    refine w_call rfl (by decide) rfl (w_mono (draw_ok (by omega) (k + 1) ds1 hs1 (by omega) 2000 (by decide) (by decide)) ?_)
    rintro d r' ⟨y, ds2, rfl, h2, h3, hs2, rfl⟩
    walk_at "go"
    exact ⟨⟨_, rfl⟩, ds2, hs2, rfl⟩
  · walk_at "go"
    refine w_it (fun hb => ?_) (fun hb => ?_)
    · walk_at "go"
      refine w_call rfl (by decide) rfl (w_mono (draw_ok (by omega) (k + 1) ds1 hs1 (by omega) (10 ^ (20 : Int).toNat) (by decide) (by decide)) ?_)
      rintro d r' ⟨y, ds2, rfl, h2, h3, hs2, rfl⟩
      walk_at "go"
      refine o_mulI (by decide) ?_
      walk_at "go"
      exact ⟨⟨_, rfl⟩, ds2, hs2, rfl⟩
    · walk_at "go"
      refine w_call rfl (by decide) rfl (w_mono (draw_ok (by omega) (k + 1) ds1 hs1 (by omega) 7 (by decide) (by decide)) ?_)
      rintro d r' ⟨y, ds2, rfl, h2, h3, hs2, rfl⟩
      walk_at "go"
      exact ⟨⟨_, rfl⟩, ds2, hs2, rfl⟩

def IsJ : Nat → D → Prop
  | 0, _ => False
  | n + 1, d => d = .tup [.str (Str.ofString "null")] ∨ (∃ b, d = .tup [.str (Str.ofString "bool"), .bl b]) ∨ (∃ i, d = .tup [.str (Str.ofString "int"), .int i]) ∨ (∃ x, SOk x ∧ d = .tup [.str (Str.ofString "text"), .str x]) ∨
    (∃ ds : List D, ds.length ≤ 400 + min n 100 ∧ (∀ e ∈ ds, IsJ n e) ∧ d = .tup [.str (Str.ofString "list"), .tup ds]) ∨
    (∃ fs : List (Str × D), fs.length ≤ 400 + min n 100 ∧ (∀ f ∈ fs, SOk f.1 ∧ IsJ n f.2) ∧ fs.Pairwise (fun f g => f.1.cps.toList < g.1.cps.toList) ∧ d = .tup [.str (Str.ofString "object"), .tup (fs.map fun f => .tup [.str f.1, f.2])])

theorem leaf_ok {N : Nat} (hN : 4 ≤ N) (k : Nat) (ds : List D) (hs : Src k ds) (hk : k + 40 < 2 ^ 60) : wp (sem N .l_leaf) (Dr 11 k (IsJ 1)) [some (.own true ds)] := by
  obtain ⟨n, rfl⟩ := lev (by omega) hN
  rw [sem_succ]
  refine w_body (by rfl) ?_
  delta b_l_leaf
  walk_at "go"
  refine w_call rfl (by decide) rfl (w_mono (draw_ok (by omega) k ds hs (by omega) 8 (by decide) (by decide)) ?_)
  rintro d r' ⟨x, ds1, rfl, h0, h1, hs1, rfl⟩
  walk_at "go"
  walk_at "e2"
  refine w_it (fun hb => ?_) (fun hb => ?_)
  · walk_at "go"
    exact ⟨.inl rfl, ds1, hs1.le (by omega) (by omega), rfl⟩
  · walk_at "go"
    refine w_it (fun hb => ?_) (fun hb => ?_)
    · walk_at "go"
      refine w_call rfl (by decide) rfl (w_mono (draw_ok (by omega) (k + 1) ds1 hs1 (by omega) 2 (by decide) (by decide)) ?_)
      rintro d r' ⟨y, ds2, rfl, h2, h3, hs2, rfl⟩
      walk_at "go"
      exact ⟨.inr (.inl ⟨_, rfl⟩), ds2, hs2.le (by omega) (by omega), rfl⟩
    · walk_at "go"
      refine w_it (fun hb => ?_) (fun hb => ?_)
      · walk_at "go"
        refine w_call rfl (by decide) rfl (w_mono (number_ok (by omega) (k + 1) ds1 hs1 (by omega)) ?_)
        rintro d r' ⟨⟨y, rfl⟩, ds2, hs2, rfl⟩
        walk_at "go"
        exact ⟨.inr (.inr (.inl ⟨_, rfl⟩)), ds2, hs2.le (by omega) (by omega), rfl⟩
      · walk_at "go"
        refine w_call rfl (by decide) rfl (w_mono (name_ok (by omega) (k + 1) ds1 hs1 (by omega)) ?_)
        rintro d r' ⟨⟨y, rfl, yok⟩, ds2, hs2, rfl⟩
        walk_at "go"
        exact ⟨.inr (.inr (.inr (.inl ⟨y, yok, rfl⟩))), ds2, hs2.le (by omega) (by omega), rfl⟩
end Row

set_option maxHeartbeats 1000000
namespace Row
open PySem PySem.Spec PyProof.Rows L2 Pk
local macro_rules | `(tactic| walk_at "s") => `(tactic| first
  | with_reducible refine w_seq ?_ | with_reducible refine w_ret ?_ | with_reducible refine w_if ?_ | with_reducible refine w_and ?_ | with_reducible refine w_or ?_ | with_reducible refine w_bd ?_ | with_reducible refine w_rt ?_ | with_reducible refine w_nil ?_
  | ((with_reducible refine' w_ld ?h ?_); (case h => exact rfl)) | ((with_reducible refine' w_own ?h ?_); (case h => exact rfl)) | ((with_reducible refine' w_ldF ?h ?_); (case h => exact rfl)) | ((with_reducible refine' w_nxt ?h ?_); (case h => exact rfl))
  | with_reducible refine w_chain ?_ | with_reducible refine w_andV ?_ | with_reducible refine w_orV ?_ | with_reducible refine p_itT ?_ | with_reducible refine p_itF ?_ | with_reducible refine w_itT ?_ | with_reducible refine w_itF ?_ | with_reducible refine o_asB ?_ | with_reducible refine o_asI ?_ | with_reducible refine o_asS ?_ | with_reducible refine o_truB ?_ | with_reducible refine o_truN ?_ | with_reducible refine o_truT ?_ | with_reducible refine o_truL ?_
  | with_reducible refine o_intI ?_ | with_reducible refine o_intB ?_ | with_reducible refine o_lenT ?_ | with_reducible refine o_lenL ?_ | with_reducible refine o_lenR ?_ | with_reducible refine o_listT ?_ | with_reducible refine o_listL ?_ | with_reducible refine o_tupleT ?_ | with_reducible refine o_tupleL ?_
  | with_reducible refine o_addI ?_ | with_reducible refine o_subI ?_ | with_reducible refine o_negI ?_ | with_reducible refine o_minI ?_ | with_reducible refine o_maxI ?_ | with_reducible refine o_eqI ?_ | with_reducible refine o_neI ?_
  | with_reducible refine o_ltI ?_ | with_reducible refine o_leI ?_ | with_reducible refine o_gtI ?_ | with_reducible refine o_geI ?_ | with_reducible refine o_ltS ?_ | with_reducible refine o_leS ?_ | with_reducible refine o_gtS ?_ | with_reducible refine o_geS ?_ | with_reducible refine o_isN ?_ | with_reducible refine o_isNotN ?_
  | with_reducible refine o_mkT0 ?_ | with_reducible refine o_mkT1 ?_ | with_reducible refine o_mkT2 ?_ | ((with_reducible refine' o_modI ?h ?_); (case h => decide)) | ((with_reducible refine' o_fdivI ?h ?h2 ?_); (case h => decide); (case h2 => decide)) | ((with_reducible refine' o_powI ?h ?h2 ?h3 ?_); (case h => decide); (case h2 => decide); (case h3 => decide))
  | ((with_reducible refine' o_eqS ?h ?h2 ?_); (case h => first | assumption | exact SOk.str (by assumption) | exact so_list | exact so_object | exact so_null | exact so_bool | exact so_int | exact so_text); (case h2 => first | assumption | exact SOk.str (by assumption) | exact so_list | exact so_object | exact so_null | exact so_bool | exact so_int | exact so_text)) | ((with_reducible refine' o_neS ?h ?h2 ?_); (case h => first | assumption | exact SOk.str (by assumption) | exact so_list | exact so_object | exact so_null | exact so_bool | exact so_int | exact so_text); (case h2 => first | assumption | exact SOk.str (by assumption) | exact so_list | exact so_object | exact so_null | exact so_bool | exact so_int | exact so_text)) | ((with_reducible refine' o_ix ?h ?_); (case h => exact rfl)))
local macro_rules | `(tactic| walk_at "ix") => `(tactic| refine w_of (show ixD _ _ = some _ from rfl) ?_)
local macro_rules | `(tactic| walk_at "go") => `(tactic| (repeat walk_at "s"))
local macro_rules | `(tactic| walk_at "e1") => `(tactic| refine w_env (r' := [_]) rfl ?_)
local macro_rules | `(tactic| walk_at "e2") => `(tactic| refine w_env (r' := [_, _]) rfl ?_)
local macro_rules | `(tactic| walk_at "e3") => `(tactic| refine w_env (r' := [_, _, _]) rfl ?_)
local macro_rules | `(tactic| walk_at "e4") => `(tactic| refine w_env (r' := [_, _, _, _]) rfl ?_)
def fD (f : Str × D) : D := .tup [.str f.1, f.2]

def objD (fs : List (Str × D)) : D := .tup [.str (Str.ofString "object"), .tup (fs.map fD)]

def lstD (ds : List D) : D := .tup [.str (Str.ofString "list"), .tup ds]

def FOk (n : Nat) (fs : List (Str × D)) : Prop := (∀ f ∈ fs, SOk f.1 ∧ IsJ n f.2) ∧ fs.Pairwise (fun f g => f.1.cps.toList < g.1.cps.toList)

theorem IsJ.obj {n : Nat} {fs : List (Str × D)} (h : FOk n fs) (hl : fs.length ≤ 400 + min n 100) : IsJ (n + 1) (objD fs) := .inr (.inr (.inr (.inr (.inr ⟨fs, hl, h.1, h.2, rfl⟩))))

theorem IsJ.list {n : Nat} {ds : List D} (h : ∀ e ∈ ds, IsJ n e) (hl : ds.length ≤ 400 + min n 100) : IsJ (n + 1) (lstD ds) := .inr (.inr (.inr (.inr (.inl ⟨ds, hl, h, rfl⟩))))

theorem IsJ.succ : ∀ {n : Nat} {d : D}, IsJ n d → IsJ (n + 1) d
  | 0, _, h => h.elim
  | n + 1, d, h => by
    rcases h with h | h | h | h | ⟨ds, hl, h, e⟩ | ⟨fs, hl, h, hp, e⟩
    · exact .inl h
    · exact .inr (.inl h)
    · exact .inr (.inr (.inl h))
    · exact .inr (.inr (.inr (.inl h)))
    · exact .inr (.inr (.inr (.inr (.inl ⟨ds, by omega, fun x hx => (h x hx).succ, e⟩))))
    · exact .inr (.inr (.inr (.inr (.inr ⟨fs, by omega, fun x hx => ⟨(h x hx).1, (h x hx).2.succ⟩, hp, e⟩))))

theorem IsJ.le {n m : Nat} {d : D} (h : IsJ n d) (hm : n ≤ m) : IsJ m d := by
  induction hm with
  | refl => exact h
  | step _ ih => exact ih.succ

def ins (fs : List (Str × D)) (x : Str) (v : D) : List (Str × D) := fs.filter (fun f => decide (f.1.cps.toList < x.cps.toList)) ++ [(x, v)] ++ fs.filter (fun f => decide (x.cps.toList < f.1.cps.toList))

theorem ins_len (fs : List (Str × D)) (x : Str) (v : D) : (ins fs x v).length ≤ fs.length + 1 := by
  unfold ins
  induction fs with
  | nil => simp
  | cons f fs ih =>
    simp only [List.length_append, List.length_singleton, List.filter_cons] at ih ⊢
    by_cases h1 : f.1.cps.toList < x.cps.toList
    · have h2 : ¬ x.cps.toList < f.1.cps.toList := fun h2 => List.lt_irrefl _ (List.lt_trans h1 h2)
      simp only [h1, h2, decide_true, decide_false, if_true, Bool.false_eq_true, if_false, List.length_cons]
      omega
    · by_cases h2 : x.cps.toList < f.1.cps.toList
      · simp only [h1, h2, decide_true, decide_false, if_true, Bool.false_eq_true, if_false, List.length_cons]
        omega
      · simp only [h1, h2, decide_false, Bool.false_eq_true, if_false, List.length_cons]
        omega

theorem ins_ok {n : Nat} {fs : List (Str × D)} {x : Str} {v : D} (h : FOk n fs) (hx : SOk x) (hv : IsJ n v) : FOk n (ins fs x v) := by
  refine ⟨fun f hf => ?_, ?_⟩
  · unfold ins at hf
    rcases List.mem_append.mp hf with hf | hf
    · rcases List.mem_append.mp hf with hf | hf
      · exact h.1 f (List.mem_filter.mp hf).1
      · simp at hf; subst hf; exact ⟨hx, hv⟩
    · exact h.1 f (List.mem_filter.mp hf).1
  · unfold ins
    rw [List.pairwise_append, List.pairwise_append]
    refine ⟨⟨h.2.filter _, List.pairwise_singleton _ _, fun a ha b hb => ?_⟩, h.2.filter _, fun a ha b hb => ?_⟩
    · simp at hb; subst hb
      exact of_decide_eq_true (List.mem_filter.mp ha).2
    · have hb2 := of_decide_eq_true (List.mem_filter.mp hb).2
      rcases List.mem_append.mp ha with ha | ha
      · exact List.lt_trans (of_decide_eq_true (List.mem_filter.mp ha).2) hb2
      · simp at ha; subst ha; exact hb2

theorem filter_fD (fs : List (Str × D)) (p : D → Bool) (q : Str × D → Bool) (h : ∀ f ∈ fs, p (fD f) = q f) : (fs.map fD).filter p = (fs.filter q).map fD := by
  induction fs with
  | nil => rfl
  | cons f fs ih =>
    rw [List.map_cons, List.filter_cons, List.filter_cons, h f (List.mem_cons_self ..), ih fun g hg => h g (List.mem_cons_of_mem _ hg)]
    split <;> rfl

def nm : D → List Nat
  | .tup (.str x :: _) => x.cps.toList
  | _ => []

theorem with_obj {N : Nat} (hN : 1 ≤ N) (m : Nat) (fs : List (Str × D)) (x : Str) (v : D) (h : FOk m fs) (hl : fs.length ≤ 600) (hx : SOk x) :
    wp (sem N .l_with) (fun d r' => d = objD (ins fs x v) ∧ r' = [some (.d (objD fs)), some (.d (.str x)), some (.d v)]) [some (.d (objD fs)), some (.d (.str x)), some (.d v)] := by
  obtain ⟨n, rfl⟩ := lev (by omega) hN
  rw [sem_succ]
  refine w_body (by rfl) ?_
  delta b_l_with
  unfold objD
  walk_at "go"
  refine w_ifF (by rfl) ?_
  walk_at "go"
  have hlen : (fs.map fD).length ≤ sizeLine := by rw [List.length_map]; exact Nat.le_trans hl (by decide)
  refine w_lc ?_
  walk_at "go"
  refine w_of (show seqOf (.tup (fs.map fD)) = some (fs.map fD) from rfl) ?_
  refine ⟨rfl, ?_⟩
  refine w_comp_pure (fun d => decide (nm d < x.cps.toList)) _root_.id (fun d hd => ?_) hlen ?_
  · obtain ⟨f, hf, rfl⟩ := List.mem_map.mp hd
    refine ⟨_, rfl, ?_, fun _ => ?_, rfl⟩
    · unfold fD
      walk_at "go"
      exact ⟨rfl, rfl⟩
    · walk_at "go"
      exact ⟨rfl, rfl⟩
  rw [List.map_id, filter_fD fs _ (fun f => decide (f.1.cps.toList < x.cps.toList)) (fun f hf => rfl)]
  walk_at "go"
  refine w_lc ?_
  walk_at "go"
  refine w_of (show seqOf (.tup (fs.map fD)) = some (fs.map fD) from rfl) ?_
  refine ⟨rfl, ?_⟩
  refine w_comp_pure (fun d => decide (x.cps.toList < nm d)) _root_.id (fun d hd => ?_) hlen ?_
  · obtain ⟨f, hf, rfl⟩ := List.mem_map.mp hd
    refine ⟨_, rfl, ?_, fun _ => ?_, rfl⟩
    · unfold fD
      walk_at "go"
      exact ⟨rfl, rfl⟩
    · walk_at "go"
      exact ⟨rfl, rfl⟩
  rw [List.map_id, filter_fD fs _ (fun f => decide (x.cps.toList < f.1.cps.toList)) (fun f hf => rfl)]
  walk_at "go"
  have l1 : ((fs.filter (fun f => decide (f.1.cps.toList < x.cps.toList))).map fD).length ≤ 600 := by
    rw [List.length_map]; exact Nat.le_trans (List.length_filter_le _ _) hl
  have l2 : ((fs.filter (fun f => decide (x.cps.toList < f.1.cps.toList))).map fD).length ≤ 600 := by
    rw [List.length_map]; exact Nat.le_trans (List.length_filter_le _ _) hl
  refine w_of (addT (by rw [List.length_singleton]; omega)) ?_
  walk_at "go"
  refine w_of (addT (by rw [List.length_append, List.length_singleton]; omega)) ?_
  walk_at "go"
  refine ⟨?_, rfl⟩
  unfold ins
  rw [List.map_append, List.map_append]
  rfl

def pD (ps : List (Str × D)) : D := .lst (ps.map fD)

theorem object_ok {N : Nat} (hN : 2 ≤ N) (m : Nat) (ps : List (Str × D)) (h : ∀ f ∈ ps, SOk f.1 ∧ IsJ m f.2) (hl : ps.length ≤ 100) :
    wp (sem N .l_object) (fun d r' => IsJ (m + 1) d ∧ (∃ fs, d = objD fs ∧ FOk m fs ∧ fs.length ≤ ps.length) ∧ r' = [some (.d (pD ps))]) [some (.d (pD ps))] := by
  obtain ⟨n, rfl⟩ := lev (by omega) hN
  rw [sem_succ]
  refine w_body (by rfl) ?_
  delta b_l_object
  unfold pD
  walk_at "go"
  refine w_of (show seqOf (.lst (ps.map fD)) = some (ps.map fD) from rfl) ?_
  refine w_for (fun i r => ∃ fs, FOk m fs ∧ fs.length ≤ i ∧ ∃ o, r = [some (.d (.lst (ps.map fD))), some (.d (objD fs)), o] ∧ free [some (.d (.lst (ps.map fD))), some (.d (objD fs)), o] 2 = true) ⟨[], ⟨by simp, List.Pairwise.nil⟩, Nat.le_refl _, none, rfl, rfl⟩ ?_ ?_
  · rintro i d r hd ⟨fs, hf, hfl, o, rfl, ho⟩
    have hi : i < (ps.map fD).length := (List.getElem?_eq_some_iff.mp hd).1
    rw [List.length_map] at hi
    obtain ⟨f, hfm, rfl⟩ := List.mem_map.mp (List.mem_of_getElem? hd)
    obtain ⟨h1, h2⟩ := h f hfm
    refine ⟨_, by unfold setD; rw [if_pos ho], ?_⟩
    unfold fD
    walk_at "go"
    refine w_call rfl nd0 rfl (w_mono (with_obj (by omega) m fs f.1 f.2 hf (by omega) h1) ?_)
    rintro d r' ⟨rfl, rfl⟩
    walk_at "go"
    exact ⟨ins fs f.1 f.2, ins_ok hf h1 h2, by have := ins_len fs f.1 f.2; omega, _, rfl, rfl⟩
  · rintro r ⟨fs, hf, hfl, o, rfl, ho⟩
    walk_at "go"
    rw [List.length_map] at hfl
    exact ⟨IsJ.obj hf (by omega), ⟨fs, rfl, hf, hfl⟩, rfl⟩

def V : Nat → Nat
  | 0 => 100
  | m + 1 => 4 * V m

theorem V_ge : ∀ m, 100 ≤ V m
  | 0 => Nat.le_refl _
  | m + 1 => by have := V_ge m; unfold V; omega

theorem value_ok : ∀ (m : Nat) {N : Nat} (hN : 5 + m ≤ N) (k : Nat) (ds : List D) (hs : Src k ds) (hk : k + V m < 2 ^ 60),
    wp (sem N .l_value) (fun d r' => IsJ (m + 1) d ∧ ∃ ds', Src (k + V m) ds' ∧ r' = [some (.own true ds'), some (.d (.int m))]) [some (.own true ds), some (.d (.int m))] := by
  intro m
  induction m with
  | zero =>
    intro N hN k ds hs hk
    have hV : V 0 = 100 := rfl
    obtain ⟨n, rfl⟩ := lev (by omega) hN
    rw [sem_succ]
    refine w_body (by rfl) ?_
    delta b_l_value
    walk_at "go"
    refine w_call rfl nd1 rfl (w_mono (draw_ok (by omega) k ds hs (by omega) 9 (by decide) (by decide)) ?_)
    rintro d r' ⟨x, ds1, rfl, h0, h1, hs1, rfl⟩
    walk_at "go"
    refine p_ifT (by decide) ?_
    refine w_itT ?_
    walk_at "go"
    refine w_call rfl nd1 rfl (w_mono (leaf_ok (by omega) (k + 1) ds1 hs1 (by omega)) ?_)
    rintro d r' ⟨hd, ds2, hs2, rfl⟩
    exact ⟨hd, ds2, hs2.le (by omega) (by omega), rfl⟩
  | succ m ih =>
    intro N hN k ds hs hk
    have hV : V (m + 1) = 4 * V m := rfl
    have hV2 := V_ge m
    obtain ⟨n, rfl⟩ := lev (by omega) hN
    rw [sem_succ]
    refine w_body (by rfl) ?_
    delta b_l_value
    walk_at "go"
    refine w_call rfl nd1 rfl (w_mono (draw_ok (by omega) k ds hs (by omega) 9 (by decide) (by decide)) ?_)
    rintro d r' ⟨x, ds1, rfl, h0, h1, hs1, rfl⟩
    walk_at "e4"
    walk_at "go"
    have c1 : ((V (m + 1) : Nat) : Int) = 4 * (V m : Nat) := by rw [hV]; omega
    -- a leaf
    have leafWay : ∀ P : Fl → Ro → Prop, (∀ d ds', IsJ (m + 2) d → Src (k + V (m + 1)) ds' → P (.rt d) [some (.own true ds'), some (.d (.int ((m + 1 : Nat) : Int))), some (.d (.int x)), none]) →
        wp (retM (bd (bd (own 0) fun _ => bd (rt []) fun xs => rt (Ar.s 0 :: xs)) fun as => callM 1 (sem n .l_leaf) as)) P [some (.own true ds1), some (.d (.int ((m + 1 : Nat) : Int))), some (.d (.int x)), none] := fun P hP => by
      walk_at "go"
      refine w_call rfl nd1 rfl (w_mono (leaf_ok (by omega) (k + 1) ds1 hs1 (by omega)) ?_)
      rintro d r' ⟨hd, ds2, hs2, rfl⟩
      exact hP d ds2 (hd.le (by omega)) (hs2.le (by omega) (by omega))
    refine p_it (fun hb => w_itT (leafWay _ fun d ds' h1 h2 => ⟨h1, ds', h2, rfl⟩)) (fun hb => ?_)
    walk_at "go"
    refine w_it (fun hb2 => leafWay _ fun d ds' h1 h2 => ⟨h1, ds', h2, rfl⟩) (fun hb2 => ?_)
    walk_at "go"
    have em : ((m + 1 : Nat) : Int) - 1 = (m : Int) := by omega
    refine w_it (fun hb3 => ?_) (fun hb3 => ?_)
    · walk_at "go"
      refine w_lc ?_
      walk_at "go"
      refine w_call rfl nd1 rfl (w_mono (draw_ok (by omega) (k + 1) ds1 hs1 (by omega) 4 (by decide) (by decide)) ?_)
      rintro d r' ⟨z, ds2, rfl, h2, h3, hs2, rfl⟩
      walk_at "e4"
      walk_at "go"
      refine w_of (w_rng h2 (by omega)) ?_
      refine ⟨rfl, ?_⟩
      refine w_comp (fun i acc r => (∀ e ∈ acc, IsJ (m + 1) e) ∧ acc.length = i ∧ i ≤ 4 ∧ ∃ ds', Src (k + 2 + i * V m) ds' ∧ r = [some (.own true ds'), some (.d (.int ((m + 1 : Nat) : Int))), some (.d (.int x)), none]) ⟨by simp, rfl, by omega, ds2, hs2.le (by omega) (by omega), rfl⟩ ?_ ?_
      · rintro i d acc r hd ⟨ho, hl, hi, ds', hs', rfl⟩
        obtain ⟨hi3, rfl⟩ := rng_at hd
        have hi4 : i ≤ 2 := by omega
        have hmul : i * V m ≤ 2 * V m := Nat.mul_le_mul_right _ hi4
        have hmul2 : (i + 1) * V m = i * V m + V m := Nat.succ_mul _ _
        refine ⟨_, rfl, ?_⟩
        walk_at "go"
        walk_at "go"
        rw [em]
        refine w_call rfl nd1 rfl (w_mono (ih (by omega) (k + 2 + i * V m) ds' hs' (by omega)) ?_)
        rintro d r' ⟨hd', ds4, hs4, rfl⟩
        refine ⟨by have : (4 : Nat) < sizeLine := by decide
                   omega, fun e he => ?_, by simp [hl], by omega, ds4, hs4.le (by omega) (by omega), rfl⟩
        rcases List.mem_append.mp he with h | h
        · exact ho e h
        · simp at h; subst h; exact hd'
      · rintro acc r ⟨ho, hl, hi, ds', hs', rfl⟩
        rw [rng_len] at hl hi hs'
        have hmul : z.toNat * V m ≤ 3 * V m := Nat.mul_le_mul_right _ (by omega)
        walk_at "go"
        exact ⟨IsJ.list ho (by omega), ds', hs'.le (by omega) (by omega), rfl⟩
    · walk_at "go"
      refine w_lc ?_
      walk_at "go"
      refine w_call rfl nd1 rfl (w_mono (draw_ok (by omega) (k + 1) ds1 hs1 (by omega) 4 (by decide) (by decide)) ?_)
      rintro d r' ⟨z, ds2, rfl, h2, h3, hs2, rfl⟩
      walk_at "e4"
      walk_at "go"
      refine w_of (w_rng h2 (by omega)) ?_
      refine ⟨rfl, ?_⟩
      refine w_comp (fun i acc r => (∃ ps : List (Str × D), acc = ps.map fD ∧ ∀ f ∈ ps, SOk f.1 ∧ IsJ (m + 1) f.2) ∧ acc.length = i ∧ i ≤ 4 ∧ ∃ ds', Src (k + 2 + i * (V m + 10)) ds' ∧ r = [some (.own true ds'), some (.d (.int ((m + 1 : Nat) : Int))), some (.d (.int x)), none]) ⟨⟨[], rfl, by simp⟩, rfl, by omega, ds2, hs2.le (by omega) (by omega), rfl⟩ ?_ ?_
      · rintro i d acc r hd ⟨⟨ps, rfl, ho⟩, hl, hi, ds', hs', rfl⟩
        obtain ⟨hi3, rfl⟩ := rng_at hd
        have hi4 : i ≤ 2 := by omega
        have hmul : i * (V m + 10) ≤ 2 * (V m + 10) := Nat.mul_le_mul_right _ hi4
        have hmul2 : (i + 1) * (V m + 10) = i * (V m + 10) + (V m + 10) := Nat.succ_mul _ _
        refine ⟨_, rfl, ?_⟩
        walk_at "go"
        walk_at "go"
        refine w_call rfl nd1 rfl (w_mono (name_ok (by omega) (k + 2 + i * (V m + 10)) ds' hs' (by omega)) ?_)
        rintro d r' ⟨⟨y, rfl, yok⟩, ds3, hs3, rfl⟩
        walk_at "e4"
        walk_at "go"
        rw [em]
        refine w_call rfl nd1 rfl (w_mono (ih (by omega) (k + 2 + i * (V m + 10) + 10) ds3 hs3 (by omega)) ?_)
        rintro d r' ⟨hd', ds4, hs4, rfl⟩
        walk_at "go"
        refine ⟨by have : (4 : Nat) < sizeLine := by decide
                   omega, ⟨ps ++ [(y, d)], by rw [List.map_append]; rfl, fun f hf => ?_⟩, by simp at hl ⊢; omega, by omega, ds4, hs4.le (by omega) (by omega), rfl⟩
        rcases List.mem_append.mp hf with h | h
        · exact ho f h
        · simp at h; subst h; exact ⟨yok, hd'⟩
      · rintro acc r ⟨⟨ps, rfl, ho⟩, hl, hi, ds', hs', rfl⟩
        rw [rng_len] at hl hi hs'
        rw [List.length_map] at hl
        have hmul : z.toNat * (V m + 10) ≤ 3 * (V m + 10) := Nat.mul_le_mul_right _ (by omega)
        walk_at "go"
        refine w_call rfl nd0 rfl (w_mono (object_ok (by omega) (m + 1) ps ho (by omega)) ?_)
        rintro d r' ⟨hd, _, rfl⟩
        exact ⟨hd, ds', hs'.le (by omega) (by omega), rfl⟩

theorem four_ok {x : Int} (h0 : 0 ≤ x) (h1 : x < 4) : ∃ y : Int, ixD (.lst [.int 0, .int 0, .int 1, .int 3]) (.int x) = some (.int y) ∧ 0 ≤ y ∧ y ≤ 3 := by
  have : x = 0 ∨ x = 1 ∨ x = 2 ∨ x = 3 := by omega
  rcases this with rfl | rfl | rfl | rfl <;> exact ⟨_, rfl, by decide, by decide⟩

theorem wide_ok {N : Nat} (hN : 10 ≤ N) (k : Nat) (ds : List D) (hs : Src k ds) (hk : k + 1000000 < 2 ^ 60) :
    wp (sem N .l_wide) (fun d r' => IsJ 8 d ∧ ∃ ds', Src (k + 1000000) ds' ∧ r' = [some (.own true ds'), some (.d (.int 4))]) [some (.own true ds), some (.d (.int 4))] := by
  obtain ⟨n, rfl⟩ := lev (by omega) hN
  have hV : V 4 = 25600 := rfl
  rw [sem_succ]
  refine w_body (by rfl) ?_
  delta b_l_wide
  walk_at "go"
  refine w_call rfl nd1 rfl (w_mono (value_ok 4 (by omega) k ds hs (by omega)) ?_)
  rintro d r' ⟨hd, ds1, hs1, rfl⟩
  walk_at "go"
  refine o_mkL (by decide) ?_
  walk_at "go"
  refine w_call rfl nd1 rfl (w_mono (draw_ok (by omega) (k + V 4) ds1 hs1 (by omega) 4 (by decide) (by decide)) ?_)
  rintro v r' ⟨x, ds2, rfl, h0, h1, hs2, rfl⟩
  refine w_env (r' := [_, _, _, _, _, _, _]) rfl ?_
  obtain ⟨y, ey, hy0, hy1⟩ := four_ok h0 h1
  walk_at "go"
  refine w_of ey ?_
  walk_at "go"
  refine w_of (w_rng hy0 (by omega)) ?_
  refine w_for (fun i r => i ≤ 3 ∧ ∃ d ds' o3 o4, IsJ (5 + i) d ∧ Src (k + 25601 + i * 1000) ds' ∧ r = [some (.own true ds'), some (.d (.int 4)), some (.d d), o3, o4, none, none] ∧ (o3 = none ∨ ∃ e, o3 = some (.d e)) ∧ (o4 = none ∨ ∃ e, o4 = some (.d e)))
    ⟨by omega, d, ds2, none, none, hd, hs2, rfl, .inl rfl, .inl rfl⟩ ?_ ?_
  · rintro i e r he ⟨hi, d, ds', o3, o4, hd, hs', rfl, ho3, ho4⟩
    obtain ⟨hi3, rfl⟩ := rng_at he
    have f3 : ∀ a b c d' e', free [a, b, c, o3, d', e', e'] 3 = true := fun a b c d' e' => by rcases ho3 with rfl | ⟨_, rfl⟩ <;> rfl
    refine ⟨_, by unfold setD; rw [if_pos (by rcases ho3 with rfl | ⟨_, rfl⟩ <;> rfl)], ?_⟩
    refine w_env (r' := [_, _, _, _, _, _, _]) rfl ?_
    walk_at "go"
    refine w_lc ?_
    walk_at "go"
    refine w_call rfl nd1 rfl (w_mono (draw_ok (by omega) (k + 25601 + i * 1000) ds' hs' (by omega) 2 (by decide) (by decide)) ?_)
    rintro v r' ⟨u1, ds3, rfl, u10, u11, hs3, rfl⟩
    refine w_env (r' := [_, _, _, _, _, _, _]) rfl ?_
    walk_at "go"
    refine w_call rfl nd1 rfl (w_mono (draw_ok (by omega) (k + 25601 + i * 1000 + 1) ds3 hs3 (by omega) 13 (by decide) (by decide)) ?_)
    rintro v r' ⟨u2, ds4, rfl, u20, u21, hs4, rfl⟩
    refine w_env (r' := [_, _, _, _, _, _, _]) rfl ?_
    walk_at "go"
    refine o_mulI ?_ ?_
    · have l1 : u1.natAbs.log2 < 4 := lg (by omega) (by decide)
      have l2 : u2.natAbs.log2 < 5 := lg (by omega) (by decide)
      omega
    have hp : 0 ≤ u1 * u2 ∧ u1 * u2 ≤ 12 := by
      have : u1 = 0 ∨ u1 = 1 := by omega
      rcases this with rfl | rfl
      · rw [Int.zero_mul]; omega
      · rw [Int.one_mul]; omega
    generalize hp0 : u1 * u2 = pr at hp
    walk_at "go"
    refine w_of (w_rng (by omega) (by omega)) ?_
    refine ⟨by rfl, ?_⟩
    refine w_comp (fun j acc r => (∀ e ∈ acc, IsJ 1 e) ∧ acc.length = j ∧ j ≤ 12 ∧ ∃ ds', Src (k + 25603 + i * 1000 + j * 11) ds' ∧ r = [some (.own true ds'), some (.d (.int 4)), some (.d d), some (.d (.int (0 + i))), o4, none, none]) ⟨by simp, rfl, by omega, ds4, hs4.le (by omega) (by omega), rfl⟩ ?_ ?_
    · rintro j e acc r he ⟨ho, hl, hj, ds', hs', rfl⟩
      obtain ⟨hj3, rfl⟩ := rng_at he
      refine ⟨_, rfl, ?_⟩
      walk_at "go"
      walk_at "go"
      refine w_call rfl nd1 rfl (w_mono (leaf_ok (by omega) (k + 25603 + i * 1000 + j * 11) ds' hs' (by omega)) ?_)
      rintro e r' ⟨he, ds5, hs5, rfl⟩
      refine ⟨by have : (13 : Nat) < sizeLine := by decide
                 omega, fun e' he' => ?_, by simp [hl], by omega, ds5, hs5.le (by omega) (by omega), rfl⟩
      rcases List.mem_append.mp he' with h | h
      · exact ho e' h
      · simp at h; subst h; exact he
    · rintro acc r ⟨ho, hl, hj, ds5, hs5, rfl⟩
      rw [rng_len] at hl hj hs5
      refine w_nxt (by unfold setD; rw [if_pos (by rcases ho4 with rfl | ⟨_, rfl⟩ <;> rfl)]) ?_
      refine w_env (r' := [_, _, _, _, _, _, _]) rfl ?_
      walk_at "go"
      refine w_call rfl nd1 rfl (w_mono (draw_ok (by omega) (k + 25603 + i * 1000 + pr.toNat * 11) ds5 hs5 (by omega) 2 (by decide) (by decide)) ?_)
      rintro v r' ⟨u3, ds6, rfl, u30, u31, hs6, rfl⟩
      refine w_env (r' := [_, _, _, _, _, _, _]) rfl ?_
      walk_at "go"
      refine w_it (fun hb => ?_) (fun hb => ?_)
      · walk_at "go"
        refine w_of (addT (by simp; omega)) ?_
        walk_at "go"
        refine ⟨by omega, _, ds6, _, _, ?_, hs6.le (by omega) (by omega), rfl, .inr ⟨_, rfl⟩, .inr ⟨_, rfl⟩⟩
        refine IsJ.list (n := 5 + i) (fun e he => ?_) (by simp; omega)
        rcases List.mem_append.mp he with h | h
        · exact (ho e h).le (by omega)
        · simp at h; subst h; exact hd
      · walk_at "go"
        refine w_lc ?_
        walk_at "go"
        refine w_of (show seqOf (.lst acc) = some acc from rfl) ?_
        refine ⟨by rfl, ?_⟩
        refine w_comp (fun j ac r => (∃ ps : List (Str × D), ac = ps.map fD ∧ ∀ f ∈ ps, SOk f.1 ∧ IsJ (5 + i) f.2) ∧ ac.length = j ∧ j ≤ 12 ∧ ∃ ds', Src (k + 25800 + i * 1000 + j * 10) ds' ∧ r = [some (.own true ds'), some (.d (.int 4)), some (.d d), some (.d (.int (0 + i))), some (.d (.lst acc)), none, none]) ⟨⟨[], rfl, by simp⟩, rfl, by omega, ds6, hs6.le (by omega) (by omega), rfl⟩ ?_ ?_
        · rintro j e ac r he ⟨⟨ps, rfl, ho2⟩, hl2, hj2, ds', hs', rfl⟩
          have he1 : IsJ 1 e := ho e (List.mem_of_getElem? he)
          have hj4 : j < acc.length := (List.getElem?_eq_some_iff.mp he).1
          refine ⟨_, rfl, ?_⟩
          walk_at "go"
          walk_at "go"
          refine w_call rfl nd1 rfl (w_mono (name_ok (by omega) (k + 25800 + i * 1000 + j * 10) ds' hs' (by omega)) ?_)
          rintro v r' ⟨⟨y', rfl, yok⟩, ds7, hs7, rfl⟩
          refine w_env (r' := [_, _, _, _, _, _, _]) rfl ?_
          walk_at "go"
          refine ⟨by have : (13 : Nat) < sizeLine := by decide
                     omega, ⟨ps ++ [(y', e)], by rw [List.map_append]; rfl, fun f hf => ?_⟩, by simp at hl2 ⊢; omega, by omega, ds7, hs7.le (by omega) (by omega), rfl⟩
          rcases List.mem_append.mp hf with h | h
          · exact ho2 f h
          · simp at h; subst h; exact ⟨yok, he1.le (by omega)⟩
        · rintro ac r ⟨⟨ps, rfl, ho2⟩, hl2, hj2, ds7, hs7, rfl⟩
          rw [List.length_map] at hl2
          walk_at "go"
          refine w_call rfl nd1 rfl (w_mono (name_ok (by omega) (k + 25800 + i * 1000 + acc.length * 10) ds7 hs7 (by omega)) ?_)
          rintro v r' ⟨⟨y', rfl, yok⟩, ds8, hs8, rfl⟩
          refine w_env (r' := [_, _, _, _, _, _, _]) rfl ?_
          walk_at "go"
          refine o_mkL (by simp) ?_
          walk_at "go"
          refine w_of (addL (by simp; omega)) ?_
          walk_at "go"
          have hps : ∀ f ∈ ps ++ [(y', d)], SOk f.1 ∧ IsJ (5 + i) f.2 := fun f hf => by
            rcases List.mem_append.mp hf with h | h
            · exact ho2 f h
            · simp at h; subst h; exact ⟨yok, hd⟩
          have epd : (D.lst (ps.map fD ++ [.tup [.str y', d]])) = pD (ps ++ [(y', d)]) := by unfold pD; rw [List.map_append]; rfl
          rw [epd]
          refine w_call rfl nd0 rfl (w_mono (object_ok (by omega) (5 + i) (ps ++ [(y', d)]) hps (by simp; omega)) ?_)
          rintro v r' ⟨hv, _, rfl⟩
          walk_at "go"
          exact ⟨by omega, _, ds8, _, _, hv, hs8.le (by omega) (by omega), rfl, .inr ⟨_, rfl⟩, .inr ⟨_, rfl⟩⟩
  · rintro r ⟨hi, d, ds', o3, o4, hd, hs', rfl, ho3, ho4⟩
    rw [rng_len] at hd hs' hi
    have hmul : y.toNat * 1000 ≤ 3000 := by omega
    walk_at "go"
    exact ⟨hd.le (by omega), ds', hs'.le (by omega) (by omega), rfl⟩

def IsPair (m : Nat) (d : D) : Prop := ∃ f : Str × D, d = fD f ∧ SOk f.1 ∧ IsJ m f.2

theorem pairs_of {m : Nat} : ∀ {acc : List D}, (∀ a ∈ acc, IsPair m a) → ∃ ps : List (Str × D), acc = ps.map fD ∧ ∀ f ∈ ps, SOk f.1 ∧ IsJ m f.2
  | [], _ => ⟨[], rfl, by simp⟩
  | a :: acc, h => by
    obtain ⟨f, rfl, h1⟩ := h a (List.mem_cons_self ..)
    obtain ⟨ps, rfl, h2⟩ := pairs_of fun x hx => h x (List.mem_cons_of_mem _ hx)
    refine ⟨f :: ps, rfl, fun g hg => ?_⟩
    rcases List.mem_cons.mp hg with rfl | hg
    · exact h1
    · exact h2 g hg
end Row

set_option maxHeartbeats 1000000
namespace Row
open PySem PySem.Spec PyProof.Rows L2 Pk
local macro_rules | `(tactic| walk_at "s") => `(tactic| first
  | with_reducible refine w_seq ?_ | with_reducible refine w_ret ?_ | with_reducible refine w_if ?_ | with_reducible refine w_and ?_ | with_reducible refine w_or ?_ | with_reducible refine w_bd ?_ | with_reducible refine w_rt ?_ | with_reducible refine w_nil ?_
  | ((with_reducible refine' w_ld ?h ?_); (case h => exact rfl)) | ((with_reducible refine' w_own ?h ?_); (case h => exact rfl)) | ((with_reducible refine' w_ldF ?h ?_); (case h => exact rfl)) | ((with_reducible refine' w_nxt ?h ?_); (case h => exact rfl))
  | with_reducible refine w_chain ?_ | with_reducible refine w_andV ?_ | with_reducible refine w_orV ?_ | with_reducible refine p_itT ?_ | with_reducible refine p_itF ?_ | with_reducible refine w_itT ?_ | with_reducible refine w_itF ?_ | with_reducible refine o_asB ?_ | with_reducible refine o_asI ?_ | with_reducible refine o_asS ?_ | with_reducible refine o_truB ?_ | with_reducible refine o_truN ?_ | with_reducible refine o_truT ?_ | with_reducible refine o_truL ?_
  | with_reducible refine o_intI ?_ | with_reducible refine o_intB ?_ | with_reducible refine o_lenT ?_ | with_reducible refine o_lenL ?_ | with_reducible refine o_lenR ?_ | with_reducible refine o_listT ?_ | with_reducible refine o_listL ?_ | with_reducible refine o_tupleT ?_ | with_reducible refine o_tupleL ?_
  | with_reducible refine o_addI ?_ | with_reducible refine o_subI ?_ | with_reducible refine o_negI ?_ | with_reducible refine o_minI ?_ | with_reducible refine o_maxI ?_ | with_reducible refine o_eqI ?_ | with_reducible refine o_neI ?_
  | with_reducible refine o_ltI ?_ | with_reducible refine o_leI ?_ | with_reducible refine o_gtI ?_ | with_reducible refine o_geI ?_ | with_reducible refine o_ltS ?_ | with_reducible refine o_leS ?_ | with_reducible refine o_gtS ?_ | with_reducible refine o_geS ?_ | with_reducible refine o_isN ?_ | with_reducible refine o_isNotN ?_
  | with_reducible refine o_mkT0 ?_ | with_reducible refine o_mkT1 ?_ | with_reducible refine o_mkT2 ?_ | ((with_reducible refine' o_modI ?h ?_); (case h => decide)) | ((with_reducible refine' o_fdivI ?h ?h2 ?_); (case h => decide); (case h2 => decide)) | ((with_reducible refine' o_powI ?h ?h2 ?h3 ?_); (case h => decide); (case h2 => decide); (case h3 => decide))
  | ((with_reducible refine' o_eqS ?h ?h2 ?_); (case h => first | assumption | exact SOk.str (by assumption) | exact so_list | exact so_object | exact so_null | exact so_bool | exact so_int | exact so_text); (case h2 => first | assumption | exact SOk.str (by assumption) | exact so_list | exact so_object | exact so_null | exact so_bool | exact so_int | exact so_text)) | ((with_reducible refine' o_neS ?h ?h2 ?_); (case h => first | assumption | exact SOk.str (by assumption) | exact so_list | exact so_object | exact so_null | exact so_bool | exact so_int | exact so_text); (case h2 => first | assumption | exact SOk.str (by assumption) | exact so_list | exact so_object | exact so_null | exact so_bool | exact so_int | exact so_text)) | ((with_reducible refine' o_ix ?h ?_); (case h => exact rfl)))
local macro_rules | `(tactic| walk_at "ix") => `(tactic| refine w_of (show ixD _ _ = some _ from rfl) ?_)
local macro_rules | `(tactic| walk_at "go") => `(tactic| (repeat walk_at "s"))
local macro_rules | `(tactic| walk_at "e1") => `(tactic| refine w_env (r' := [_]) rfl ?_)
local macro_rules | `(tactic| walk_at "e2") => `(tactic| refine w_env (r' := [_, _]) rfl ?_)
local macro_rules | `(tactic| walk_at "e3") => `(tactic| refine w_env (r' := [_, _, _]) rfl ?_)
local macro_rules | `(tactic| walk_at "e4") => `(tactic| refine w_env (r' := [_, _, _, _]) rfl ?_)
def IsTok (t : D) : Prop := (∃ x, SOk x ∧ t = .str x) ∨ (∃ i : Int, t = .int i)

def findD (x : Str) : List D → D
  | [] => .non
  | d :: ds => match d with
    | .tup (.str y :: v :: _) => if y == x then v else findD x ds
    | _ => findD x ds

def child (v t : D) : D := match v, t with
  | .tup [.str k, .tup ds], .int i => if k == Str.ofString "list" then (if 0 ≤ i ∧ i < (ds.length : Int) then ds.getD i.toNat .non else .non) else .non
  | .tup [.str k, .tup ds], .str x => if k == Str.ofString "object" then findD x ds else .non
  | _, _ => .non

theorem findD_fD (x : Str) (f : Str × D) (ds : List D) : findD x (fD f :: ds) = if f.1 == x then f.2 else findD x ds := rfl

theorem w_find {P : Fl → Ro → Prop} {b : M Fl} {g : D → Ro → Option Ro} {x : Str} {fs : List (Str × D)} {r0 : Ro} (R S : Ro → Prop) (h0 : R r0)
    (hs : ∀ f ∈ fs, ∀ r, R r → ∃ r1, g (fD f) r = some r1 ∧ ((f.1 == x) = true → wp b (fun fl r2 => fl = .rt f.2 ∧ S r2) r1) ∧ ((f.1 == x) = false → wp b (fun fl r2 => fl = .nx ∧ R r2) r1))
    (h1 : findD x (fs.map fD) = .non → ∀ r, R r → P .nx r) (h2 : ∀ r, S r → P (.rt (findD x (fs.map fD))) r) : wp (forM g b (fs.map fD)) P r0 := by
  refine w_for (fun i r => R r ∧ findD x (fs.map fD) = findD x ((fs.map fD).drop i)) ⟨h0, by simp⟩ ?_ ?_
  · rintro i d r hd ⟨hr, hf⟩
    obtain ⟨f, hfm, rfl⟩ := List.mem_map.mp (List.mem_of_getElem? hd)
    have hi : i < (fs.map fD).length := (List.getElem?_eq_some_iff.mp hd).1
    have hc : (fs.map fD).drop i = fD f :: (fs.map fD).drop (i + 1) := by
      rw [List.drop_eq_getElem_cons hi]
      have := (List.getElem?_eq_some_iff.mp hd).2
      rw [this]
    rw [hc, findD_fD] at hf
    obtain ⟨r1, e1, g1, g2⟩ := hs f hfm r hr
    refine ⟨r1, e1, ?_⟩
    cases hx : (f.1 == x) with
    | true =>
      rw [hx, if_pos rfl] at hf
      refine w_mono (g1 hx) ?_
      rintro fl r2 ⟨rfl, hp⟩
      have := h2 r2 hp
      rw [hf] at this
      exact this
    | false =>
      rw [hx, if_neg Bool.false_ne_true] at hf
      refine w_mono (g2 hx) ?_
      rintro fl r2 ⟨rfl, hp⟩
      exact ⟨hp, hf⟩
  · rintro r ⟨hr, hf⟩
    rw [List.drop_length] at hf
    exact h1 hf r hr

theorem IsTok.str {t : D} (h : IsTok t) : t.py.canLay0 = true := by
  rcases h with ⟨x, hx, rfl⟩ | ⟨i, rfl⟩
  · simp [D.py, PyData.canLay0, hx.str]
  · simp [D.py, PyData.canLay0]

theorem findD_ok {m : Nat} {x : Str} : ∀ {fs : List (Str × D)}, (∀ f ∈ fs, IsJ m f.2) → findD x (fs.map fD) = .non ∨ IsJ m (findD x (fs.map fD))
  | [], _ => .inl rfl
  | f :: fs, h => by
    rw [List.map_cons, findD_fD]
    split
    · exact .inr (h f (List.mem_cons_self ..))
    · exact findD_ok fun g hg => h g (List.mem_cons_of_mem _ hg)

theorem child_ok {n : Nat} {v t : D} (h : IsJ n v) (ht : IsTok t) : child v t = .non ∨ IsJ n (child v t) := by
  cases n with
  | zero => exact h.elim
  | succ n =>
    rcases h with rfl | ⟨b, rfl⟩ | ⟨i, rfl⟩ | ⟨x, hx, rfl⟩ | ⟨ds, hl, hd, rfl⟩ | ⟨fs, hl, hf, hp, rfl⟩
    · rcases ht with ⟨y, _, rfl⟩ | ⟨j, rfl⟩ <;> exact .inl rfl
    · rcases ht with ⟨y, _, rfl⟩ | ⟨j, rfl⟩ <;> exact .inl rfl
    · rcases ht with ⟨y, _, rfl⟩ | ⟨j, rfl⟩ <;> exact .inl rfl
    · rcases ht with ⟨y, _, rfl⟩ | ⟨j, rfl⟩ <;> exact .inl rfl
    · rcases ht with ⟨y, _, rfl⟩ | ⟨j, rfl⟩
      · exact .inl rfl
      · show (if 0 ≤ j ∧ j < (ds.length : Int) then ds.getD j.toNat .non else .non) = .non ∨ IsJ (n + 1) (if 0 ≤ j ∧ j < (ds.length : Int) then ds.getD j.toNat .non else .non)
        by_cases hj : 0 ≤ j ∧ j < (ds.length : Int)
        · rw [if_pos hj]
          have hl : j.toNat < ds.length := by omega
          right
          rw [List.getD_eq_getElem?_getD, List.getElem?_eq_getElem hl]
          exact (hd _ (List.getElem_mem hl)).succ
        · rw [if_neg hj]; exact .inl rfl
    · rcases ht with ⟨y, _, rfl⟩ | ⟨j, rfl⟩
      · show findD y (fs.map fD) = .non ∨ IsJ (n + 1) (findD y (fs.map fD))
        rcases findD_ok (x := y) (fs := fs) (m := n) (fun f hf' => (hf f hf').2) with h | h
        · exact .inl h
        · exact .inr h.succ
      · exact .inl rfl

theorem shapes {n : Nat} {v : D} (h : IsJ n v) : (∃ k x, v = .tup [.str k, x] ∧ PyData.strOk k = true ∧ (k == Str.ofString "list") = false ∧ (k == Str.ofString "object") = false ∧ (∀ ds, x ≠ .tup ds)) ∨ v = .tup [.str (Str.ofString "null")] ∨
    (∃ ds, v = lstD ds ∧ ds.length ≤ 400 + min (n - 1) 100 ∧ ∀ e ∈ ds, IsJ (n - 1) e) ∨ (∃ fs, v = objD fs ∧ fs.length ≤ 400 + min (n - 1) 100 ∧ FOk (n - 1) fs) := by
  cases n with
  | zero => exact h.elim
  | succ n =>
    rcases h with rfl | ⟨b, rfl⟩ | ⟨i, rfl⟩ | ⟨x, hx, rfl⟩ | ⟨ds, hl, hd, rfl⟩ | ⟨fs, hl, hf, hp, rfl⟩
    · exact .inr (.inl rfl)
    · exact .inl ⟨_, _, rfl, so_bool, rfl, rfl, fun _ z => by cases z⟩
    · exact .inl ⟨_, _, rfl, so_int, rfl, rfl, fun _ z => by cases z⟩
    · exact .inl ⟨_, _, rfl, so_text, rfl, rfl, fun _ z => by cases z⟩
    · exact .inr (.inr (.inl ⟨ds, rfl, hl, hd⟩))
    · exact .inr (.inr (.inr ⟨fs, rfl, hl, hf, hp⟩))

theorem child_flat {k : Str} {x t : D} (h1 : (k == Str.ofString "list") = false) (h2 : (k == Str.ofString "object") = false) : child (.tup [.str k, x]) t = .non := by
  cases x <;> cases t <;> simp [child, h1, h2]

theorem child_null {t : D} : child (.tup [.str (Str.ofString "null")]) t = .non := by
  cases t <;> rfl

theorem child_list {ds : List D} {i : Int} : child (lstD ds) (.int i) = if 0 ≤ i ∧ i < (ds.length : Int) then ds.getD i.toNat .non else .non := rfl

theorem child_list_s {ds : List D} {x : Str} : child (lstD ds) (.str x) = .non := rfl

theorem child_obj {fs : List (Str × D)} {x : Str} : child (objD fs) (.str x) = findD x (fs.map fD) := rfl

theorem child_obj_i {fs : List (Str × D)} {i : Int} : child (objD fs) (.int i) = .non := rfl

theorem lchild_ok {N : Nat} (hN : 1 ≤ N) (m : Nat) (v t : D) (hv : IsJ m v) (ht : IsTok t) :
    wp (sem N .l_child) (fun d r' => d = child v t ∧ r' = [some (.d v), some (.d t)]) [some (.d v), some (.d t)] := by
  obtain ⟨n, rfl⟩ := lev (by omega) hN
  rw [sem_succ]
  refine w_body (by rfl) ?_
  delta b_l_child
  rcases shapes hv with ⟨k, x, rfl, hk, h1, h2, _⟩ | rfl | ⟨ds, rfl, hl, hd⟩ | ⟨fs, rfl, hl, hf⟩
  · walk_at "go"
    refine p_ifF h1 ?_
    walk_at "go"
    refine p_ifF h2 ?_
    walk_at "go"
    exact ⟨(child_flat h1 h2).symm, rfl⟩
  · walk_at "go"
    refine p_ifF rfl ?_
    walk_at "go"
    refine p_ifF rfl ?_
    walk_at "go"
    exact ⟨child_null.symm, rfl⟩
  · unfold lstD
    walk_at "go"
    refine p_ifT rfl ?_
    walk_at "go"
    rcases ht with ⟨y, hy, rfl⟩ | ⟨j, rfl⟩
    · refine o_isi (show isiD "int" (.str y) = some (.bl false) from rfl) ?_
      walk_at "go"
      refine p_ifF rfl ?_
      walk_at "go"
      exact ⟨child_list_s.symm, rfl⟩
    · refine o_isi (show isiD "int" (.int j) = some (.bl true) from rfl) ?_
      walk_at "go"
      refine p_it (fun h0 => ?_) (fun h0 => ?_)
      · walk_at "go"
        refine w_it (fun h1 => ?_) (fun h1 => ?_)
        · have hj : 0 ≤ j ∧ j < (ds.length : Int) := ⟨of_decide_eq_true h0, of_decide_eq_true h1⟩
          obtain ⟨d, _, e1, e2⟩ := w_ixT hj.1 hj.2
          walk_at "go"
          refine w_of e2 ?_
          refine ⟨Eq.trans ?_ child_list.symm, rfl⟩
          rw [if_pos hj, List.getD_eq_getElem?_getD, e1]
          rfl
        · have hj : ¬ (0 ≤ j ∧ j < (ds.length : Int)) := fun h => of_decide_eq_false h1 h.2
          walk_at "go"
          refine p_ifF rfl ?_
          walk_at "go"
          refine ⟨Eq.trans ?_ child_list.symm, rfl⟩
          rw [if_neg hj]
      · have hj : ¬ (0 ≤ j ∧ j < (ds.length : Int)) := fun h => of_decide_eq_false h0 h.1
        walk_at "go"
        refine p_ifF rfl ?_
        walk_at "go"
        refine ⟨Eq.trans ?_ child_list.symm, rfl⟩
        rw [if_neg hj]
  · unfold objD
    walk_at "go"
    refine p_ifF rfl ?_
    walk_at "go"
    refine p_ifT rfl ?_
    walk_at "go"
    rcases ht with ⟨y, hy, rfl⟩ | ⟨j, rfl⟩
    · refine o_isi (show isiD "str" (.str y) = some (.bl true) from rfl) ?_
      walk_at "go"
      refine w_of (show seqOf (.tup (fs.map fD)) = some (fs.map fD) from rfl) ?_
      refine w_find (x := y) (fun r => ∃ o, r = [some (.d (objD fs)), some (.d (.str y)), o] ∧ (o = none ∨ ∃ d, o = some (.d d))) (fun r => ∃ o, r = [some (.d (objD fs)), some (.d (.str y)), o]) ⟨none, rfl, .inl rfl⟩ ?_ ?_ ?_
      · rintro f hfm r ⟨o, rfl, ho⟩
        have hfn := (hf.1 f hfm).1
        refine ⟨[some (.d (objD fs)), some (.d (.str y)), some (.d (fD f))], by unfold setD; rw [if_pos (by rcases ho with rfl | ⟨_, rfl⟩ <;> rfl)]; rfl, fun hb => ?_, fun hb => ?_⟩
        · unfold fD
          walk_at "go"
          refine w_ifT hb ?_
          walk_at "go"
          exact ⟨rfl, _, rfl⟩
        · unfold fD
          walk_at "go"
          refine w_ifF hb ?_
          walk_at "go"
          exact ⟨rfl, _, rfl, .inr ⟨_, rfl⟩⟩
      · rintro hn r ⟨o, rfl, _⟩
        walk_at "go"
        exact ⟨Eq.trans hn.symm child_obj.symm, rfl⟩
      · rintro r ⟨o, rfl⟩
        exact ⟨rfl, rfl⟩
    · refine o_isi (show isiD "str" (.int j) = some (.bl false) from rfl) ?_
      walk_at "go"
      exact ⟨child_obj_i.symm, rfl⟩

def walkD (v : D) : List D → D
  | [] => v
  | t :: ts => match v with
    | .non => .non
    | v => walkD (child v t) ts

theorem walkD_non : ∀ ts, walkD .non ts = .non
  | [] => rfl
  | _ :: _ => rfl

theorem IsJ.some {n : Nat} {v : D} (h : IsJ n v) : v.isNon = false ∧ v ≠ .non := by
  rcases shapes h with ⟨k, x, rfl, _⟩ | rfl | ⟨ds, rfl, _⟩ | ⟨fs, rfl, _⟩ <;> exact ⟨rfl, fun z => by cases z⟩

theorem walkD_cons {n : Nat} {v t : D} {ts : List D} (h : IsJ n v) : walkD v (t :: ts) = walkD (child v t) ts := by
  rcases shapes h with ⟨k, x, rfl, _⟩ | rfl | ⟨ds, rfl, _⟩ | ⟨fs, rfl, _⟩ <;> rfl

theorem walkD_ok {n : Nat} : ∀ {ts : List D} {v : D}, IsJ n v → (∀ t ∈ ts, IsTok t) → walkD v ts = .non ∨ IsJ n (walkD v ts)
  | [], v, h, _ => .inr h
  | t :: ts, v, h, ht => by
    rw [walkD_cons h]
    rcases child_ok h (ht t (List.mem_cons_self ..)) with e | e
    · rw [e, walkD_non]; exact .inl rfl
    · exact walkD_ok e fun t' h' => ht t' (List.mem_cons_of_mem _ h')

theorem llookup_ok {N : Nat} (hN : 2 ≤ N) (m : Nat) (v : D) (ts : List D) (hv : IsJ m v) (ht : ∀ t ∈ ts, IsTok t) :
    wp (sem N .l_lookup) (fun d r' => d = walkD v ts ∧ r' = [some (.d v), some (.d (.tup ts))]) [some (.d v), some (.d (.tup ts))] := by
  obtain ⟨n, rfl⟩ := lev (by omega) hN
  rw [sem_succ]
  refine w_body (by rfl) ?_
  delta b_l_lookup
  walk_at "go"
  refine w_of (show seqOf (.tup ts) = some ts from rfl) ?_
  refine w_for (fun i r => ∃ c o, (c = .non ∨ IsJ m c) ∧ walkD v ts = walkD c (ts.drop i) ∧ r = [some (.d c), some (.d (.tup ts)), o] ∧ (o = none ∨ ∃ d, o = some (.d d))) ⟨v, none, .inr hv, by simp, rfl, .inl rfl⟩ ?_ ?_
  · rintro i t r hd ⟨c, o, hc, hw, rfl, ho⟩
    have hi : i < ts.length := (List.getElem?_eq_some_iff.mp hd).1
    have hte : ts.drop i = t :: ts.drop (i + 1) := by
      rw [List.drop_eq_getElem_cons hi, (List.getElem?_eq_some_iff.mp hd).2]
    have htt := ht t (List.mem_of_getElem? hd)
    rw [hte] at hw
    refine ⟨[some (.d c), some (.d (.tup ts)), some (.d t)], by unfold setD; rw [if_pos (by rcases ho with rfl | ⟨_, rfl⟩ <;> rfl)]; rfl, ?_⟩
    walk_at "go"
    rcases hc with rfl | hc
    · walk_at "go"
      refine w_ifF rfl ?_
      walk_at "go"
      exact ⟨.non, _, .inl rfl, by rw [hw, walkD_non, walkD_non], rfl, .inr ⟨_, rfl⟩⟩
    · rw [walkD_cons hc] at hw
      rw [hc.some.1]
      refine w_ifT rfl ?_
      walk_at "go"
      refine w_call rfl nd0 rfl (w_mono (lchild_ok (by omega) m c t hc htt) ?_)
      rintro d r' ⟨rfl, rfl⟩
      walk_at "go"
      exact ⟨_, _, child_ok hc htt, hw, rfl, .inr ⟨_, rfl⟩⟩
  · rintro r ⟨c, o, hc, hw, rfl, ho⟩
    rw [List.drop_length] at hw
    walk_at "go"
    exact ⟨hw.symm, rfl⟩
end Row

set_option maxHeartbeats 1000000
namespace Row
open PySem PySem.Spec PyProof.Rows L2 Pk
local macro_rules | `(tactic| walk_at "s") => `(tactic| first
  | with_reducible refine w_seq ?_ | with_reducible refine w_ret ?_ | with_reducible refine w_if ?_ | with_reducible refine w_and ?_ | with_reducible refine w_or ?_ | with_reducible refine w_bd ?_ | with_reducible refine w_rt ?_ | with_reducible refine w_nil ?_
  | ((with_reducible refine' w_ld ?h ?_); (case h => exact rfl)) | ((with_reducible refine' w_own ?h ?_); (case h => exact rfl)) | ((with_reducible refine' w_ldF ?h ?_); (case h => exact rfl)) | ((with_reducible refine' w_nxt ?h ?_); (case h => exact rfl))
  | with_reducible refine w_chain ?_ | with_reducible refine w_andV ?_ | with_reducible refine w_orV ?_ | with_reducible refine p_itT ?_ | with_reducible refine p_itF ?_ | with_reducible refine w_itT ?_ | with_reducible refine w_itF ?_ | with_reducible refine o_asB ?_ | with_reducible refine o_asI ?_ | with_reducible refine o_asS ?_ | with_reducible refine o_truB ?_ | with_reducible refine o_truN ?_ | with_reducible refine o_truT ?_ | with_reducible refine o_truL ?_
  | with_reducible refine o_intI ?_ | with_reducible refine o_intB ?_ | with_reducible refine o_lenT ?_ | with_reducible refine o_lenL ?_ | with_reducible refine o_lenR ?_ | with_reducible refine o_listT ?_ | with_reducible refine o_listL ?_ | with_reducible refine o_tupleT ?_ | with_reducible refine o_tupleL ?_
  | with_reducible refine o_addI ?_ | with_reducible refine o_subI ?_ | with_reducible refine o_negI ?_ | with_reducible refine o_minI ?_ | with_reducible refine o_maxI ?_ | with_reducible refine o_eqI ?_ | with_reducible refine o_neI ?_
  | with_reducible refine o_ltI ?_ | with_reducible refine o_leI ?_ | with_reducible refine o_gtI ?_ | with_reducible refine o_geI ?_ | with_reducible refine o_ltS ?_ | with_reducible refine o_leS ?_ | with_reducible refine o_gtS ?_ | with_reducible refine o_geS ?_ | with_reducible refine o_isN ?_ | with_reducible refine o_isNotN ?_
  | with_reducible refine o_mkT0 ?_ | with_reducible refine o_mkT1 ?_ | with_reducible refine o_mkT2 ?_ | ((with_reducible refine' o_modI ?h ?_); (case h => decide)) | ((with_reducible refine' o_fdivI ?h ?h2 ?_); (case h => decide); (case h2 => decide)) | ((with_reducible refine' o_powI ?h ?h2 ?h3 ?_); (case h => decide); (case h2 => decide); (case h3 => decide))
  | ((with_reducible refine' o_eqS ?h ?h2 ?_); (case h => first | assumption | exact SOk.str (by assumption) | exact so_list | exact so_object | exact so_null | exact so_bool | exact so_int | exact so_text); (case h2 => first | assumption | exact SOk.str (by assumption) | exact so_list | exact so_object | exact so_null | exact so_bool | exact so_int | exact so_text)) | ((with_reducible refine' o_neS ?h ?h2 ?_); (case h => first | assumption | exact SOk.str (by assumption) | exact so_list | exact so_object | exact so_null | exact so_bool | exact so_int | exact so_text); (case h2 => first | assumption | exact SOk.str (by assumption) | exact so_list | exact so_object | exact so_null | exact so_bool | exact so_int | exact so_text)) | ((with_reducible refine' o_ix ?h ?_); (case h => exact rfl)))
local macro_rules | `(tactic| walk_at "ix") => `(tactic| refine w_of (show ixD _ _ = some _ from rfl) ?_)
local macro_rules | `(tactic| walk_at "go") => `(tactic| (repeat walk_at "s"))
local macro_rules | `(tactic| walk_at "e1") => `(tactic| refine w_env (r' := [_]) rfl ?_)
local macro_rules | `(tactic| walk_at "e2") => `(tactic| refine w_env (r' := [_, _]) rfl ?_)
local macro_rules | `(tactic| walk_at "e3") => `(tactic| refine w_env (r' := [_, _, _]) rfl ?_)
local macro_rules | `(tactic| walk_at "e4") => `(tactic| refine w_env (r' := [_, _, _, _]) rfl ?_)
theorem isint_ok {N : Nat} (hN : 1 ≤ N) (i : Int) : wp (sem N .l_is_integer) (fun d r' => d = .bl true ∧ r' = [some (.d (.int i))]) [some (.d (.int i))] := by
  obtain ⟨n, rfl⟩ := lev (by omega) hN
  rw [sem_succ]
  refine w_body (by rfl) ?_
  delta b_l_is_integer
  walk_at "go"
  refine o_isi (show isiD "int" (.int i) = some (.bl true) from rfl) ?_
  walk_at "go"
  refine o_isi (show isiD "bool" (.int i) = some (.bl false) from rfl) ?_
  walk_at "go"
  exact ⟨rfl, rfl⟩

theorem lt1 {a b : Nat} : decide (([a] : List Nat) < [b]) = decide (a < b) := by
  rw [decide_eq_decide, List.cons_lt_cons_iff]
  simp

theorem all_true : ∀ {acc : List D}, (∀ e ∈ acc, e = .bl true) → allD [.lst acc] = some (.bl true)
  | acc, h => by
    have : ∀ {acc : List D}, (∀ e ∈ acc, e = .bl true) → ∃ bs, bools acc = some bs ∧ bs.all _root_.id = true := by
      intro acc
      induction acc with
      | nil => intro _; exact ⟨[], rfl, rfl⟩
      | cons e acc ih =>
        intro h
        obtain ⟨bs, e1, e2⟩ := ih fun x hx => h x (List.mem_cons_of_mem _ hx)
        rw [h e (List.mem_cons_self ..)]
        exact ⟨true :: bs, by simp only [bools, e1]; rfl, by simp [e2]⟩
    obtain ⟨bs, e1, e2⟩ := this h
    simp only [allD, e1, Option.map, e2]

theorem isstr_ok {N : Nat} (hN : 1 ≤ N) (x : Str) (hx : SOk x) : wp (sem N .l_is_string) (fun d r' => d = .bl true ∧ r' = [some (.d (.str x))]) [some (.d (.str x))] := by
  obtain ⟨n, rfl⟩ := lev (by omega) hN
  rw [sem_succ]
  refine w_body (by rfl) ?_
  delta b_l_is_string
  walk_at "go"
  refine o_isi (show isiD "str" (.str x) = some (.bl true) from rfl) ?_
  walk_at "go"
  refine w_ifF rfl ?_
  walk_at "go"
  refine w_lc ?_
  walk_at "go"
  refine w_of (show seqOf (.str x) = some (x.cps.toList.map fun c => .str ⟨#[c]⟩) from rfl) ?_
  refine ⟨rfl, ?_⟩
  have hl : (x.cps.toList.map fun c => D.str ⟨#[c]⟩).length ≤ 100 := by
    rw [List.length_map, Array.length_toList]; exact hx.2
  refine w_comp_pure (fun _ => true) (fun _ => .bl true) (fun d hd => ?_) (Nat.le_trans hl (by decide)) ?_
  · obtain ⟨c, hc, rfl⟩ := List.mem_map.mp hd
    have ok := hx.1 c hc
    unfold COk at ok
    refine ⟨_, rfl, ?_, fun _ => ?_, rfl⟩
    · walk_at "go"
      exact ⟨rfl, rfl⟩
    · walk_at "go"
      have e1 : decide ((#[c] : Array Nat).toList < (Str.ofString " ").cps.toList) = false := by
        show decide (([c] : List Nat) < [32]) = false
        rw [lt1]; exact decide_eq_false (by omega)
      refine w_ifT (by rw [show (({ cps := #[c] } : Str).cps.toList) = (#[c] : Array Nat).toList from rfl, e1]; rfl) ?_
      walk_at "go"
      have e2 : decide ((Str.ofString "~").cps.toList < (#[c] : Array Nat).toList) = false := by
        show decide (([126] : List Nat) < [c]) = false
        rw [lt1]; exact decide_eq_false (by omega)
      refine w_ifT (by rw [show (({ cps := #[c] } : Str).cps.toList) = (#[c] : Array Nat).toList from rfl, e2]; rfl) ?_
      walk_at "go"
      refine w_of (show ordC [.str ⟨#[c]⟩] = some (.int (c : Int)) from rfl) ?_
      walk_at "go"
      refine ⟨?_, rfl⟩
      have : ((c : Int) == 37) = false := by rw [beq_eq_false_iff_ne]; omega
      rw [this]; rfl
  · walk_at "go"
    refine w_of (all_true (fun e he => ?_)) ?_
    · obtain ⟨d, _, rfl⟩ := List.mem_map.mp he
      rfl
    · exact ⟨rfl, rfl⟩
end Row

set_option maxHeartbeats 1000000
namespace Row
open PySem PySem.Spec PyProof.Rows L2 Pk
local macro_rules | `(tactic| walk_at "s") => `(tactic| first
  | with_reducible refine w_seq ?_ | with_reducible refine w_ret ?_ | with_reducible refine w_if ?_ | with_reducible refine w_and ?_ | with_reducible refine w_or ?_ | with_reducible refine w_bd ?_ | with_reducible refine w_rt ?_ | with_reducible refine w_nil ?_
  | ((with_reducible refine' w_ld ?h ?_); (case h => exact rfl)) | ((with_reducible refine' w_own ?h ?_); (case h => exact rfl)) | ((with_reducible refine' w_ldF ?h ?_); (case h => exact rfl)) | ((with_reducible refine' w_nxt ?h ?_); (case h => exact rfl))
  | with_reducible refine w_chain ?_ | with_reducible refine w_andV ?_ | with_reducible refine w_orV ?_ | with_reducible refine p_itT ?_ | with_reducible refine p_itF ?_ | with_reducible refine w_itT ?_ | with_reducible refine w_itF ?_ | with_reducible refine o_asB ?_ | with_reducible refine o_asI ?_ | with_reducible refine o_asS ?_ | with_reducible refine o_truB ?_ | with_reducible refine o_truN ?_ | with_reducible refine o_truT ?_ | with_reducible refine o_truL ?_
  | with_reducible refine o_intI ?_ | with_reducible refine o_intB ?_ | with_reducible refine o_lenT ?_ | with_reducible refine o_lenL ?_ | with_reducible refine o_lenR ?_ | with_reducible refine o_listT ?_ | with_reducible refine o_listL ?_ | with_reducible refine o_tupleT ?_ | with_reducible refine o_tupleL ?_
  | with_reducible refine o_addI ?_ | with_reducible refine o_subI ?_ | with_reducible refine o_negI ?_ | with_reducible refine o_minI ?_ | with_reducible refine o_maxI ?_ | with_reducible refine o_eqI ?_ | with_reducible refine o_neI ?_
  | with_reducible refine o_ltI ?_ | with_reducible refine o_leI ?_ | with_reducible refine o_gtI ?_ | with_reducible refine o_geI ?_ | with_reducible refine o_ltS ?_ | with_reducible refine o_leS ?_ | with_reducible refine o_gtS ?_ | with_reducible refine o_geS ?_ | with_reducible refine o_isN ?_ | with_reducible refine o_isNotN ?_
  | with_reducible refine o_mkT0 ?_ | with_reducible refine o_mkT1 ?_ | with_reducible refine o_mkT2 ?_ | ((with_reducible refine' o_modI ?h ?_); (case h => decide)) | ((with_reducible refine' o_fdivI ?h ?h2 ?_); (case h => decide); (case h2 => decide)) | ((with_reducible refine' o_powI ?h ?h2 ?h3 ?_); (case h => decide); (case h2 => decide); (case h3 => decide))
  | ((with_reducible refine' o_eqS ?h ?h2 ?_); (case h => first | assumption | exact SOk.str (by assumption) | exact so_list | exact so_object | exact so_null | exact so_bool | exact so_int | exact so_text); (case h2 => first | assumption | exact SOk.str (by assumption) | exact so_list | exact so_object | exact so_null | exact so_bool | exact so_int | exact so_text)) | ((with_reducible refine' o_neS ?h ?h2 ?_); (case h => first | assumption | exact SOk.str (by assumption) | exact so_list | exact so_object | exact so_null | exact so_bool | exact so_int | exact so_text); (case h2 => first | assumption | exact SOk.str (by assumption) | exact so_list | exact so_object | exact so_null | exact so_bool | exact so_int | exact so_text)) | ((with_reducible refine' o_ix ?h ?_); (case h => exact rfl)))
local macro_rules | `(tactic| walk_at "ix") => `(tactic| refine w_of (show ixD _ _ = some _ from rfl) ?_)
local macro_rules | `(tactic| walk_at "go") => `(tactic| (repeat walk_at "s"))
local macro_rules | `(tactic| walk_at "e1") => `(tactic| refine w_env (r' := [_]) rfl ?_)
local macro_rules | `(tactic| walk_at "e2") => `(tactic| refine w_env (r' := [_, _]) rfl ?_)
local macro_rules | `(tactic| walk_at "e3") => `(tactic| refine w_env (r' := [_, _, _]) rfl ?_)
local macro_rules | `(tactic| walk_at "e4") => `(tactic| refine w_env (r' := [_, _, _, _]) rfl ?_)
theorem Big.of_bits {z : Int} (h : Builtin.Int.intBits z ≤ 1048576) : Big z := by
  have h1 : z.natAbs < 2 ^ (z.natAbs.log2 + 1) := Nat.lt_log2_self
  have h2 : z.natAbs.log2 + 1 ≤ 1048577 := by
    by_cases h0 : z = 0
    · subst h0; decide
    · have : Builtin.Int.intBits z = z.natAbs.log2 + 1 := by
        unfold Builtin.Int.intBits
        split
        · rename_i h; exact absurd (by simpa using h) h0
        · rfl
      omega
  exact Nat.lt_of_lt_of_le h1 (Nat.pow_le_pow_right (by decide) (by omega))

theorem Big.small {z : Int} (h : z.natAbs < 2 ^ 60) : Big z := Nat.lt_of_lt_of_le h (Nat.pow_le_pow_right (by decide) (by decide))

theorem cell_ok {N : Nat} (hN : 1 ≤ N) (ns : List Int) (hb : ∀ z ∈ ns, Big z) (k : Nat) :
    wp (sem N .l_cell) (fun d r' => (∃ z, d = .int z ∧ Big z) ∧ r' = [some (.d (.ro (ns.map D.int))), some (.d (.int k))]) [some (.d (.ro (ns.map D.int))), some (.d (.int k))] := by
  obtain ⟨n, rfl⟩ := lev (by omega) hN
  rw [sem_succ]
  refine w_body (by rfl) ?_
  delta b_l_cell
  walk_at "go"
  refine w_it (fun h => ?_) (fun h => ?_)
  · have hk : (k : Int) < ((ns.map D.int).length : Int) := of_decide_eq_true h
    obtain ⟨d, hd, _, e⟩ := w_ixR (ds := ns.map D.int) (i := (k : Int)) (by omega) hk
    walk_at "go"
    refine w_of e ?_
    obtain ⟨z, hz, rfl⟩ := List.mem_map.mp hd
    exact ⟨⟨z, rfl, hb z hz⟩, rfl⟩
  · walk_at "go"
    exact ⟨⟨0, rfl, Big.small (by decide)⟩, rfl⟩

theorem source_ok {N : Nat} (hN : 1 ≤ N) (z : Int) (hz : Big z) :
    wp (semN N .l_source) (fun ds r' => Src 0 ds ∧ r' = [some (.d (.int z))]) [some (.d (.int z))] := by
  obtain ⟨n, rfl⟩ := lev (by omega) hN
  rw [semN_succ]
  refine w_bodyN (by rfl) ?_
  delta b_l_source
  walk_at "go"
  refine w_fun (by rfl) ?_
  exact ⟨⟨z, _, 0, rfl, hz, by omega, by omega, by omega⟩, rfl⟩

theorem findD_mem {m : Nat} {x : Str} : ∀ {fs : List (Str × D)}, (∀ f ∈ fs, IsJ m f.2) → (∃ f ∈ fs, f.1 = x) → IsJ m (findD x (fs.map fD))
  | [], _, h => by obtain ⟨f, hf, _⟩ := h; simp at hf
  | f :: fs, h, he => by
    rw [List.map_cons, findD_fD]
    by_cases e : (f.1 == x) = true
    · rw [if_pos e]; exact h f (List.mem_cons_self ..)
    · rw [if_neg e]
      obtain ⟨g, hg, rfl⟩ := he
      rcases List.mem_cons.mp hg with rfl | hg
      · exact absurd (beq_self_eq_true _) e
      · exact findD_mem (fun g hg => h g (List.mem_cons_of_mem _ hg)) ⟨g, hg, rfl⟩

theorem token_ok {N : Nat} (hN : 3 ≤ N) (k : Nat) (ds : List D) (hs : Src k ds) (hk : k + 5 < 2 ^ 60) (m : Nat) (v : D) (hv : IsJ m v) :
    wp (sem N .l_token) (fun d r' => (d = .non ∨ (IsTok d ∧ IsJ m (child v d) ∧ d ≠ .non)) ∧ ∃ ds', Src (k + 1) ds' ∧ r' = [some (.own true ds'), some (.d v)]) [some (.own true ds), some (.d v)] := by
  obtain ⟨n, rfl⟩ := lev (by omega) hN
  rw [sem_succ]
  refine w_body (by rfl) ?_
  delta b_l_token
  rcases shapes hv with ⟨q, x, rfl, hq, h1, h2, _⟩ | rfl | ⟨es, rfl, hl, hd⟩ | ⟨fs, rfl, hl, hf⟩
  · walk_at "go"
    refine p_ifF h1 ?_
    walk_at "go"
    refine p_ifF h2 ?_
    walk_at "go"
    exact ⟨.inl rfl, ds, hs.le (by omega) (by omega), rfl⟩
  · walk_at "go"
    refine p_ifF rfl ?_
    walk_at "go"
    refine p_ifF rfl ?_
    walk_at "go"
    exact ⟨.inl rfl, ds, hs.le (by omega) (by omega), rfl⟩
  · unfold lstD
    walk_at "go"
    refine p_ifT rfl ?_
    walk_at "go"
    refine w_it (fun h => ?_) (fun h => ?_)
    · have hpos : (0 : Int) < (es.length : Int) := of_decide_eq_true h
      walk_at "go"
      refine w_call rfl nd1 rfl (w_mono (draw_ok (by omega) k ds hs (by omega) (es.length : Int) hpos (Nat.lt_trans (lg (n := 60) (by omega) (by decide)) (by decide))) ?_)
      rintro d r' ⟨y, ds1, rfl, g0, g1, hs1, rfl⟩
      walk_at "go"
      refine ⟨.inr ⟨.inr ⟨_, rfl⟩, ?_, fun z => by cases z⟩, ds1, hs1, rfl⟩
      have hj : 0 ≤ (if (9 : Int) < y then 9 else y) ∧ (if (9 : Int) < y then 9 else y) < (es.length : Int) := by split <;> omega
      have : child (lstD es) (.int (if (9 : Int) < y then 9 else y)) = es.getD (if (9 : Int) < y then 9 else y).toNat .non := by rw [child_list, if_pos hj]
      show IsJ m (child (lstD es) _)
      rw [this]
      have hlt : (if (9 : Int) < y then (9 : Int) else y).toNat < es.length := by omega
      rw [List.getD_eq_getElem?_getD, List.getElem?_eq_getElem hlt]
      exact (hd _ (List.getElem_mem hlt)).le (by omega)
    · walk_at "go"
      refine p_ifF rfl ?_
      walk_at "go"
      exact ⟨.inl rfl, ds, hs.le (by omega) (by omega), rfl⟩
  · unfold objD
    walk_at "go"
    refine p_ifF rfl ?_
    walk_at "go"
    refine p_ifT rfl ?_
    walk_at "go"
    refine w_it (fun h => ?_) (fun h => ?_)
    · have hpos : (0 : Int) < ((fs.map fD).length : Int) := of_decide_eq_true h
      have hlm : (fs.map fD).length = fs.length := List.length_map _
      walk_at "go"
      refine w_call rfl nd1 rfl (w_mono (draw_ok (by omega) k ds hs (by omega) ((fs.map fD).length : Int) hpos (Nat.lt_trans (lg (n := 60) (by omega) (by decide)) (by decide))) ?_)
      rintro d r' ⟨y, ds1, rfl, g0, g1, hs1, rfl⟩
      obtain ⟨d, hd, _, e⟩ := w_ixT (ds := fs.map fD) g0 g1
      obtain ⟨f, hfm, rfl⟩ := List.mem_map.mp hd
      walk_at "go"
      refine w_of e ?_
      unfold fD
      walk_at "go"
      refine ⟨.inr ⟨.inl ⟨f.1, (hf.1 f hfm).1, rfl⟩, ?_, fun z => by cases z⟩, ds1, hs1, rfl⟩
      show IsJ m (child (objD fs) (.str f.1))
      rw [child_obj]
      exact (findD_mem (fun g hg => (hf.1 g hg).2) ⟨f, hfm, rfl⟩).le (by omega)
    · walk_at "go"
      exact ⟨.inl rfl, ds, hs.le (by omega) (by omega), rfl⟩

theorem IsTok.app {ts : List D} {t : D} (h : ∀ t ∈ ts, IsTok t) (ht : IsTok t) : ∀ t' ∈ ts ++ [t], IsTok t' := fun t' h' => by
  rcases List.mem_append.mp h' with h' | h'
  · exact h t' h'
  · simp at h'; subst h'; exact ht

def Fre : Option S → Prop
  | some (.own true _) => False
  | some .lock => False
  | _ => True

theorem fre_free {r : Ro} {i : Nat} {o : Option S} (h : r[i]? = some o) (ho : Fre o) : free r i = true := by
  unfold free
  rw [h]
  cases o with
  | none => rfl
  | some s => cases s with
    | d d => rfl
    | own p ds => cases p with
      | true => exact ho.elim
      | false => rfl
    | lock => exact ho.elim

theorem setD_ok {r : Ro} {i : Nat} {o : Option S} {d : D} (h : r[i]? = some o) (ho : Fre o) : setD i d r = some (r.set i (some (.d d))) := by
  unfold setD; rw [if_pos (fre_free h ho)]

theorem setO_ok {r : Ro} {i : Nat} {o : Option S} {ds : List D} (h : r[i]? = some o) (ho : Fre o) : setO i ds r = some (r.set i (some (.own false ds))) := by
  unfold setO; rw [if_pos (fre_free h ho)]

theorem path_ok {N : Nat} (hN : 6 ≤ N) (k : Nat) (ds : List D) (hs : Src k ds) (hk : k + 100 < 2 ^ 60) (m : Nat) (v : D) (hv : IsJ m v) (M : Nat) (hM : M ≤ 6) :
    wp (sem N .l_path) (fun d r' => (∃ ts, d = .tup ts ∧ (∀ t ∈ ts, IsTok t) ∧ ts.length ≤ M + 1) ∧ ∃ ds', Src (k + 50) ds' ∧ r' = [some (.own true ds'), some (.d v), some (.d (.int M))]) [some (.own true ds), some (.d v), some (.d (.int M))] := by
  obtain ⟨n, rfl⟩ := lev (by omega) hN
  rw [sem_succ]
  refine w_body (by rfl) ?_
  delta b_l_path
  walk_at "go"
  refine w_of (w_rng (by omega) (by omega)) ?_
  have hnull : IsJ m (.tup [.str (Str.ofString "null")]) := by
    cases m with
    | zero => exact hv.elim
    | succ m => exact .inl rfl
  refine w_for (fun i r => ∃ ts c ds' o4 o5, (∀ t ∈ ts, IsTok t) ∧ ts.length ≤ i ∧ IsJ m c ∧ Src (k + 2 * i) ds' ∧ Fre o4 ∧ Fre o5 ∧ r = [some (.own true ds'), some (.d c), some (.d (.int M)), some (.d (.tup ts)), o4, o5]) ⟨[], v, ds, none, none, by simp, by simp, hv, hs, trivial, trivial, rfl⟩ ?_ ?_
  · rintro i d r hd ⟨ts, c, ds', o4, o5, hts, hl, hc, hs', h4, h5, rfl⟩
    obtain ⟨hi, rfl⟩ := rng_at hd
    refine ⟨_, setD_ok (o := o4) rfl h4, ?_⟩
    walk_at "go"
    refine w_call rfl nd1 rfl (w_mono (token_ok (by omega) (k + 2 * i) ds' hs' (by omega) m c hc) ?_)
    rintro t r' ⟨ht, ds1, hs1, rfl⟩
    refine w_env (r' := [_, _, _, _, _, _]) rfl ?_
    refine w_nxt (setD_ok (o := o5) rfl h5) ?_
    walk_at "go"
    rcases ht with rfl | ⟨ht, hj, hne⟩
    · refine p_ifF rfl ?_
      walk_at "go"
      exact ⟨ts, _, ds1, some (.d _), some (.d _), hts, by omega, hnull, hs1.le (by omega) (by omega), trivial, trivial, rfl⟩
    · have hnn : (!t.isNon) = true := by
        rcases ht with ⟨x, _, rfl⟩ | ⟨j, rfl⟩ <;> rfl
      refine p_ifT hnn ?_
      walk_at "go"
      refine w_call rfl nd1 rfl (w_mono (draw_ok (by omega) (k + 2 * i + 1) ds1 hs1 (by omega) 4 (by decide) (by decide)) ?_)
      rintro d r' ⟨y, ds2, rfl, g0, g1, hs2, rfl⟩
      refine w_env (r' := [_, _, _, _, _, _]) rfl ?_
      walk_at "go"
      refine w_it (fun h => ?_) (fun h => ?_)
      · walk_at "go"
        refine w_of (addT (by rw [List.length_singleton]; omega)) ?_
        walk_at "go"
        refine w_call rfl nd0 rfl (w_mono (lchild_ok (by omega) m c t hc ht) ?_)
        rintro d r' ⟨rfl, rfl⟩
        walk_at "go"
        exact ⟨ts ++ [t], _, ds2, some (.d _), some (.d _), IsTok.app hts ht, by simp; omega, hj, hs2.le (by omega) (by omega), trivial, trivial, rfl⟩
      · walk_at "go"
        exact ⟨ts, _, ds2, some (.d _), some (.d _), hts, by omega, hnull, hs2.le (by omega) (by omega), trivial, trivial, rfl⟩
  · rintro r ⟨ts, c, ds', o4, o5, hts, hl, hc, hs', h4, h5, rfl⟩
    rw [rng_len] at hl hs'
    walk_at "go"
    refine p_it (fun h => ?_) (fun h => ?_)
    · walk_at "go"
      refine w_call rfl nd1 rfl (w_mono (draw_ok (by omega) (k + 2 * (M : Int).toNat) ds' hs' (by omega) 8 (by decide) (by decide)) ?_)
      rintro d r' ⟨y, ds2, rfl, g0, g1, hs2, rfl⟩
      refine w_env (r' := [_, _, _, _, _, _]) rfl ?_
      walk_at "go"
      refine w_it (fun h => ?_) (fun h => ?_)
      · walk_at "go"
        refine w_call rfl nd1 rfl (w_mono (draw_ok (by omega) (k + 2 * (M : Int).toNat + 1) ds2 hs2 (by omega) 2 (by decide) (by decide)) ?_)
        rintro d r' ⟨y2, ds3, rfl, g2, g3, hs3, rfl⟩
        refine w_env (r' := [_, _, _, _, _, _]) rfl ?_
        walk_at "go"
        refine w_it (fun h => ?_) (fun h => ?_)
        · walk_at "go"
          refine w_call rfl nd1 rfl (w_mono (name_ok (by omega) (k + 2 * (M : Int).toNat + 2) ds3 hs3 (by omega)) ?_)
          rintro d r' ⟨⟨x, rfl, hx⟩, ds4, hs4, rfl⟩
          walk_at "go"
          refine w_of (addT (by rw [List.length_singleton]; omega)) ?_
          exact ⟨⟨_, rfl, IsTok.app hts (.inl ⟨x, hx, rfl⟩), by simp; omega⟩, ds4, hs4.le (by omega) (by omega), rfl⟩
        · walk_at "go"
          refine w_call rfl nd1 rfl (w_mono (draw_ok (by omega) (k + 2 * (M : Int).toNat + 2) ds3 hs3 (by omega) 4 (by decide) (by decide)) ?_)
          rintro d r' ⟨y3, ds4, rfl, g4, g5, hs4, rfl⟩
          walk_at "go"
          refine w_of (addT (by rw [List.length_singleton]; omega)) ?_
          exact ⟨⟨_, rfl, IsTok.app hts (.inr ⟨_, rfl⟩), by simp; omega⟩, ds4, hs4.le (by omega) (by omega), rfl⟩
      · walk_at "go"
        exact ⟨⟨ts, rfl, hts, by omega⟩, ds2, hs2.le (by omega) (by omega), rfl⟩
    · walk_at "go"
      exact ⟨⟨ts, rfl, hts, by omega⟩, ds', hs'.le (by omega) (by omega), rfl⟩

theorem can_all {xs : List PyData} (h : ∀ x ∈ xs, x.canLay0 = true) : PyData.canLayAll0 xs = true := by
  induction xs with
  | nil => rfl
  | cons x xs ih => rw [PyData.canLayAll0, h x (List.mem_cons_self ..), ih fun y hy => h y (List.mem_cons_of_mem _ hy)]; rfl

theorem depth_all {xs : List PyData} {b : Nat} (h : ∀ x ∈ xs, x.depth ≤ b) : PyData.depthAll xs ≤ b := by
  induction xs with
  | nil => exact Nat.zero_le _
  | cons x xs ih => rw [PyData.depthAll]; exact Nat.max_le.mpr ⟨h x (List.mem_cons_self ..), ih fun y hy => h y (List.mem_cons_of_mem _ hy)⟩

theorem py_ok : ∀ {n : Nat} {d : D}, IsJ n d → d.py.canLay0 = true ∧ d.py.depth ≤ 3 * n
  | 0, _, h => h.elim
  | n + 1, d, h => by
    rcases h with rfl | ⟨b, rfl⟩ | ⟨i, rfl⟩ | ⟨x, hx, rfl⟩ | ⟨ds, hl, hd, rfl⟩ | ⟨fs, hl, hf, hp, rfl⟩
    · exact ⟨by simp [D.py, pys, PyData.canLay0, PyData.canLayAll0, so_null], by simp [D.py, pys, PyData.depth, PyData.depthAll]; omega⟩
    · exact ⟨by simp [D.py, pys, PyData.canLay0, PyData.canLayAll0, so_bool], by simp [D.py, pys, PyData.depth, PyData.depthAll]; omega⟩
    · exact ⟨by simp [D.py, pys, PyData.canLay0, PyData.canLayAll0, so_int], by simp [D.py, pys, PyData.depth, PyData.depthAll]; omega⟩
    · exact ⟨by simp [D.py, pys, PyData.canLay0, PyData.canLayAll0, so_text, hx.str], by simp [D.py, pys, PyData.depth, PyData.depthAll]; omega⟩
    · have h1 : PyData.canLayAll0 (pys ds) = true := can_all fun x hx => by
        rw [pys_map] at hx
        obtain ⟨e, he, rfl⟩ := List.mem_map.mp hx
        exact (py_ok (hd e he)).1
      have h2 : PyData.depthAll (pys ds) ≤ 3 * n := depth_all fun x hx => by
        rw [pys_map] at hx
        obtain ⟨e, he, rfl⟩ := List.mem_map.mp hx
        exact (py_ok (hd e he)).2
      refine ⟨by simp [D.py, pys, PyData.canLay0, PyData.canLayAll0, so_list, h1], ?_⟩
      simp [D.py, pys, PyData.depth, PyData.depthAll]; omega
    · have h1 : PyData.canLayAll0 (pys (fs.map fun f => .tup [.str f.1, f.2])) = true := can_all fun x hx => by
        rw [pys_map, List.map_map] at hx
        obtain ⟨f, hfm, rfl⟩ := List.mem_map.mp hx
        have := (py_ok (hf f hfm).2).1
        simp [D.py, pys, PyData.canLay0, PyData.canLayAll0, (hf f hfm).1.str, this]
      have h2 : PyData.depthAll (pys (fs.map fun f => .tup [.str f.1, f.2])) ≤ 3 * n + 1 := depth_all fun x hx => by
        rw [pys_map, List.map_map] at hx
        obtain ⟨f, hfm, rfl⟩ := List.mem_map.mp hx
        have := (py_ok (hf f hfm).2).2
        simp [D.py, pys, PyData.depth, PyData.depthAll]; omega
      refine ⟨by simp [D.py, pys, PyData.canLay0, PyData.canLayAll0, so_object, h1], ?_⟩
      simp [D.py, pys, PyData.depth, PyData.depthAll]; omega

theorem ne_self {n : Nat} {d : D} (h : IsJ n d) (hn : n ≤ 60) : neD d d = some (.bl false) := by
  obtain ⟨h1, h2⟩ := py_ok h
  unfold neD okEq
  rw [h1, if_pos (by simp; omega)]
  unfold eqv
  rw [SeqAt.eqv_refl _ h1]
  rfl

theorem eq_self {n : Nat} {d : D} (h : IsJ n d) (hn : n ≤ 60) : eqD d d = some (.bl true) := by
  obtain ⟨h1, h2⟩ := py_ok h
  unfold eqD okEq
  rw [h1, if_pos (by simp; omega)]
  unfold eqv
  rw [SeqAt.eqv_refl _ h1]

theorem cut_mem {ds : List D} {lo hi : Option Int} {x : D} (h : x ∈ Pk.cutD ds lo hi) : x ∈ ds := by
  unfold Pk.cutD at h
  exact List.mem_of_mem_drop (List.mem_of_mem_take h)

theorem cut_len (ds : List D) (lo hi : Option Int) : (Pk.cutD ds lo hi).length ≤ ds.length := by
  unfold Pk.cutD
  rw [List.length_take, List.length_drop]
  omega
end Row

set_option maxHeartbeats 1000000
namespace Row
open PySem PySem.Spec PyProof.Rows L2 Pk
local macro_rules | `(tactic| walk_at "s") => `(tactic| first
  | with_reducible refine w_seq ?_ | with_reducible refine w_ret ?_ | with_reducible refine w_if ?_ | with_reducible refine w_and ?_ | with_reducible refine w_or ?_ | with_reducible refine w_bd ?_ | with_reducible refine w_rt ?_ | with_reducible refine w_nil ?_
  | ((with_reducible refine' w_ld ?h ?_); (case h => exact rfl)) | ((with_reducible refine' w_own ?h ?_); (case h => exact rfl)) | ((with_reducible refine' w_ldF ?h ?_); (case h => exact rfl)) | ((with_reducible refine' w_nxt ?h ?_); (case h => exact rfl))
  | with_reducible refine w_chain ?_ | with_reducible refine w_andV ?_ | with_reducible refine w_orV ?_ | with_reducible refine p_itT ?_ | with_reducible refine p_itF ?_ | with_reducible refine w_itT ?_ | with_reducible refine w_itF ?_ | with_reducible refine o_asB ?_ | with_reducible refine o_asI ?_ | with_reducible refine o_asS ?_ | with_reducible refine o_truB ?_ | with_reducible refine o_truN ?_ | with_reducible refine o_truT ?_ | with_reducible refine o_truL ?_
  | with_reducible refine o_intI ?_ | with_reducible refine o_intB ?_ | with_reducible refine o_lenT ?_ | with_reducible refine o_lenL ?_ | with_reducible refine o_lenR ?_ | with_reducible refine o_listT ?_ | with_reducible refine o_listL ?_ | with_reducible refine o_tupleT ?_ | with_reducible refine o_tupleL ?_
  | with_reducible refine o_addI ?_ | with_reducible refine o_subI ?_ | with_reducible refine o_negI ?_ | with_reducible refine o_minI ?_ | with_reducible refine o_maxI ?_ | with_reducible refine o_eqI ?_ | with_reducible refine o_neI ?_
  | with_reducible refine o_ltI ?_ | with_reducible refine o_leI ?_ | with_reducible refine o_gtI ?_ | with_reducible refine o_geI ?_ | with_reducible refine o_ltS ?_ | with_reducible refine o_leS ?_ | with_reducible refine o_gtS ?_ | with_reducible refine o_geS ?_ | with_reducible refine o_isN ?_ | with_reducible refine o_isNotN ?_
  | with_reducible refine o_mkT0 ?_ | with_reducible refine o_mkT1 ?_ | with_reducible refine o_mkT2 ?_ | ((with_reducible refine' o_modI ?h ?_); (case h => decide)) | ((with_reducible refine' o_fdivI ?h ?h2 ?_); (case h => decide); (case h2 => decide)) | ((with_reducible refine' o_powI ?h ?h2 ?h3 ?_); (case h => decide); (case h2 => decide); (case h3 => decide))
  | ((with_reducible refine' o_eqS ?h ?h2 ?_); (case h => first | assumption | exact SOk.str (by assumption) | exact so_list | exact so_object | exact so_null | exact so_bool | exact so_int | exact so_text); (case h2 => first | assumption | exact SOk.str (by assumption) | exact so_list | exact so_object | exact so_null | exact so_bool | exact so_int | exact so_text)) | ((with_reducible refine' o_neS ?h ?h2 ?_); (case h => first | assumption | exact SOk.str (by assumption) | exact so_list | exact so_object | exact so_null | exact so_bool | exact so_int | exact so_text); (case h2 => first | assumption | exact SOk.str (by assumption) | exact so_list | exact so_object | exact so_null | exact so_bool | exact so_int | exact so_text)) | ((with_reducible refine' o_ix ?h ?_); (case h => exact rfl)))
local macro_rules | `(tactic| walk_at "ix") => `(tactic| refine w_of (show ixD _ _ = some _ from rfl) ?_)
local macro_rules | `(tactic| walk_at "go") => `(tactic| (repeat walk_at "s"))
local macro_rules | `(tactic| walk_at "e1") => `(tactic| refine w_env (r' := [_]) rfl ?_)
local macro_rules | `(tactic| walk_at "e2") => `(tactic| refine w_env (r' := [_, _]) rfl ?_)
local macro_rules | `(tactic| walk_at "e3") => `(tactic| refine w_env (r' := [_, _, _]) rfl ?_)
local macro_rules | `(tactic| walk_at "e4") => `(tactic| refine w_env (r' := [_, _, _, _]) rfl ?_)
theorem leN_eq : leN = fun a b => decide ((nmS a).cps.toList ≤ (nmS b).cps.toList) := by
  funext a b
  show PySem.W.dataLe false (fun d => PyData.str (nmS d)) a b = _
  rw [PySem.W.dataLe_str]

theorem nmS_fD (f : Str × D) : nmS (fD f) = f.1 := rfl

theorem str_ext {x y : Str} (h : x.cps.toList = y.cps.toList) : x = y := by
  cases x; cases y
  congr
  exact Array.toList_inj.mp h

theorem names_inj : ∀ {qs : List (Str × D)}, (qs.Pairwise fun f g => f.1.cps.toList < g.1.cps.toList) → ∀ {f g : Str × D}, f ∈ qs → g ∈ qs → f.1.cps.toList = g.1.cps.toList → f = g
  | [], _, _, _, h, _, _ => by cases h
  | q :: qs, hq, f, g, hf, hg, e => by
    rw [List.pairwise_cons] at hq
    rcases List.mem_cons.mp hf with hf' | hf' <;> rcases List.mem_cons.mp hg with hg' | hg'
    · rw [hf', hg']
    · exact absurd (hq.1 g hg') (by rw [← hf', e]; exact List.lt_irrefl _)
    · exact absurd (hq.1 f hf') (by rw [← hg', e]; exact List.lt_irrefl _)
    · exact names_inj hq.2 hf' hg' e

theorem sort_names {ps qs : List (Str × D)} (hp : ps.Perm qs) (hq : qs.Pairwise fun f g => f.1.cps.toList < g.1.cps.toList) : (ps.map fD).mergeSort leN = qs.map fD := by
  have htr : ∀ a b c : D, leN a b = true → leN b c = true → leN a c = true := fun a b c h1 h2 => by
    rw [leN_eq] at *
    exact decide_eq_true (List.le_trans (of_decide_eq_true h1) (of_decide_eq_true h2))
  have hto : ∀ a b : D, (leN a b || leN b a) = true := fun a b => by
    rw [leN_eq]
    dsimp only
    rcases List.le_total (nmS a).cps.toList (nmS b).cps.toList with h | h
    · rw [decide_eq_true h]; rfl
    · rw [decide_eq_true h, Bool.or_true]
  have h1 := List.pairwise_mergeSort htr hto (ps.map fD)
  have h2 : (qs.map fD).Pairwise (fun a b => leN a b = true) := by
    rw [List.pairwise_map]
    refine hq.imp fun {f g} h => ?_
    rw [leN_eq]
    exact decide_eq_true (List.le_of_lt h)
  have hperm : ((ps.map fD).mergeSort leN).Perm (qs.map fD) := (List.mergeSort_perm _ _).trans (hp.map fD)
  refine List.Perm.eq_of_pairwise (fun a b ha hb l1 l2 => ?_) h1 h2 hperm
  obtain ⟨f, hf, rfl⟩ := List.mem_map.mp (hperm.mem_iff.mp ha)
  obtain ⟨g, hg, rfl⟩ := List.mem_map.mp hb
  rw [leN_eq] at l1 l2
  have e : f.1.cps.toList = g.1.cps.toList := List.le_antisymm (of_decide_eq_true l1) (of_decide_eq_true l2)
  rw [names_inj hq hf hg e]

theorem ins_perm {m : Nat} {fs : List (Str × D)} {x : Str} {v : D} (h : FOk m fs) : ((fs.filter fun f => !(f.1 == x)) ++ [(x, v)]).Perm (ins fs x v) := by
  have key : ∀ (l : List (Str × D)), (l.filter fun f => !(f.1 == x)).Perm (l.filter (fun f => decide (f.1.cps.toList < x.cps.toList)) ++ l.filter (fun f => decide (x.cps.toList < f.1.cps.toList))) := fun l => by
    induction l with
    | nil => exact .nil
    | cons f l ih =>
      rw [List.filter_cons, List.filter_cons, List.filter_cons]
      by_cases e : f.1 = x
      · have h1 : ¬ (f.1.cps.toList < x.cps.toList) := by rw [e]; exact List.lt_irrefl _
        have h2 : ¬ (x.cps.toList < f.1.cps.toList) := by rw [e]; exact List.lt_irrefl _
        rw [if_neg (by simp [e]), if_neg (by simpa using h1), if_neg (by simpa using h2)]
        exact ih
      · rw [if_pos (by simp [e])]
        by_cases h1 : f.1.cps.toList < x.cps.toList
        · have h2 : ¬ (x.cps.toList < f.1.cps.toList) := fun h => List.lt_irrefl _ (List.lt_trans h1 h)
          rw [if_pos (by simpa using h1), if_neg (by simpa using h2)]
          exact ih.cons f
        · have h2 : x.cps.toList < f.1.cps.toList := by
            rcases List.le_total f.1.cps.toList x.cps.toList with h | h
            · exact absurd (str_ext (List.le_antisymm h (List.not_lt.mp h1))) e
            · rcases Decidable.em (x.cps.toList < f.1.cps.toList) with q | q
              · exact q
              · exact absurd (str_ext (List.le_antisymm (List.not_lt.mp q) h)) e
          rw [if_neg (by simpa using h1), if_pos (by simpa using h2)]
          exact (ih.cons f).trans List.perm_middle.symm
  unfold ins
  refine ((key fs).append_right [(x, v)]).trans ?_
  rw [List.append_assoc, List.append_assoc]
  exact (List.perm_append_comm).append_left _

theorem all_isP (ps : List (Str × D)) : (ps.map fD).all isP = true := by
  rw [List.all_map]; exact List.all_eq_true.mpr fun _ _ => rfl
end Row

set_option maxHeartbeats 1000000
namespace Row
open PySem PySem.Spec PyProof.Rows L2 Pk
local macro_rules | `(tactic| walk_at "s") => `(tactic| first
  | with_reducible refine w_seq ?_ | with_reducible refine w_ret ?_ | with_reducible refine w_if ?_ | with_reducible refine w_and ?_ | with_reducible refine w_or ?_ | with_reducible refine w_bd ?_ | with_reducible refine w_rt ?_ | with_reducible refine w_nil ?_
  | ((with_reducible refine' w_ld ?h ?_); (case h => exact rfl)) | ((with_reducible refine' w_own ?h ?_); (case h => exact rfl)) | ((with_reducible refine' w_ldF ?h ?_); (case h => exact rfl)) | ((with_reducible refine' w_nxt ?h ?_); (case h => exact rfl))
  | with_reducible refine w_chain ?_ | with_reducible refine w_andV ?_ | with_reducible refine w_orV ?_ | with_reducible refine p_itT ?_ | with_reducible refine p_itF ?_ | with_reducible refine w_itT ?_ | with_reducible refine w_itF ?_ | with_reducible refine o_asB ?_ | with_reducible refine o_asI ?_ | with_reducible refine o_asS ?_ | with_reducible refine o_truB ?_ | with_reducible refine o_truN ?_ | with_reducible refine o_truT ?_ | with_reducible refine o_truL ?_
  | with_reducible refine o_intI ?_ | with_reducible refine o_intB ?_ | with_reducible refine o_lenT ?_ | with_reducible refine o_lenL ?_ | with_reducible refine o_lenR ?_ | with_reducible refine o_listT ?_ | with_reducible refine o_listL ?_ | with_reducible refine o_tupleT ?_ | with_reducible refine o_tupleL ?_
  | with_reducible refine o_addI ?_ | with_reducible refine o_subI ?_ | with_reducible refine o_negI ?_ | with_reducible refine o_minI ?_ | with_reducible refine o_maxI ?_ | with_reducible refine o_eqI ?_ | with_reducible refine o_neI ?_
  | with_reducible refine o_ltI ?_ | with_reducible refine o_leI ?_ | with_reducible refine o_gtI ?_ | with_reducible refine o_geI ?_ | with_reducible refine o_ltS ?_ | with_reducible refine o_leS ?_ | with_reducible refine o_gtS ?_ | with_reducible refine o_geS ?_ | with_reducible refine o_isN ?_ | with_reducible refine o_isNotN ?_
  | with_reducible refine o_mkT0 ?_ | with_reducible refine o_mkT1 ?_ | with_reducible refine o_mkT2 ?_ | ((with_reducible refine' o_modI ?h ?_); (case h => decide)) | ((with_reducible refine' o_fdivI ?h ?h2 ?_); (case h => decide); (case h2 => decide)) | ((with_reducible refine' o_powI ?h ?h2 ?h3 ?_); (case h => decide); (case h2 => decide); (case h3 => decide))
  | ((with_reducible refine' o_eqS ?h ?h2 ?_); (case h => first | assumption | exact SOk.str (by assumption) | exact so_list | exact so_object | exact so_null | exact so_bool | exact so_int | exact so_text); (case h2 => first | assumption | exact SOk.str (by assumption) | exact so_list | exact so_object | exact so_null | exact so_bool | exact so_int | exact so_text)) | ((with_reducible refine' o_neS ?h ?h2 ?_); (case h => first | assumption | exact SOk.str (by assumption) | exact so_list | exact so_object | exact so_null | exact so_bool | exact so_int | exact so_text); (case h2 => first | assumption | exact SOk.str (by assumption) | exact so_list | exact so_object | exact so_null | exact so_bool | exact so_int | exact so_text)) | ((with_reducible refine' o_ix ?h ?_); (case h => exact rfl)))
local macro_rules | `(tactic| walk_at "ix") => `(tactic| refine w_of (show ixD _ _ = some _ from rfl) ?_)
local macro_rules | `(tactic| walk_at "go") => `(tactic| (repeat walk_at "s"))
local macro_rules | `(tactic| walk_at "e1") => `(tactic| refine w_env (r' := [_]) rfl ?_)
local macro_rules | `(tactic| walk_at "e2") => `(tactic| refine w_env (r' := [_, _]) rfl ?_)
local macro_rules | `(tactic| walk_at "e3") => `(tactic| refine w_env (r' := [_, _, _]) rfl ?_)
local macro_rules | `(tactic| walk_at "e4") => `(tactic| refine w_env (r' := [_, _, _, _]) rfl ?_)
theorem cut_to {ds : List D} {i : Int} (h0 : 0 ≤ i) (h1 : i ≤ (ds.length : Int)) : Pk.cutD ds none (some i) = ds.take i.toNat := by
  unfold Pk.cutD HT.sIx
  dsimp only
  rw [if_neg (by omega), List.drop_zero, Nat.min_eq_left (by omega), Nat.sub_zero]

theorem cut_from {ds : List D} {i : Int} (h0 : 0 ≤ i) (h1 : i ≤ (ds.length : Int)) : Pk.cutD ds (some i) none = ds.drop i.toNat := by
  unfold Pk.cutD HT.sIx
  dsimp only
  rw [if_neg (by omega), Nat.min_eq_left (by omega), List.take_of_length_le (by rw [List.length_drop]; omega)]

def insD (ds : List D) (x : Str) (v : D) : List D := ds.filter (fun d => decide ((nmS d).cps.toList < x.cps.toList)) ++ [fD (x, v)] ++ ds.filter (fun d => decide (x.cps.toList < (nmS d).cps.toList))

def withD (v t new : D) : D := match v, t with
  | .tup [.str _, .tup ds], .int i => lstD (ds.take i.toNat ++ [new] ++ ds.drop (i.toNat + 1))
  | .tup [.str _, .tup ds], .str x => .tup [.str (Str.ofString "object"), .tup (insD ds x new)]
  | _, _ => .non

theorem withD_list (ds : List D) (i : Int) (new : D) : withD (lstD ds) (.int i) new = lstD (ds.take i.toNat ++ [new] ++ ds.drop (i.toNat + 1)) := rfl

theorem withD_obj (fs : List (Str × D)) (x : Str) (new : D) : withD (objD fs) (.str x) new = objD (ins fs x new) := by
  show D.tup [.str (Str.ofString "object"), .tup (insD (fs.map fD) x new)] = _
  unfold insD objD ins
  rw [List.map_append, List.map_append, filter_fD fs _ (fun f => decide (f.1.cps.toList < x.cps.toList)) (fun f hf => rfl), filter_fD fs _ (fun f => decide (x.cps.toList < f.1.cps.toList)) (fun f hf => rfl)]
  rfl

theorem leads {m : Nat} {v t : D} (hv : IsJ m v) (ht : IsTok t) (hc : child v t ≠ .non) :
    (∃ ds i, v = lstD ds ∧ t = .int i ∧ 0 ≤ i ∧ i < (ds.length : Int) ∧ ds.length ≤ 400 + min (m - 1) 100 ∧ ∀ e ∈ ds, IsJ (m - 1) e) ∨ (∃ fs x, v = objD fs ∧ t = .str x ∧ SOk x ∧ fs.length ≤ 400 + min (m - 1) 100 ∧ FOk (m - 1) fs ∧ ∃ f ∈ fs, f.1 = x) := by
  rcases shapes hv with ⟨k, x, rfl, hk, h1, h2, _⟩ | rfl | ⟨ds, rfl, hl, hd⟩ | ⟨fs, rfl, hl, hf⟩
  · exact absurd (child_flat h1 h2) hc
  · exfalso
    rcases ht with ⟨x, _, rfl⟩ | ⟨i, rfl⟩ <;> exact hc rfl
  · rcases ht with ⟨x, _, rfl⟩ | ⟨i, rfl⟩
    · exact absurd rfl hc
    · refine .inl ⟨ds, i, rfl, rfl, ?_, ?_, hl, hd⟩
      all_goals
        by_cases q : 0 ≤ i ∧ i < (ds.length : Int)
        · first | exact q.1 | exact q.2
        · exfalso
          refine hc ?_
          show (if Str.ofString "list" == Str.ofString "list" then (if 0 ≤ i ∧ i < (ds.length : Int) then ds.getD i.toNat .non else .non) else .non) = _
          rw [if_pos (by rfl), if_neg q]
  · rcases ht with ⟨x, hx, rfl⟩ | ⟨i, rfl⟩
    · refine .inr ⟨fs, x, rfl, rfl, hx, hl, hf, ?_⟩
      have : findD x (fs.map fD) ≠ .non := fun z => hc z
      clear hc hf hl hv
      induction fs with
      | nil => exact absurd rfl this
      | cons f fs ih =>
        rw [List.map_cons, findD_fD] at this
        by_cases e : (f.1 == x) = true
        · exact ⟨f, List.mem_cons_self .., by simpa using e⟩
        · rw [if_neg e] at this
          obtain ⟨g, hg, hx⟩ := ih this
          exact ⟨g, List.mem_cons_of_mem _ hg, hx⟩
    · exact absurd rfl hc

theorem ins_same {m : Nat} {fs : List (Str × D)} {x : Str} {v : D} (h : FOk m fs) (hx : ∃ f ∈ fs, f.1 = x) : (ins fs x v).length ≤ fs.length := by
  rw [← (ins_perm (v := v) h).length_eq, List.length_append, List.length_singleton]
  obtain ⟨f, hf, e⟩ := hx
  have : (fs.filter fun f => !(f.1 == x)).length < fs.length := by
    rw [List.length_filter_lt_length_iff_exists]
    exact ⟨f, hf, by simp [e]⟩
  omega

theorem FOk.le {n m : Nat} {fs : List (Str × D)} (h : FOk n fs) (hm : n ≤ m) : FOk m fs := ⟨fun f hf => ⟨(h.1 f hf).1, (h.1 f hf).2.le hm⟩, h.2⟩

theorem withD_ok {m B : Nat} {v t w : D} (hv : IsJ m v) (ht : IsTok t) (hc : child v t ≠ .non) (hw : IsJ B w) (hB : m ≤ B) : IsJ (B + 1) (withD v t w) := by
  rcases leads hv ht hc with ⟨ds, i, rfl, rfl, h0, h1, hl, hd⟩ | ⟨fs, x, rfl, rfl, hx, hl, hf, hm⟩
  · rw [withD_list]
    refine IsJ.list (fun e he => ?_) ?_
    · rcases List.mem_append.mp he with he | he
      · rcases List.mem_append.mp he with he | he
        · exact (hd e (List.mem_of_mem_take he)).le (by omega)
        · simp at he; subst he; exact hw
      · exact (hd e (List.mem_of_mem_drop he)).le (by omega)
    · rw [List.length_append, List.length_append, List.length_singleton, List.length_take, List.length_drop]
      omega
  · rw [withD_obj]
    exact IsJ.obj (ins_ok (hf.le (by omega)) hx hw) (Nat.le_trans (ins_same hf hm) (by omega))

theorem lwith_ok {N : Nat} (hN : 1 ≤ N) {m B : Nat} {v t w : D} (hv : IsJ m v) (ht : IsTok t) (hc : child v t ≠ .non) (hw : IsJ B w) :
    wp (sem N .l_with) (fun d r' => d = withD v t w ∧ r' = [some (.d v), some (.d t), some (.d w)]) [some (.d v), some (.d t), some (.d w)] := by
  rcases leads hv ht hc with ⟨ds, i, rfl, rfl, h0, h1, hl, hd⟩ | ⟨fs, x, rfl, rfl, hx, hl, hf, hm⟩
  · obtain ⟨n, rfl⟩ := lev (by omega) hN
    rw [sem_succ]
    refine w_body (by rfl) ?_
    delta b_l_with
    unfold lstD
    walk_at "go"
    refine w_ifT rfl ?_
    walk_at "go"
    refine w_of (show slD (.tup ds) none (some i) = some (.tup (Pk.cutD ds none (some i))) from rfl) ?_
    rw [cut_to h0 (by omega)]
    walk_at "go"
    refine w_of (addT (by rw [List.length_take, List.length_singleton]; omega)) ?_
    walk_at "go"
    refine w_of (show slD (.tup ds) (some (i + 1)) none = some (.tup (Pk.cutD ds (some (i + 1)) none)) from rfl) ?_
    rw [cut_from (by omega) (by omega), show (i + 1).toNat = i.toNat + 1 by omega]
    refine w_of (addT (by rw [List.length_append, List.length_take, List.length_singleton, List.length_drop]; omega)) ?_
    walk_at "go"
    exact ⟨rfl, rfl⟩
  · rw [withD_obj]
    exact with_obj hN (m - 1) fs x w hf (by omega) hx

theorem ix0 (t : D) (ts : List D) : ixD (.tup (t :: ts)) (.int 0) = some t := by
  show L2.atI (t :: ts) ((0 : Nat) : Int) = some t
  exact atI_nat rfl

def replD : D → List D → D → D
  | _, [], new => new
  | v, t :: ts, new => if (child v t).isNon then .non else if (replD (child v t) ts new).isNon then .non else withD v t (replD (child v t) ts new)

theorem isNon_iff {d : D} : d.isNon = true ↔ d = .non := by
  cases d <;> simp [D.isNon]

theorem replD_ok {m k : Nat} {new : D} (hn : IsJ k new) : ∀ {ts : List D} {v : D}, IsJ m v → (∀ t ∈ ts, IsTok t) → replD v ts new = .non ∨ IsJ (m + k + ts.length) (replD v ts new)
  | [], v, h, _ => .inr (hn.le (by simp))
  | t :: ts, v, h, ht => by
    have htt := ht t (List.mem_cons_self ..)
    unfold replD
    rcases child_ok h htt with e | e
    · rw [e]; exact .inl rfl
    · rw [e.some.1]
      rcases replD_ok hn e (fun t' h' => ht t' (List.mem_cons_of_mem _ h')) with q | q
      · rw [q]; exact .inl rfl
      · rw [q.some.1]
        exact .inr (show IsJ ((m + k + ts.length) + 1) _ from withD_ok h htt e.some.2 q (by omega))

theorem lrepl_ok {m k : Nat} {new : D} (hn : IsJ k new) : ∀ (ts : List D) {N : Nat} (v : D), 2 + ts.length ≤ N → ts.length ≤ 500 → IsJ m v → (∀ t ∈ ts, IsTok t) →
    wp (sem N .l_replace) (fun d r' => d = replD v ts new ∧ r' = [some (.d v), some (.d (.tup ts)), some (.d new)]) [some (.d v), some (.d (.tup ts)), some (.d new)] := by
  intro ts
  induction ts with
  | nil =>
    intro N v hN _ hv _
    obtain ⟨n, rfl⟩ := lev (by omega) (show 1 ≤ N by omega)
    rw [sem_succ]
    refine w_body (by rfl) ?_
    delta b_l_replace
    walk_at "go"
    refine w_ifT rfl ?_
    walk_at "go"
    exact ⟨rfl, rfl⟩
  | cons t ts ih =>
    intro N v hN hl hv ht
    have htt := ht t (List.mem_cons_self ..)
    rw [List.length_cons] at hN hl
    obtain ⟨n, rfl⟩ := lev (by omega) (show 1 ≤ N by omega)
    rw [sem_succ]
    refine w_body (by rfl) ?_
    delta b_l_replace
    walk_at "go"
    refine w_ifF ?_ ?_
    · rw [List.length_cons]; simp; omega
    walk_at "go"
    refine o_ix (ix0 t ts) ?_
    walk_at "go"
    refine w_call rfl nd0 rfl (w_mono (lchild_ok (by omega) m v t hv htt) ?_)
    rintro d r' ⟨rfl, rfl⟩
    refine w_env (r' := [_, _, _, _, _]) rfl ?_
    walk_at "go"
    refine w_env (r' := [_, _, _, _, _]) rfl ?_
    unfold replD
    rcases child_ok hv htt with e | e
    · rw [e]
      refine w_ifT rfl ?_
      walk_at "go"
      exact ⟨rfl, rfl⟩
    · rw [e.some.1]
      refine w_ifF rfl ?_
      walk_at "go"
      refine w_of (show slD (.tup (t :: ts)) (some 1) none = some (.tup (Pk.cutD (t :: ts) (some 1) none)) from rfl) ?_
      rw [cut_from (by omega) (by rw [List.length_cons]; omega)]
      walk_at "go"
      refine w_call rfl nd0 rfl (w_mono (ih (N := n) (child v t) (by omega) (by omega) e (fun t' h' => ht t' (List.mem_cons_of_mem _ h'))) ?_)
      rintro d r' ⟨rfl, rfl⟩
      refine w_env (r' := [_, _, _, _, _]) rfl ?_
      walk_at "go"
      refine w_env (r' := [_, _, _, _, _]) rfl ?_
      rcases replD_ok hn e (fun t' h' => ht t' (List.mem_cons_of_mem _ h')) with q | q
      · rw [q]
        refine w_ifT rfl ?_
        walk_at "go"
        exact ⟨rfl, rfl⟩
      · rw [q.some.1]
        refine w_ifF rfl ?_
        walk_at "go"
        refine o_ix (ix0 t ts) ?_
        walk_at "go"
        refine w_call rfl nd0 rfl (w_mono (lwith_ok (by omega) hv htt e.some.2 q) ?_)
        rintro d r' ⟨rfl, rfl⟩
        exact ⟨rfl, rfl⟩
end Row

set_option maxHeartbeats 1000000
namespace Row
open PySem PySem.Spec PyProof.Rows L2 Pk
local macro_rules | `(tactic| walk_at "s") => `(tactic| first
  | with_reducible refine w_seq ?_ | with_reducible refine w_ret ?_ | with_reducible refine w_if ?_ | with_reducible refine w_and ?_ | with_reducible refine w_or ?_ | with_reducible refine w_bd ?_ | with_reducible refine w_rt ?_ | with_reducible refine w_nil ?_
  | ((with_reducible refine' w_ld ?h ?_); (case h => exact rfl)) | ((with_reducible refine' w_own ?h ?_); (case h => exact rfl)) | ((with_reducible refine' w_ldF ?h ?_); (case h => exact rfl)) | ((with_reducible refine' w_nxt ?h ?_); (case h => exact rfl))
  | with_reducible refine w_chain ?_ | with_reducible refine w_andV ?_ | with_reducible refine w_orV ?_ | with_reducible refine p_itT ?_ | with_reducible refine p_itF ?_ | with_reducible refine w_itT ?_ | with_reducible refine w_itF ?_ | with_reducible refine o_asB ?_ | with_reducible refine o_asI ?_ | with_reducible refine o_asS ?_ | with_reducible refine o_truB ?_ | with_reducible refine o_truN ?_ | with_reducible refine o_truT ?_ | with_reducible refine o_truL ?_
  | with_reducible refine o_intI ?_ | with_reducible refine o_intB ?_ | with_reducible refine o_lenT ?_ | with_reducible refine o_lenL ?_ | with_reducible refine o_lenR ?_ | with_reducible refine o_listT ?_ | with_reducible refine o_listL ?_ | with_reducible refine o_tupleT ?_ | with_reducible refine o_tupleL ?_
  | with_reducible refine o_addI ?_ | with_reducible refine o_subI ?_ | with_reducible refine o_negI ?_ | with_reducible refine o_minI ?_ | with_reducible refine o_maxI ?_ | with_reducible refine o_eqI ?_ | with_reducible refine o_neI ?_
  | with_reducible refine o_ltI ?_ | with_reducible refine o_leI ?_ | with_reducible refine o_gtI ?_ | with_reducible refine o_geI ?_ | with_reducible refine o_ltS ?_ | with_reducible refine o_leS ?_ | with_reducible refine o_gtS ?_ | with_reducible refine o_geS ?_ | with_reducible refine o_isN ?_ | with_reducible refine o_isNotN ?_
  | with_reducible refine o_mkT0 ?_ | with_reducible refine o_mkT1 ?_ | with_reducible refine o_mkT2 ?_ | ((with_reducible refine' o_modI ?h ?_); (case h => decide)) | ((with_reducible refine' o_fdivI ?h ?h2 ?_); (case h => decide); (case h2 => decide)) | ((with_reducible refine' o_powI ?h ?h2 ?h3 ?_); (case h => decide); (case h2 => decide); (case h3 => decide))
  | ((with_reducible refine' o_eqS ?h ?h2 ?_); (case h => first | assumption | exact SOk.str (by assumption) | exact so_list | exact so_object | exact so_null | exact so_bool | exact so_int | exact so_text); (case h2 => first | assumption | exact SOk.str (by assumption) | exact so_list | exact so_object | exact so_null | exact so_bool | exact so_int | exact so_text)) | ((with_reducible refine' o_neS ?h ?h2 ?_); (case h => first | assumption | exact SOk.str (by assumption) | exact so_list | exact so_object | exact so_null | exact so_bool | exact so_int | exact so_text); (case h2 => first | assumption | exact SOk.str (by assumption) | exact so_list | exact so_object | exact so_null | exact so_bool | exact so_int | exact so_text)) | ((with_reducible refine' o_ix ?h ?_); (case h => exact rfl)))
local macro_rules | `(tactic| walk_at "ix") => `(tactic| refine w_of (show ixD _ _ = some _ from rfl) ?_)
local macro_rules | `(tactic| walk_at "go") => `(tactic| (repeat walk_at "s"))
local macro_rules | `(tactic| walk_at "e1") => `(tactic| refine w_env (r' := [_]) rfl ?_)
local macro_rules | `(tactic| walk_at "e2") => `(tactic| refine w_env (r' := [_, _]) rfl ?_)
local macro_rules | `(tactic| walk_at "e3") => `(tactic| refine w_env (r' := [_, _, _]) rfl ?_)
local macro_rules | `(tactic| walk_at "e4") => `(tactic| refine w_env (r' := [_, _, _, _]) rfl ?_)
theorem w_line {β : Type} {m m' : M β} {P : β → Ro → Prop} {r : Ro} {ds : List D} (hl : ds.length ≤ 1000) (h : wp m P r) : wp (if ds.length ≤ sizeLine then m else m') P r := by
  rw [if_pos (Nat.le_trans hl (by decide))]; exact h

def FrD (o : Option S) : Prop := o = none ∨ ∃ d, o = some (.d d)

theorem FrD.fre {o : Option S} (h : FrD o) : Fre o := by
  rcases h with rfl | ⟨d, rfl⟩ <;> trivial

theorem appM_ok {i : Nat} {r : Ro} {p : Bool} {ds : List D} {d : D} (h : r[i]? = some (some (.own p ds))) (hl : ds.length < 10000) : appM i d r = some (r.set i (some (.own p (ds ++ [d])))) := by
  unfold appM
  rw [h]
  dsimp only
  rw [if_pos (Nat.lt_of_lt_of_le hl (by decide))]

def anc : D → List D → List D
  | _, [] => []
  | v, t :: ts => .tup [v, t] :: anc (child v t) ts

theorem anc_len : ∀ (ts : List D) (v : D), (anc v ts).length = ts.length
  | [], _ => rfl
  | t :: ts, v => by show (anc (child v t) ts).length + 1 = _; rw [anc_len ts]; rfl

theorem walk_app {m : Nat} : ∀ {a : List D} {v : D} (b : List D), IsJ m v → (∀ t ∈ a, IsTok t) → walkD v (a ++ b) = walkD (walkD v a) b
  | [], _, _, _, _ => rfl
  | t :: a, v, b, h, ht => by
    rw [List.cons_append, walkD_cons h, walkD_cons h]
    rcases child_ok h (ht t (List.mem_cons_self ..)) with e | e
    · rw [e, walkD_non, walkD_non, walkD_non]
    · exact walk_app b e fun t' h' => ht t' (List.mem_cons_of_mem _ h')

theorem anc_app {m : Nat} : ∀ {a : List D} {v : D} (b : List D), IsJ m v → (∀ t ∈ a, IsTok t) → walkD v a ≠ .non → anc v (a ++ b) = anc v a ++ anc (walkD v a) b
  | [], _, _, _, _, _ => rfl
  | t :: a, v, b, h, ht, hw => by
    rw [walkD_cons h] at hw ⊢
    show D.tup [v, t] :: anc (child v t) (a ++ b) = D.tup [v, t] :: (anc (child v t) a ++ _)
    rcases child_ok h (ht t (List.mem_cons_self ..)) with e | e
    · rw [e, walkD_non] at hw; exact absurd rfl hw
    · rw [anc_app b e (fun t' h' => ht t' (List.mem_cons_of_mem _ h')) hw]

theorem repl_non {m : Nat} {new : D} : ∀ {a : List D} {v : D} (b : List D), IsJ m v → (∀ t ∈ a, IsTok t) → walkD v a = .non → replD v (a ++ b) new = .non
  | [], v, _, h, _, hw => absurd hw h.some.2
  | t :: a, v, b, h, ht, hw => by
    rw [walkD_cons h] at hw
    show (if (child v t).isNon then D.non else if (replD (child v t) (a ++ b) new).isNon then D.non else withD v t (replD (child v t) (a ++ b) new)) = _
    rcases child_ok h (ht t (List.mem_cons_self ..)) with e | e
    · rw [e]; rfl
    · rw [repl_non b e (fun t' h' => ht t' (List.mem_cons_of_mem _ h')) hw]
      split <;> rfl

theorem repl_some {m k : Nat} {new : D} (hn : IsJ k new) : ∀ {ts : List D} {v : D}, IsJ m v → (∀ t ∈ ts, IsTok t) → walkD v ts ≠ .non → IsJ (m + k + ts.length) (replD v ts new)
  | [], v, h, _, _ => hn.le (by simp)
  | t :: ts, v, h, ht, hw => by
    have htt := ht t (List.mem_cons_self ..)
    rw [walkD_cons h] at hw
    rcases child_ok h htt with e | e
    · rw [e, walkD_non] at hw; exact absurd rfl hw
    · have q := repl_some hn e (fun t' h' => ht t' (List.mem_cons_of_mem _ h')) hw
      show IsJ ((m + k + ts.length) + 1) (if (child v t).isNon then _ else _)
      rw [e.some.1, q.some.1]
      exact withD_ok h htt e.some.2 q (by omega)
end Row

set_option maxHeartbeats 1000000
namespace Row
open PySem PySem.Spec PyProof.Rows L2 Pk
local macro_rules | `(tactic| walk_at "s") => `(tactic| first
  | with_reducible refine w_seq ?_ | with_reducible refine w_ret ?_ | with_reducible refine w_if ?_ | with_reducible refine w_and ?_ | with_reducible refine w_or ?_ | with_reducible refine w_bd ?_ | with_reducible refine w_rt ?_ | with_reducible refine w_nil ?_
  | ((with_reducible refine' w_ld ?h ?_); (case h => exact rfl)) | ((with_reducible refine' w_own ?h ?_); (case h => exact rfl)) | ((with_reducible refine' w_ldF ?h ?_); (case h => exact rfl)) | ((with_reducible refine' w_nxt ?h ?_); (case h => exact rfl))
  | with_reducible refine w_chain ?_ | with_reducible refine w_andV ?_ | with_reducible refine w_orV ?_ | with_reducible refine p_itT ?_ | with_reducible refine p_itF ?_ | with_reducible refine w_itT ?_ | with_reducible refine w_itF ?_ | with_reducible refine o_asB ?_ | with_reducible refine o_asI ?_ | with_reducible refine o_asS ?_ | with_reducible refine o_truB ?_ | with_reducible refine o_truN ?_ | with_reducible refine o_truT ?_ | with_reducible refine o_truL ?_
  | with_reducible refine o_intI ?_ | with_reducible refine o_intB ?_ | with_reducible refine o_lenT ?_ | with_reducible refine o_lenL ?_ | with_reducible refine o_lenR ?_ | with_reducible refine o_listT ?_ | with_reducible refine o_listL ?_ | with_reducible refine o_tupleT ?_ | with_reducible refine o_tupleL ?_
  | with_reducible refine o_addI ?_ | with_reducible refine o_subI ?_ | with_reducible refine o_negI ?_ | with_reducible refine o_minI ?_ | with_reducible refine o_maxI ?_ | with_reducible refine o_eqI ?_ | with_reducible refine o_neI ?_
  | with_reducible refine o_ltI ?_ | with_reducible refine o_leI ?_ | with_reducible refine o_gtI ?_ | with_reducible refine o_geI ?_ | with_reducible refine o_ltS ?_ | with_reducible refine o_leS ?_ | with_reducible refine o_gtS ?_ | with_reducible refine o_geS ?_ | with_reducible refine o_isN ?_ | with_reducible refine o_isNotN ?_
  | with_reducible refine o_mkT0 ?_ | with_reducible refine o_mkT1 ?_ | with_reducible refine o_mkT2 ?_ | ((with_reducible refine' o_modI ?h ?_); (case h => decide)) | ((with_reducible refine' o_fdivI ?h ?h2 ?_); (case h => decide); (case h2 => decide)) | ((with_reducible refine' o_powI ?h ?h2 ?h3 ?_); (case h => decide); (case h2 => decide); (case h3 => decide))
  | ((with_reducible refine' o_eqS ?h ?h2 ?_); (case h => first | assumption | exact SOk.str (by assumption) | exact so_list | exact so_object | exact so_null | exact so_bool | exact so_int | exact so_text); (case h2 => first | assumption | exact SOk.str (by assumption) | exact so_list | exact so_object | exact so_null | exact so_bool | exact so_int | exact so_text)) | ((with_reducible refine' o_neS ?h ?h2 ?_); (case h => first | assumption | exact SOk.str (by assumption) | exact so_list | exact so_object | exact so_null | exact so_bool | exact so_int | exact so_text); (case h2 => first | assumption | exact SOk.str (by assumption) | exact so_list | exact so_object | exact so_null | exact so_bool | exact so_int | exact so_text)) | ((with_reducible refine' o_ix ?h ?_); (case h => exact rfl)))
local macro_rules | `(tactic| walk_at "ix") => `(tactic| refine w_of (show ixD _ _ = some _ from rfl) ?_)
local macro_rules | `(tactic| walk_at "go") => `(tactic| (repeat walk_at "s"))
local macro_rules | `(tactic| walk_at "e1") => `(tactic| refine w_env (r' := [_]) rfl ?_)
local macro_rules | `(tactic| walk_at "e2") => `(tactic| refine w_env (r' := [_, _]) rfl ?_)
local macro_rules | `(tactic| walk_at "e3") => `(tactic| refine w_env (r' := [_, _, _]) rfl ?_)
local macro_rules | `(tactic| walk_at "e4") => `(tactic| refine w_env (r' := [_, _, _, _]) rfl ?_)
theorem at_last (t0 : List D) (t : D) : ixD (.tup (t0 ++ [t])) (.int (-1)) = some t := by
  show L2.atI (t0 ++ [t]) (-1) = some t
  unfold L2.atI L2.ixN
  simp
  rw [if_pos (by omega), show (-1 + ((t0.length : Int) + 1)).toNat = t0.length by omega]
  simp

theorem cut_last (t0 : List D) (t : D) : Pk.cutD (t0 ++ [t]) none (some (-1)) = t0 := by
  unfold Pk.cutD HT.sIx
  dsimp only
  rw [if_pos (by decide), List.drop_zero, List.length_append, List.length_singleton, show (-1 + ((t0.length + 1 : Nat) : Int)).toNat - 0 = t0.length by omega]
  simp

theorem cut_both (ds : List D) (j : Int) : (Pk.cutD ds none (some j)).length + (Pk.cutD ds (some j) none).length ≤ ds.length := by
  unfold Pk.cutD HT.sIx
  dsimp only
  rw [List.length_take, List.length_take, List.length_drop, List.length_drop]
  split <;> omega

def putAt (ds : List D) (i : Int) (new : D) : D :=
  let j := if (i == -1) = true then (ds.length : Int) else i
  if (ds.length : Int) < j then .non else lstD (Pk.cutD ds none (some j) ++ [new] ++ Pk.cutD ds (some j) none)

def putD (v t new : D) : D := match v, t with
  | .tup [.str k, .tup ds], .str x => if k == Str.ofString "object" then .tup [.str (Str.ofString "object"), .tup (insD ds x new)] else .non
  | .tup [.str k, .tup ds], .int i => if k == Str.ofString "list" then putAt ds i new else .non
  | _, _ => .non

theorem putD_ok {m B : Nat} {v t w : D} (hv : IsJ m v) (ht : IsTok t) (hw : IsJ B w) (hB : m ≤ B) (hB2 : B < 100) : putD v t w = .non ∨ IsJ (B + 1) (putD v t w) := by
  rcases shapes hv with ⟨k, x, rfl, hk, h1, h2, h3⟩ | rfl | ⟨ds, rfl, hl, hd⟩ | ⟨fs, rfl, hl, hf⟩
  · refine .inl ?_
    cases x with
    | tup ds => exact absurd rfl (h3 ds)
    | _ => cases t <;> rfl
  · exact .inl (by cases t <;> rfl)
  · rcases ht with ⟨x, _, rfl⟩ | ⟨i, rfl⟩
    · exact .inl rfl
    · show putAt ds i w = .non ∨ IsJ (B + 1) (putAt ds i w)
      unfold putAt
      dsimp only
      generalize (if (i == -1) = true then (ds.length : Int) else i) = j
      split
      · exact .inl rfl
      · refine .inr (IsJ.list (fun e he => ?_) ?_)
        · rcases List.mem_append.mp he with he | he
          · rcases List.mem_append.mp he with he | he
            · exact (hd e (cut_mem he)).le (by omega)
            · simp at he; subst he; exact hw
          · exact (hd e (cut_mem he)).le (by omega)
        · have := cut_both ds j
          rw [List.length_append, List.length_append, List.length_singleton]
          have hm : m - 1 < B := by
            cases m with
            | zero => exact hv.elim
            | succ m => omega
          omega
  · rcases ht with ⟨x, hx, rfl⟩ | ⟨i, rfl⟩
    · refine .inr ?_
      show IsJ (B + 1) (withD (objD fs) (.str x) w)
      rw [withD_obj]
      have hm : m - 1 < B := by
        cases m with
        | zero => exact hv.elim
        | succ m => omega
      refine IsJ.obj (ins_ok (hf.le (by omega)) hx hw) ?_
      have := ins_len fs x w
      omega
    · exact .inl rfl
end Row

set_option maxHeartbeats 1000000
namespace Row
open PySem PySem.Spec PyProof.Rows L2 Pk
local macro_rules | `(tactic| walk_at "s") => `(tactic| first
  | with_reducible refine w_seq ?_ | with_reducible refine w_ret ?_ | with_reducible refine w_if ?_ | with_reducible refine w_and ?_ | with_reducible refine w_or ?_ | with_reducible refine w_bd ?_ | with_reducible refine w_rt ?_ | with_reducible refine w_nil ?_
  | ((with_reducible refine' w_ld ?h ?_); (case h => exact rfl)) | ((with_reducible refine' w_own ?h ?_); (case h => exact rfl)) | ((with_reducible refine' w_ldF ?h ?_); (case h => exact rfl)) | ((with_reducible refine' w_nxt ?h ?_); (case h => exact rfl))
  | with_reducible refine w_chain ?_ | with_reducible refine w_andV ?_ | with_reducible refine w_orV ?_ | with_reducible refine p_itT ?_ | with_reducible refine p_itF ?_ | with_reducible refine w_itT ?_ | with_reducible refine w_itF ?_ | with_reducible refine o_asB ?_ | with_reducible refine o_asI ?_ | with_reducible refine o_asS ?_ | with_reducible refine o_truB ?_ | with_reducible refine o_truN ?_ | with_reducible refine o_truT ?_ | with_reducible refine o_truL ?_
  | with_reducible refine o_intI ?_ | with_reducible refine o_intB ?_ | with_reducible refine o_lenT ?_ | with_reducible refine o_lenL ?_ | with_reducible refine o_lenR ?_ | with_reducible refine o_listT ?_ | with_reducible refine o_listL ?_ | with_reducible refine o_tupleT ?_ | with_reducible refine o_tupleL ?_
  | with_reducible refine o_addI ?_ | with_reducible refine o_subI ?_ | with_reducible refine o_negI ?_ | with_reducible refine o_minI ?_ | with_reducible refine o_maxI ?_ | with_reducible refine o_eqI ?_ | with_reducible refine o_neI ?_
  | with_reducible refine o_ltI ?_ | with_reducible refine o_leI ?_ | with_reducible refine o_gtI ?_ | with_reducible refine o_geI ?_ | with_reducible refine o_ltS ?_ | with_reducible refine o_leS ?_ | with_reducible refine o_gtS ?_ | with_reducible refine o_geS ?_ | with_reducible refine o_isN ?_ | with_reducible refine o_isNotN ?_
  | with_reducible refine o_mkT0 ?_ | with_reducible refine o_mkT1 ?_ | with_reducible refine o_mkT2 ?_ | ((with_reducible refine' o_modI ?h ?_); (case h => decide)) | ((with_reducible refine' o_fdivI ?h ?h2 ?_); (case h => decide); (case h2 => decide)) | ((with_reducible refine' o_powI ?h ?h2 ?h3 ?_); (case h => decide); (case h2 => decide); (case h3 => decide))
  | ((with_reducible refine' o_eqS ?h ?h2 ?_); (case h => first | assumption | exact SOk.str (by assumption) | exact so_list | exact so_object | exact so_null | exact so_bool | exact so_int | exact so_text); (case h2 => first | assumption | exact SOk.str (by assumption) | exact so_list | exact so_object | exact so_null | exact so_bool | exact so_int | exact so_text)) | ((with_reducible refine' o_neS ?h ?h2 ?_); (case h => first | assumption | exact SOk.str (by assumption) | exact so_list | exact so_object | exact so_null | exact so_bool | exact so_int | exact so_text); (case h2 => first | assumption | exact SOk.str (by assumption) | exact so_list | exact so_object | exact so_null | exact so_bool | exact so_int | exact so_text)) | ((with_reducible refine' o_ix ?h ?_); (case h => exact rfl)))
local macro_rules | `(tactic| walk_at "ix") => `(tactic| refine w_of (show ixD _ _ = some _ from rfl) ?_)
local macro_rules | `(tactic| walk_at "go") => `(tactic| (repeat walk_at "s"))
local macro_rules | `(tactic| walk_at "e1") => `(tactic| refine w_env (r' := [_]) rfl ?_)
local macro_rules | `(tactic| walk_at "e2") => `(tactic| refine w_env (r' := [_, _]) rfl ?_)
local macro_rules | `(tactic| walk_at "e3") => `(tactic| refine w_env (r' := [_, _, _]) rfl ?_)
local macro_rules | `(tactic| walk_at "e4") => `(tactic| refine w_env (r' := [_, _, _, _]) rfl ?_)
theorem o_isi' {T : String} {d e : D} {P : D → Ro → Prop} {r : Ro} (h : isiD T d = some e) (q : P e r) : wp (of (isiD T d)) P r := w_of h q
end Row

set_option maxHeartbeats 1000000
namespace Row
open PySem PySem.Spec PyProof.Rows L2 Pk
local macro_rules | `(tactic| walk_at "s") => `(tactic| first
  | with_reducible refine w_seq ?_ | with_reducible refine w_ret ?_ | with_reducible refine w_if ?_ | with_reducible refine w_and ?_ | with_reducible refine w_or ?_ | with_reducible refine w_bd ?_ | with_reducible refine w_rt ?_ | with_reducible refine w_nil ?_
  | ((with_reducible refine' w_ld ?h ?_); (case h => exact rfl)) | ((with_reducible refine' w_own ?h ?_); (case h => exact rfl)) | ((with_reducible refine' w_ldF ?h ?_); (case h => exact rfl)) | ((with_reducible refine' w_nxt ?h ?_); (case h => exact rfl))
  | with_reducible refine w_chain ?_ | with_reducible refine w_andV ?_ | with_reducible refine w_orV ?_ | with_reducible refine p_itT ?_ | with_reducible refine p_itF ?_ | with_reducible refine w_itT ?_ | with_reducible refine w_itF ?_ | with_reducible refine o_asB ?_ | with_reducible refine o_asI ?_ | with_reducible refine o_asS ?_ | with_reducible refine o_truB ?_ | with_reducible refine o_truN ?_ | with_reducible refine o_truT ?_ | with_reducible refine o_truL ?_
  | with_reducible refine o_intI ?_ | with_reducible refine o_intB ?_ | with_reducible refine o_lenT ?_ | with_reducible refine o_lenL ?_ | with_reducible refine o_lenR ?_ | with_reducible refine o_listT ?_ | with_reducible refine o_listL ?_ | with_reducible refine o_tupleT ?_ | with_reducible refine o_tupleL ?_
  | with_reducible refine o_addI ?_ | with_reducible refine o_subI ?_ | with_reducible refine o_negI ?_ | with_reducible refine o_minI ?_ | with_reducible refine o_maxI ?_ | with_reducible refine o_eqI ?_ | with_reducible refine o_neI ?_
  | with_reducible refine o_ltI ?_ | with_reducible refine o_leI ?_ | with_reducible refine o_gtI ?_ | with_reducible refine o_geI ?_ | with_reducible refine o_ltS ?_ | with_reducible refine o_leS ?_ | with_reducible refine o_gtS ?_ | with_reducible refine o_geS ?_ | with_reducible refine o_isN ?_ | with_reducible refine o_isNotN ?_
  | with_reducible refine o_mkT0 ?_ | with_reducible refine o_mkT1 ?_ | with_reducible refine o_mkT2 ?_ | ((with_reducible refine' o_modI ?h ?_); (case h => decide)) | ((with_reducible refine' o_fdivI ?h ?h2 ?_); (case h => decide); (case h2 => decide)) | ((with_reducible refine' o_powI ?h ?h2 ?h3 ?_); (case h => decide); (case h2 => decide); (case h3 => decide))
  | ((with_reducible refine' o_eqS ?h ?h2 ?_); (case h => first | assumption | exact SOk.str (by assumption) | exact so_list | exact so_object | exact so_null | exact so_bool | exact so_int | exact so_text); (case h2 => first | assumption | exact SOk.str (by assumption) | exact so_list | exact so_object | exact so_null | exact so_bool | exact so_int | exact so_text)) | ((with_reducible refine' o_neS ?h ?h2 ?_); (case h => first | assumption | exact SOk.str (by assumption) | exact so_list | exact so_object | exact so_null | exact so_bool | exact so_int | exact so_text); (case h2 => first | assumption | exact SOk.str (by assumption) | exact so_list | exact so_object | exact so_null | exact so_bool | exact so_int | exact so_text)) | ((with_reducible refine' o_ix ?h ?_); (case h => exact rfl)))
local macro_rules | `(tactic| walk_at "ix") => `(tactic| refine w_of (show ixD _ _ = some _ from rfl) ?_)
local macro_rules | `(tactic| walk_at "go") => `(tactic| (repeat walk_at "s"))
local macro_rules | `(tactic| walk_at "e1") => `(tactic| refine w_env (r' := [_]) rfl ?_)
local macro_rules | `(tactic| walk_at "e2") => `(tactic| refine w_env (r' := [_, _]) rfl ?_)
local macro_rules | `(tactic| walk_at "e3") => `(tactic| refine w_env (r' := [_, _, _]) rfl ?_)
local macro_rules | `(tactic| walk_at "e4") => `(tactic| refine w_env (r' := [_, _, _, _]) rfl ?_)
def putR (v : D) (t0 : List D) (t new : D) : D := if (walkD v t0).isNon then .non else if (putD (walkD v t0) t new).isNon then .non else replD v t0 (putD (walkD v t0) t new)

theorem lput0_ok {N : Nat} (hN : 1 ≤ N) (v w : D) : wp (sem N .l_put) (fun d r' => d = w ∧ r' = [some (.d v), some (.d (.tup [])), some (.d w)]) [some (.d v), some (.d (.tup [])), some (.d w)] := by
  obtain ⟨n, rfl⟩ := lev (by omega) hN
  rw [sem_succ]
  refine w_body (by rfl) ?_
  delta b_l_put
  walk_at "go"
  refine w_ifT rfl ?_
  walk_at "go"
  exact ⟨rfl, rfl⟩

theorem putR_ok {m B : Nat} {v t w : D} {t0 : List D} (hv : IsJ m v) (ht0 : ∀ t ∈ t0, IsTok t) (ht : IsTok t) (hw : IsJ B w) (hB : m ≤ B) (hB2 : B < 100) : putR v t0 t w = .non ∨ IsJ (m + (B + 1) + t0.length) (putR v t0 t w) := by
  unfold putR
  rcases walkD_ok hv ht0 with e | e
  · rw [e]; exact .inl rfl
  · rw [e.some.1]
    rcases putD_ok e ht hw hB hB2 with q | q
    · rw [q]; exact .inl rfl
    · rw [q.some.1]
      exact .inr (repl_some q hv ht0 e.some.2)
end Row

set_option maxHeartbeats 1000000
namespace Row
open PySem PySem.Spec PyProof.Rows L2 Pk
local macro_rules | `(tactic| walk_at "s") => `(tactic| first
  | with_reducible refine w_seq ?_ | with_reducible refine w_ret ?_ | with_reducible refine w_if ?_ | with_reducible refine w_and ?_ | with_reducible refine w_or ?_ | with_reducible refine w_bd ?_ | with_reducible refine w_rt ?_ | with_reducible refine w_nil ?_
  | ((with_reducible refine' w_ld ?h ?_); (case h => exact rfl)) | ((with_reducible refine' w_own ?h ?_); (case h => exact rfl)) | ((with_reducible refine' w_ldF ?h ?_); (case h => exact rfl)) | ((with_reducible refine' w_nxt ?h ?_); (case h => exact rfl))
  | with_reducible refine w_chain ?_ | with_reducible refine w_andV ?_ | with_reducible refine w_orV ?_ | with_reducible refine p_itT ?_ | with_reducible refine p_itF ?_ | with_reducible refine w_itT ?_ | with_reducible refine w_itF ?_ | with_reducible refine o_asB ?_ | with_reducible refine o_asI ?_ | with_reducible refine o_asS ?_ | with_reducible refine o_truB ?_ | with_reducible refine o_truN ?_ | with_reducible refine o_truT ?_ | with_reducible refine o_truL ?_
  | with_reducible refine o_intI ?_ | with_reducible refine o_intB ?_ | with_reducible refine o_lenT ?_ | with_reducible refine o_lenL ?_ | with_reducible refine o_lenR ?_ | with_reducible refine o_listT ?_ | with_reducible refine o_listL ?_ | with_reducible refine o_tupleT ?_ | with_reducible refine o_tupleL ?_
  | with_reducible refine o_addI ?_ | with_reducible refine o_subI ?_ | with_reducible refine o_negI ?_ | with_reducible refine o_minI ?_ | with_reducible refine o_maxI ?_ | with_reducible refine o_eqI ?_ | with_reducible refine o_neI ?_
  | with_reducible refine o_ltI ?_ | with_reducible refine o_leI ?_ | with_reducible refine o_gtI ?_ | with_reducible refine o_geI ?_ | with_reducible refine o_ltS ?_ | with_reducible refine o_leS ?_ | with_reducible refine o_gtS ?_ | with_reducible refine o_geS ?_ | with_reducible refine o_isN ?_ | with_reducible refine o_isNotN ?_
  | with_reducible refine o_mkT0 ?_ | with_reducible refine o_mkT1 ?_ | with_reducible refine o_mkT2 ?_ | ((with_reducible refine' o_modI ?h ?_); (case h => decide)) | ((with_reducible refine' o_fdivI ?h ?h2 ?_); (case h => decide); (case h2 => decide)) | ((with_reducible refine' o_powI ?h ?h2 ?h3 ?_); (case h => decide); (case h2 => decide); (case h3 => decide))
  | ((with_reducible refine' o_eqS ?h ?h2 ?_); (case h => first | assumption | exact SOk.str (by assumption) | exact so_list | exact so_object | exact so_null | exact so_bool | exact so_int | exact so_text); (case h2 => first | assumption | exact SOk.str (by assumption) | exact so_list | exact so_object | exact so_null | exact so_bool | exact so_int | exact so_text)) | ((with_reducible refine' o_neS ?h ?h2 ?_); (case h => first | assumption | exact SOk.str (by assumption) | exact so_list | exact so_object | exact so_null | exact so_bool | exact so_int | exact so_text); (case h2 => first | assumption | exact SOk.str (by assumption) | exact so_list | exact so_object | exact so_null | exact so_bool | exact so_int | exact so_text)) | ((with_reducible refine' o_ix ?h ?_); (case h => exact rfl)))
local macro_rules | `(tactic| walk_at "ix") => `(tactic| refine w_of (show ixD _ _ = some _ from rfl) ?_)
local macro_rules | `(tactic| walk_at "go") => `(tactic| (repeat walk_at "s"))
local macro_rules | `(tactic| walk_at "e1") => `(tactic| refine w_env (r' := [_]) rfl ?_)
local macro_rules | `(tactic| walk_at "e2") => `(tactic| refine w_env (r' := [_, _]) rfl ?_)
local macro_rules | `(tactic| walk_at "e3") => `(tactic| refine w_env (r' := [_, _, _]) rfl ?_)
local macro_rules | `(tactic| walk_at "e4") => `(tactic| refine w_env (r' := [_, _, _, _]) rfl ?_)
def putA (v t w : D) : D := match t with
  | .str _ => putD v t w
  | _ => .non

theorem lput_ok {N : Nat} (hN : 40 ≤ N) {m B : Nat} {v t w : D} {t0 : List D} (hv : IsJ m v) (ht0 : ∀ t ∈ t0, IsTok t) (ht : IsTok t) (hw : IsJ B w) (hB : m ≤ B) (hB2 : B < 100) (hl : t0.length ≤ 10) :
    wp (sem N .l_put) (fun d r' => d = putR v t0 t w ∧ r' = [some (.d v), some (.d (.tup (t0 ++ [t]))), some (.d w)]) [some (.d v), some (.d (.tup (t0 ++ [t]))), some (.d w)] := by
  obtain ⟨n, rfl⟩ := lev (by omega) (show 1 ≤ N by omega)
  rw [sem_succ]
  refine w_body (by rfl) ?_
  delta b_l_put
  walk_at "go"
  refine w_ifF (by rw [List.length_append, List.length_singleton]; simp; omega) ?_
  walk_at "go"
  refine w_of (show slD (.tup (t0 ++ [t])) none (some (-1)) = some (.tup (Pk.cutD (t0 ++ [t]) none (some (-1)))) from rfl) ?_
  rw [cut_last]
  walk_at "go"
  refine w_call rfl nd0 rfl (w_mono (llookup_ok (by omega) m v _ hv ht0) ?_)
  rintro d r' ⟨rfl, rfl⟩
  refine w_env (r' := [_, _, _, _, _, _, _]) rfl ?_
  walk_at "go"
  refine w_env (r' := [_, _, _, _, _, _, _]) rfl ?_
  unfold putR
  rcases walkD_ok hv ht0 with e | e
  · rw [e]
    refine w_ifT rfl ?_
    walk_at "go"
    exact ⟨rfl, rfl⟩
  · rw [e.some.1]
    refine w_ifF rfl ?_
    walk_at "go"
    refine o_ix (at_last t0 t) ?_
    generalize hp : walkD v t0 = pa at e
    walk_at "s"
    walk_at "s"
    walk_at "s"
    walk_at "s"
    walk_at "s"
    refine w_env (r' := [_, _, _, _, _, _, _]) rfl ?_
    refine w_seq (w_mono (P := fun fl r' => fl = .nx ∧ r' = [some (.d v), some (.d (.tup (t0 ++ [t]))), some (.d w), some (.d pa), some (.d t), some (.d (putA pa t w)), none]) ?_ ?_)
    · rcases ht with ⟨x, hx, rfl⟩ | ⟨i, rfl⟩ <;> rcases shapes e with ⟨k, y, rfl, hk, h1, h2, h3⟩ | rfl | ⟨ds, rfl, hl, hd⟩ | ⟨fs, rfl, hl, hf⟩
      · walk_at "go"
        refine p_ifF h2 ?_
        walk_at "go"
        refine ⟨rfl, ?_⟩
        cases y with
        | tup ds => exact absurd rfl (h3 ds)
        | _ => rfl
      · walk_at "go"
        refine p_ifF rfl ?_
        walk_at "go"
        exact ⟨rfl, rfl⟩
      · unfold lstD
        walk_at "go"
        refine p_ifF rfl ?_
        walk_at "go"
        exact ⟨rfl, rfl⟩
      · rw [show putA (objD fs) (.str x) w = objD (ins fs x w) from (withD_obj fs x w)]
        unfold objD
        walk_at "go"
        refine p_ifT rfl ?_
        walk_at "go"
        refine o_isi' (show isiD "str" (.str x) = some (.bl true) from rfl) ?_
        walk_at "go"
        refine w_call rfl nd0 rfl (w_mono (with_obj (by omega) (m - 1) fs x w hf (by omega) hx) ?_)
        rintro d r' ⟨rfl, rfl⟩
        walk_at "go"
        exact ⟨rfl, rfl⟩
      · walk_at "go"
        refine p_ifF h2 ?_
        walk_at "go"
        exact ⟨rfl, rfl⟩
      · walk_at "go"
        refine p_ifF rfl ?_
        walk_at "go"
        exact ⟨rfl, rfl⟩
      · unfold lstD
        walk_at "go"
        refine p_ifF rfl ?_
        walk_at "go"
        exact ⟨rfl, rfl⟩
      · unfold objD
        walk_at "go"
        refine p_ifT rfl ?_
        walk_at "go"
        refine o_isi' (show isiD "str" (.int i) = some (.bl false) from rfl) ?_
        walk_at "go"
        exact ⟨rfl, rfl⟩
    rintro fl r' ⟨rfl, rfl⟩
    dsimp only
    refine w_seq (w_mono (P := fun fl r' => fl = .nx ∧ ∃ o6, r' = [some (.d v), some (.d (.tup (t0 ++ [t]))), some (.d w), some (.d pa), some (.d t), some (.d (putD pa t w)), o6]) ?_ ?_)
    · rcases ht with ⟨x, hx, rfl⟩ | ⟨i, rfl⟩
      · show wp _ _ [some (.d v), some (.d (.tup (t0 ++ [.str x]))), some (.d w), some (.d pa), some (.d (.str x)), some (.d (putD pa (.str x) w)), none]
        generalize putD pa (.str x) w = q
        rcases shapes e with ⟨k, y, rfl, hk, h1, h2, h3⟩ | rfl | ⟨ds, rfl, hl, hd⟩ | ⟨fs, rfl, hl, hf⟩
        · walk_at "go"
          refine p_ifF h1 ?_
          walk_at "go"
          exact ⟨rfl, none, rfl⟩
        · walk_at "go"
          refine p_ifF rfl ?_
          walk_at "go"
          exact ⟨rfl, none, rfl⟩
        · unfold lstD
          walk_at "go"
          refine p_ifT rfl ?_
          walk_at "go"
          refine o_isi' (show isiD "int" (.str x) = some (.bl false) from rfl) ?_
          walk_at "go"
          exact ⟨rfl, none, rfl⟩
        · unfold objD
          walk_at "go"
          refine p_ifF rfl ?_
          walk_at "go"
          exact ⟨rfl, none, rfl⟩
      · show wp _ _ [some (.d v), some (.d (.tup (t0 ++ [.int i]))), some (.d w), some (.d pa), some (.d (.int i)), some (.d .non), none]
        rcases shapes e with ⟨k, y, rfl, hk, h1, h2, h3⟩ | rfl | ⟨ds, rfl, hl, hd⟩ | ⟨fs, rfl, hl, hf⟩
        · walk_at "go"
          refine p_ifF h1 ?_
          walk_at "go"
          refine ⟨rfl, none, ?_⟩
          cases y with
          | tup ds => exact absurd rfl (h3 ds)
          | _ => rfl
        · walk_at "go"
          refine p_ifF rfl ?_
          walk_at "go"
          exact ⟨rfl, none, rfl⟩
        · rw [show putD (lstD ds) (.int i) w = putAt ds i w from rfl]
          unfold lstD
          walk_at "go"
          refine p_ifT rfl ?_
          walk_at "go"
          refine o_isi' (show isiD "int" (.int i) = some (.bl true) from rfl) ?_
          walk_at "go"
          by_cases hi : i ≤ (ds.length : Int)
          · refine w_ifT (decide_eq_true hi) ?_
            walk_at "go"
            have hc := cut_both ds (if (i == -1) = true then (ds.length : Int) else i)
            have hj : ¬ ((ds.length : Int) < (if (i == -1) = true then (ds.length : Int) else i)) := by
              split <;> omega
            unfold putAt
            dsimp only
            rw [if_neg hj]
            refine w_env (r' := [_, _, _, _, _, _, _]) rfl ?_
            refine w_mono (P := fun fl r' => fl = .nx ∧ r' = [some (.d v), some (.d (.tup (t0 ++ [.int i]))), some (.d w), some (.d (.tup [.str (Str.ofString "list"), .tup ds])), some (.d (.int i)), some (.d .non), some (.d (.int (if (i == -1) = true then (ds.length : Int) else i)))]) ?_ ?_
            · refine w_it (fun h => ?_) (fun h => ?_)
              · rw [if_pos h]
                walk_at "go"
                exact ⟨rfl, rfl⟩
              · rw [if_neg (by rw [h]; exact Bool.false_ne_true)]
                walk_at "go"
                exact ⟨rfl, rfl⟩
            rintro fl r' ⟨rfl, rfl⟩
            dsimp only
            generalize (if (i == -1) = true then (ds.length : Int) else i) = j at hc
            walk_at "go"
            refine w_of (show slD (.tup ds) none (some j) = some (.tup (Pk.cutD ds none (some j))) from rfl) ?_
            walk_at "go"
            refine w_of (addT (by rw [List.length_singleton]; omega)) ?_
            walk_at "go"
            refine w_of (show slD (.tup ds) (some j) none = some (.tup (Pk.cutD ds (some j) none)) from rfl) ?_
            refine w_of (addT (by rw [List.length_append, List.length_singleton]; omega)) ?_
            walk_at "go"
            exact ⟨rfl, _, rfl⟩
          · refine w_ifF (decide_eq_false hi) ?_
            walk_at "go"
            have hj : (ds.length : Int) < (if (i == -1) = true then (ds.length : Int) else i) := by
              rw [if_neg (by simp; omega)]; omega
            unfold putAt
            dsimp only
            rw [if_pos hj]
            exact ⟨rfl, none, rfl⟩
        · unfold objD
          walk_at "go"
          refine p_ifF rfl ?_
          walk_at "go"
          exact ⟨rfl, none, rfl⟩
    rintro fl r' ⟨rfl, o6, rfl⟩
    dsimp only
    walk_at "go"
    rcases putD_ok e ht hw hB hB2 with q | q
    · rw [q]
      refine w_ifT rfl ?_
      walk_at "go"
      exact ⟨rfl, rfl⟩
    · rw [q.some.1]
      refine w_ifF rfl ?_
      walk_at "go"
      refine w_of (show slD (.tup (t0 ++ [t])) none (some (-1)) = some (.tup (Pk.cutD (t0 ++ [t]) none (some (-1)))) from rfl) ?_
      rw [cut_last]
      walk_at "go"
      refine w_call rfl nd0 rfl (w_mono (lrepl_ok q t0 v (by omega) (by omega) hv ht0) ?_)
      rintro d r' ⟨rfl, rfl⟩
      exact ⟨rfl, rfl⟩
end Row

set_option maxHeartbeats 1000000
namespace Row
open PySem PySem.Spec PyProof.Rows L2 Pk
local macro_rules | `(tactic| walk_at "s") => `(tactic| first
  | with_reducible refine w_seq ?_ | with_reducible refine w_ret ?_ | with_reducible refine w_if ?_ | with_reducible refine w_and ?_ | with_reducible refine w_or ?_ | with_reducible refine w_bd ?_ | with_reducible refine w_rt ?_ | with_reducible refine w_nil ?_
  | ((with_reducible refine' w_ld ?h ?_); (case h => exact rfl)) | ((with_reducible refine' w_own ?h ?_); (case h => exact rfl)) | ((with_reducible refine' w_ldF ?h ?_); (case h => exact rfl)) | ((with_reducible refine' w_nxt ?h ?_); (case h => exact rfl))
  | with_reducible refine w_chain ?_ | with_reducible refine w_andV ?_ | with_reducible refine w_orV ?_ | with_reducible refine p_itT ?_ | with_reducible refine p_itF ?_ | with_reducible refine w_itT ?_ | with_reducible refine w_itF ?_ | with_reducible refine o_asB ?_ | with_reducible refine o_asI ?_ | with_reducible refine o_asS ?_ | with_reducible refine o_truB ?_ | with_reducible refine o_truN ?_ | with_reducible refine o_truT ?_ | with_reducible refine o_truL ?_
  | with_reducible refine o_intI ?_ | with_reducible refine o_intB ?_ | with_reducible refine o_lenT ?_ | with_reducible refine o_lenL ?_ | with_reducible refine o_lenR ?_ | with_reducible refine o_listT ?_ | with_reducible refine o_listL ?_ | with_reducible refine o_tupleT ?_ | with_reducible refine o_tupleL ?_
  | with_reducible refine o_addI ?_ | with_reducible refine o_subI ?_ | with_reducible refine o_negI ?_ | with_reducible refine o_minI ?_ | with_reducible refine o_maxI ?_ | with_reducible refine o_eqI ?_ | with_reducible refine o_neI ?_
  | with_reducible refine o_ltI ?_ | with_reducible refine o_leI ?_ | with_reducible refine o_gtI ?_ | with_reducible refine o_geI ?_ | with_reducible refine o_ltS ?_ | with_reducible refine o_leS ?_ | with_reducible refine o_gtS ?_ | with_reducible refine o_geS ?_ | with_reducible refine o_isN ?_ | with_reducible refine o_isNotN ?_
  | with_reducible refine o_mkT0 ?_ | with_reducible refine o_mkT1 ?_ | with_reducible refine o_mkT2 ?_ | ((with_reducible refine' o_modI ?h ?_); (case h => decide)) | ((with_reducible refine' o_fdivI ?h ?h2 ?_); (case h => decide); (case h2 => decide)) | ((with_reducible refine' o_powI ?h ?h2 ?h3 ?_); (case h => decide); (case h2 => decide); (case h3 => decide))
  | ((with_reducible refine' o_eqS ?h ?h2 ?_); (case h => first | assumption | exact SOk.str (by assumption) | exact so_list | exact so_object | exact so_null | exact so_bool | exact so_int | exact so_text); (case h2 => first | assumption | exact SOk.str (by assumption) | exact so_list | exact so_object | exact so_null | exact so_bool | exact so_int | exact so_text)) | ((with_reducible refine' o_neS ?h ?h2 ?_); (case h => first | assumption | exact SOk.str (by assumption) | exact so_list | exact so_object | exact so_null | exact so_bool | exact so_int | exact so_text); (case h2 => first | assumption | exact SOk.str (by assumption) | exact so_list | exact so_object | exact so_null | exact so_bool | exact so_int | exact so_text)) | ((with_reducible refine' o_ix ?h ?_); (case h => exact rfl)))
local macro_rules | `(tactic| walk_at "ix") => `(tactic| refine w_of (show ixD _ _ = some _ from rfl) ?_)
local macro_rules | `(tactic| walk_at "go") => `(tactic| (repeat walk_at "s"))
local macro_rules | `(tactic| walk_at "e1") => `(tactic| refine w_env (r' := [_]) rfl ?_)
local macro_rules | `(tactic| walk_at "e2") => `(tactic| refine w_env (r' := [_, _]) rfl ?_)
local macro_rules | `(tactic| walk_at "e3") => `(tactic| refine w_env (r' := [_, _, _]) rfl ?_)
local macro_rules | `(tactic| walk_at "e4") => `(tactic| refine w_env (r' := [_, _, _, _]) rfl ?_)
def dropD (v t : D) : D := match v, t with
  | .tup [.str _, .tup ds], .int i => lstD (ds.take i.toNat ++ ds.drop (i.toNat + 1))
  | .tup [.str _, .tup ds], .str x => .tup [.str (Str.ofString "object"), .tup (ds.filter fun d => !(nmS d == x))]
  | _, _ => .non

theorem dropD_list (ds : List D) (i : Int) : dropD (lstD ds) (.int i) = lstD (ds.take i.toNat ++ ds.drop (i.toNat + 1)) := rfl

theorem dropD_obj (fs : List (Str × D)) (x : Str) : dropD (objD fs) (.str x) = objD (fs.filter fun f => !(f.1 == x)) := by
  show D.tup [.str (Str.ofString "object"), .tup ((fs.map fD).filter fun d => !(nmS d == x))] = _
  rw [filter_fD fs _ (fun f => !(f.1 == x)) (fun f hf => rfl)]
  rfl

theorem dropD_ok {m : Nat} {v t : D} (hv : IsJ m v) (ht : IsTok t) (hc : child v t ≠ .non) : IsJ m (dropD v t) := by
  have hm : m - 1 + 1 = m := by
    cases m with
    | zero => exact hv.elim
    | succ m => rfl
  rcases leads hv ht hc with ⟨ds, i, rfl, rfl, h0, h1, hl, hd⟩ | ⟨fs, x, rfl, rfl, hx, hl, hf, _⟩
  · rw [dropD_list, ← hm]
    refine IsJ.list (fun e he => ?_) ?_
    · rcases List.mem_append.mp he with he | he
      · exact hd e (List.mem_of_mem_take he)
      · exact hd e (List.mem_of_mem_drop he)
    · rw [List.length_append, List.length_take, List.length_drop]; omega
  · rw [dropD_obj, ← hm]
    refine IsJ.obj ⟨fun f h => hf.1 f (List.mem_filter.mp h).1, hf.2.filter _⟩ (Nat.le_trans (List.length_filter_le _ _) hl)

def takeD (v : D) (t0 : List D) (t : D) : D := if (walkD v (t0 ++ [t])).isNon then .non else replD v t0 (dropD (walkD v t0) t)

theorem on_way {m : Nat} {v t : D} {t0 : List D} (hv : IsJ m v) (ht0 : ∀ t ∈ t0, IsTok t) (hw : IsJ m (walkD v (t0 ++ [t]))) : IsJ m (walkD v t0) ∧ child (walkD v t0) t ≠ .non := by
  rw [walk_app _ hv ht0] at hw
  rcases walkD_ok hv ht0 with e | e
  · rw [e, walkD_non] at hw; exact absurd rfl hw.some.2
  · rw [walkD_cons e] at hw
    exact ⟨e, hw.some.2⟩

theorem takeD_ok {m : Nat} {v t : D} {t0 : List D} (hv : IsJ m v) (ht0 : ∀ t ∈ t0, IsTok t) (ht : IsTok t) : takeD v t0 t = .non ∨ IsJ (m + m + t0.length) (takeD v t0 t) := by
  have hts : ∀ t' ∈ t0 ++ [t], IsTok t' := IsTok.app ht0 ht
  unfold takeD
  rcases walkD_ok hv hts with e | e
  · rw [e]; exact .inl rfl
  · rw [e.some.1]
    obtain ⟨h1, h2⟩ := on_way hv ht0 e
    exact .inr (repl_some (dropD_ok h1 ht h2) hv ht0 h1.some.2)

theorem ltake0_ok {N : Nat} (hN : 1 ≤ N) (v : D) : wp (sem N .l_take) (fun d r' => d = .non ∧ r' = [some (.d v), some (.d (.tup []))]) [some (.d v), some (.d (.tup []))] := by
  obtain ⟨n, rfl⟩ := lev (by omega) hN
  rw [sem_succ]
  refine w_body (by rfl) ?_
  delta b_l_take
  walk_at "go"
  refine p_ifT rfl ?_
  walk_at "go"
  exact ⟨rfl, rfl⟩

theorem ltake_ok {N : Nat} (hN : 600 ≤ N + 560) {m : Nat} {v t : D} {t0 : List D} (hv : IsJ m v) (ht0 : ∀ t ∈ t0, IsTok t) (ht : IsTok t) (hl : t0.length ≤ 10) :
    wp (sem N .l_take) (fun d r' => d = takeD v t0 t ∧ r' = [some (.d v), some (.d (.tup (t0 ++ [t])))]) [some (.d v), some (.d (.tup (t0 ++ [t])))] := by
  have hts : ∀ t' ∈ t0 ++ [t], IsTok t' := IsTok.app ht0 ht
  obtain ⟨n, rfl⟩ := lev (by omega) (show 40 ≤ N by omega)
  rw [sem_succ]
  refine w_body (by rfl) ?_
  delta b_l_take
  walk_at "go"
  refine p_ifF (by rw [List.length_append, List.length_singleton]; simp; omega) ?_
  walk_at "go"
  refine w_call rfl nd0 rfl (w_mono (llookup_ok (by omega) m v _ hv hts) ?_)
  rintro d r' ⟨rfl, rfl⟩
  walk_at "go"
  unfold takeD
  rcases walkD_ok hv hts with e | e
  · rw [e]
    walk_at "go"
    refine w_ifT rfl ?_
    walk_at "go"
    exact ⟨rfl, rfl⟩
  · rw [e.some.1]
    obtain ⟨h1, h2⟩ := on_way hv ht0 e
    walk_at "go"
    refine w_of (show slD (.tup (t0 ++ [t])) none (some (-1)) = some (.tup (Pk.cutD (t0 ++ [t]) none (some (-1)))) from rfl) ?_
    rw [cut_last]
    walk_at "go"
    refine w_call rfl nd0 rfl (w_mono (llookup_ok (by omega) m v _ hv ht0) ?_)
    rintro d r' ⟨rfl, rfl⟩
    refine w_env (r' := [_, _, _, _, _, _]) rfl ?_
    walk_at "go"
    refine o_ix (at_last t0 t) ?_
    walk_at "s"
    refine w_env (r' := [_, _, _, _, _, _]) rfl ?_
    refine w_seq (w_mono (P := fun fl r' => fl = .nx ∧ ∃ o5, r' = [some (.d v), some (.d (.tup (t0 ++ [t]))), some (.d (walkD v t0)), some (.d t), some (.d (dropD (walkD v t0) t)), o5]) ?_ ?_)
    · rcases leads h1 ht h2 with ⟨ds, i, e1, rfl, h0, hi, hl1, hd⟩ | ⟨fs, x, e1, rfl, hx, hl1, hf, _⟩
      · rw [e1, dropD_list]
        unfold lstD
        walk_at "go"
        refine w_ifT rfl ?_
        walk_at "go"
        refine w_of (show slD (.tup ds) none (some i) = some (.tup (Pk.cutD ds none (some i))) from rfl) ?_
        rw [cut_to h0 (by omega)]
        walk_at "go"
        refine w_of (show slD (.tup ds) (some (i + 1)) none = some (.tup (Pk.cutD ds (some (i + 1)) none)) from rfl) ?_
        rw [cut_from (by omega) (by omega), show (i + 1).toNat = i.toNat + 1 by omega]
        refine w_of (addT (by rw [List.length_take, List.length_drop]; omega)) ?_
        walk_at "go"
        exact ⟨rfl, none, rfl⟩
      · rw [e1, dropD_obj]
        unfold objD
        walk_at "go"
        refine w_ifF rfl ?_
        walk_at "go"
        refine w_lc ?_
        walk_at "go"
        refine w_of (show seqOf (.tup (fs.map fD)) = some (fs.map fD) from rfl) ?_
        refine ⟨rfl, ?_⟩
        refine w_comp_pure (fun d => !(nmS d == x)) _root_.id (fun d hd => ?_) (by rw [List.length_map]; exact Nat.le_trans (show fs.length ≤ 500 by omega) (by decide)) ?_
        · obtain ⟨f, hf', rfl⟩ := List.mem_map.mp hd
          have hs := (hf.1 f hf').1
          refine ⟨_, rfl, ?_, fun _ => ?_, rfl⟩
          · unfold fD
            walk_at "go"
            exact ⟨rfl, rfl⟩
          · walk_at "go"
            exact ⟨rfl, rfl⟩
        rw [List.map_id, filter_fD fs _ (fun f => !(f.1 == x)) (fun f hf => rfl)]
        walk_at "go"
        exact ⟨rfl, none, rfl⟩
    rintro fl r' ⟨rfl, o5, rfl⟩
    dsimp only
    walk_at "go"
    refine w_of (show slD (.tup (t0 ++ [t])) none (some (-1)) = some (.tup (Pk.cutD (t0 ++ [t]) none (some (-1)))) from rfl) ?_
    rw [cut_last]
    walk_at "go"
    refine w_call rfl nd0 rfl (w_mono (lrepl_ok (dropD_ok h1 ht h2) t0 v (by omega) (by omega) hv ht0) ?_)
    rintro d r' ⟨rfl, rfl⟩
    exact ⟨rfl, rfl⟩
end Row

set_option maxHeartbeats 1000000
namespace Row
open PySem PySem.Spec PyProof.Rows L2 Pk
local macro_rules | `(tactic| walk_at "s") => `(tactic| first
  | with_reducible refine w_seq ?_ | with_reducible refine w_ret ?_ | with_reducible refine w_if ?_ | with_reducible refine w_and ?_ | with_reducible refine w_or ?_ | with_reducible refine w_bd ?_ | with_reducible refine w_rt ?_ | with_reducible refine w_nil ?_
  | ((with_reducible refine' w_ld ?h ?_); (case h => exact rfl)) | ((with_reducible refine' w_own ?h ?_); (case h => exact rfl)) | ((with_reducible refine' w_ldF ?h ?_); (case h => exact rfl)) | ((with_reducible refine' w_nxt ?h ?_); (case h => exact rfl))
  | with_reducible refine w_chain ?_ | with_reducible refine w_andV ?_ | with_reducible refine w_orV ?_ | with_reducible refine p_itT ?_ | with_reducible refine p_itF ?_ | with_reducible refine w_itT ?_ | with_reducible refine w_itF ?_ | with_reducible refine o_asB ?_ | with_reducible refine o_asI ?_ | with_reducible refine o_asS ?_ | with_reducible refine o_truB ?_ | with_reducible refine o_truN ?_ | with_reducible refine o_truT ?_ | with_reducible refine o_truL ?_
  | with_reducible refine o_intI ?_ | with_reducible refine o_intB ?_ | with_reducible refine o_lenT ?_ | with_reducible refine o_lenL ?_ | with_reducible refine o_lenR ?_ | with_reducible refine o_listT ?_ | with_reducible refine o_listL ?_ | with_reducible refine o_tupleT ?_ | with_reducible refine o_tupleL ?_
  | with_reducible refine o_addI ?_ | with_reducible refine o_subI ?_ | with_reducible refine o_negI ?_ | with_reducible refine o_minI ?_ | with_reducible refine o_maxI ?_ | with_reducible refine o_eqI ?_ | with_reducible refine o_neI ?_
  | with_reducible refine o_ltI ?_ | with_reducible refine o_leI ?_ | with_reducible refine o_gtI ?_ | with_reducible refine o_geI ?_ | with_reducible refine o_ltS ?_ | with_reducible refine o_leS ?_ | with_reducible refine o_gtS ?_ | with_reducible refine o_geS ?_ | with_reducible refine o_isN ?_ | with_reducible refine o_isNotN ?_
  | with_reducible refine o_mkT0 ?_ | with_reducible refine o_mkT1 ?_ | with_reducible refine o_mkT2 ?_ | with_reducible refine o_mkT3 ?_ | with_reducible refine o_mkT4 ?_ | with_reducible refine o_mkT5 ?_ | with_reducible refine o_mkL0 ?_ | with_reducible refine o_mkL1 ?_ | with_reducible refine o_mkL2 ?_ | with_reducible refine o_mkL3 ?_ | with_reducible refine o_mkL4 ?_ | with_reducible refine o_seqT ?_ | with_reducible refine o_seqL ?_ | with_reducible refine o_seqR ?_ | with_reducible refine w_itN ?_ | with_reducible refine p_itN ?_ | ((with_reducible refine' o_modI ?h ?_); (case h => decide)) | ((with_reducible refine' o_fdivI ?h ?h2 ?_); (case h => decide); (case h2 => decide)) | ((with_reducible refine' o_powI ?h ?h2 ?h3 ?_); (case h => decide); (case h2 => decide); (case h3 => decide))
  | ((with_reducible refine' o_eqS ?h ?h2 ?_); (case h => first | assumption | exact SOk.str (by assumption) | exact so_list | exact so_object | exact so_null | exact so_bool | exact so_int | exact so_text | exact SOk.str (sok_by (by decide +kernel))); (case h2 => first | assumption | exact SOk.str (by assumption) | exact so_list | exact so_object | exact so_null | exact so_bool | exact so_int | exact so_text | exact SOk.str (sok_by (by decide +kernel)))) | ((with_reducible refine' o_neS ?h ?h2 ?_); (case h => first | assumption | exact SOk.str (by assumption) | exact so_list | exact so_object | exact so_null | exact so_bool | exact so_int | exact so_text | exact SOk.str (sok_by (by decide +kernel))); (case h2 => first | assumption | exact SOk.str (by assumption) | exact so_list | exact so_object | exact so_null | exact so_bool | exact so_int | exact so_text | exact SOk.str (sok_by (by decide +kernel)))) | with_reducible refine o_ixh ?_ | ((with_reducible refine' o_ix ?h ?_); (case h => exact rfl)))
local macro_rules | `(tactic| walk_at "ix") => `(tactic| refine w_of (show ixD _ _ = some _ from rfl) ?_)
local macro_rules | `(tactic| walk_at "go") => `(tactic| (repeat walk_at "s"))
local macro_rules | `(tactic| walk_at "e1") => `(tactic| refine w_env (r' := [_]) rfl ?_)
local macro_rules | `(tactic| walk_at "e2") => `(tactic| refine w_env (r' := [_, _]) rfl ?_)
local macro_rules | `(tactic| walk_at "e3") => `(tactic| refine w_env (r' := [_, _, _]) rfl ?_)
local macro_rules | `(tactic| walk_at "e4") => `(tactic| refine w_env (r' := [_, _, _, _]) rfl ?_)
local macro_rules | `(tactic| walk_at "e") => `(tactic| first | refine w_env (r' := [_]) rfl ?_ | refine w_env (r' := [_, _]) rfl ?_ | refine w_env (r' := [_, _, _]) rfl ?_ | refine w_env (r' := [_, _, _, _]) rfl ?_ | refine w_env (r' := [_, _, _, _, _]) rfl ?_ | refine w_env (r' := [_, _, _, _, _, _]) rfl ?_ | refine w_env (r' := [_, _, _, _, _, _, _]) rfl ?_ | refine w_env (r' := [_, _, _, _, _, _, _, _]) rfl ?_ | refine w_env (r' := [_, _, _, _, _, _, _, _, _]) rfl ?_ | refine w_env (r' := [_, _, _, _, _, _, _, _, _, _]) rfl ?_ | refine w_env (r' := [_, _, _, _, _, _, _, _, _, _, _]) rfl ?_ | refine w_env (r' := [_, _, _, _, _, _, _, _, _, _, _, _]) rfl ?_)
local macro_rules | `(tactic| walk_at "br") => `(tactic| first | refine w_itD (fun hb => ?_) (fun hb => ?_) | refine w_itE (fun hb => ?_) (fun hb => ?_) | refine p_itD (fun hb => ?_) (fun hb => ?_) | refine p_itE (fun hb => ?_) (fun hb => ?_))
local macro_rules | `(tactic| walk_at "lit") => `(tactic| first | ((with_reducible refine' w_ifT ?h ?_); (case h => exact rfl)) | ((with_reducible refine' w_ifF ?h ?_); (case h => exact rfl)) | ((with_reducible refine' p_ifT ?h ?_); (case h => exact rfl)) | ((with_reducible refine' p_ifF ?h ?_); (case h => exact rfl)))
local macro_rules | `(tactic| walk_at "gl") => `(tactic| (repeat (first | walk_at "s" | walk_at "lit")))
theorem target_ok {N : Nat} (hN : 8 ≤ N) (k : Nat) (ds : List D) (hs : Src k ds) (hk : k + 200 < 2 ^ 60) (m : Nat) (v : D) (hv : IsJ m v) (M : Nat) (hM : M ≤ 6) :
    wp (sem N .l_target) (fun d r' => (∃ ts, d = .tup ts ∧ (∀ t ∈ ts, IsTok t) ∧ ts.length ≤ M + 1) ∧ ∃ ds', Src (k + 80) ds' ∧ r' = [some (.own true ds'), some (.d v), some (.d (.int M))]) [some (.own true ds), some (.d v), some (.d (.int M))] := by
  obtain ⟨n, rfl⟩ := lev (by omega) hN
  rw [sem_succ]
  refine w_body (by rfl) ?_
  delta b_l_target
  walk_at "go"
  refine w_cl rfl rfl nd1 (path_ok (by omega) k ds hs (by omega) m v hv M hM) ?_
  rintro _ _ ⟨⟨ts, rfl, hts, htl⟩, ds1, hs1, rfl⟩
  walk_at "e"; walk_at "go"
  refine w_cl rfl rfl nd0 (llookup_ok (by omega) m v ts hv hts) ?_
  rintro _ _ ⟨rfl, rfl⟩
  walk_at "e"; walk_at "go"
  rcases walkD_ok hv hts with e | e
  · rw [e]
    refine w_ifT rfl ?_
    walk_at "go"
    exact ⟨⟨ts, rfl, hts, htl⟩, ds1, hs1.le (by omega) (by omega), rfl⟩
  · rw [e.some.1]
    refine p_ifF rfl ?_
    walk_at "go"
    walk_at "br"
    · walk_at "go"
      exact ⟨⟨ts, rfl, hts, htl⟩, ds1, hs1.le (by omega) (by omega), rfl⟩
    · walk_at "go"
      refine w_cl rfl rfl nd1 (draw_ok (by omega) (k + 50) ds1 hs1 (by omega) 3 (by decide) (by decide)) ?_
      rintro _ _ ⟨x, ds2, rfl, h0, h1, hs2, rfl⟩
      walk_at "e"
      generalize walkD v ts = w at e
      have stay : ∀ P : Fl → Ro → Prop, P (.rt (.tup ts)) [some (.own true ds2), some (.d v), some (.d (.int M)), some (.d (.tup ts)), some (.d w), some (.d (.int x))] →
          wp (retM (ld 3)) P [some (.own true ds2), some (.d v), some (.d (.int M)), some (.d (.tup ts)), some (.d w), some (.d (.int x))] := fun P hP => by
        walk_at "go"
        exact hP
      have fin : ∀ t, IsTok t → ∃ us, D.tup (ts ++ [t]) = .tup us ∧ (∀ t ∈ us, IsTok t) ∧ us.length ≤ M + 1 := fun t ht => ⟨_, rfl, IsTok.app hts ht, by simp; omega⟩
      rcases shapes e with ⟨q, y, rfl, hq, g1, g2, _⟩ | rfl | ⟨es, rfl, hl, hd⟩ | ⟨fs, rfl, hl, hf⟩
      · walk_at "go"
        refine p_ifF g2 ?_
        walk_at "go"
        refine p_ifF g1 ?_
        walk_at "go"
        refine p_ifF g1 ?_
        walk_at "go"
        exact ⟨⟨ts, rfl, hts, htl⟩, ds2, hs2.le (by omega) (by omega), rfl⟩
      · walk_at "go"
        refine p_ifF rfl ?_
        walk_at "go"
        refine p_ifF rfl ?_
        walk_at "go"
        refine p_ifF rfl ?_
        walk_at "go"
        exact ⟨⟨ts, rfl, hts, htl⟩, ds2, hs2.le (by omega) (by omega), rfl⟩
      · unfold lstD
        walk_at "go"
        refine p_ifF rfl ?_
        walk_at "go"
        refine p_ifT rfl ?_
        walk_at "go"
        walk_at "br"
        · walk_at "go"
          refine w_of (addT (by simp; omega)) ?_
          exact ⟨fin _ (.inr ⟨_, rfl⟩), ds2, hs2.le (by omega) (by omega), rfl⟩
        · walk_at "go"
          refine p_ifT rfl ?_
          walk_at "go"
          walk_at "br"
          · walk_at "go"
            refine w_of (addT (by simp; omega)) ?_
            exact ⟨fin _ (.inr ⟨_, rfl⟩), ds2, hs2.le (by omega) (by omega), rfl⟩
          · walk_at "go"
            exact ⟨⟨ts, rfl, hts, htl⟩, ds2, hs2.le (by omega) (by omega), rfl⟩
      · unfold objD
        walk_at "go"
        refine p_ifT rfl ?_
        walk_at "go"
        walk_at "br"
        · walk_at "go"
          refine w_cl rfl rfl nd1 (name_ok (by omega) (k + 51) ds2 hs2 (by omega)) ?_
          rintro _ _ ⟨⟨y, rfl, yok⟩, ds3, hs3, rfl⟩
          walk_at "e"; walk_at "go"
          refine w_of (addT (by simp; omega)) ?_
          exact ⟨fin _ (.inl ⟨_, yok, rfl⟩), ds3, hs3.le (by omega) (by omega), rfl⟩
        · walk_at "go"
          refine p_ifF rfl ?_
          walk_at "go"
          refine p_ifF rfl ?_
          walk_at "go"
          exact ⟨⟨ts, rfl, hts, htl⟩, ds2, hs2.le (by omega) (by omega), rfl⟩

theorem cut_strict (ts : List D) : (Pk.cutD ts none (some (-1))).length ≤ ts.length - 1 := by
  unfold Pk.cutD HT.sIx
  dsimp only
  rw [List.length_take]
  split <;> omega
end Row

set_option maxHeartbeats 1000000
namespace Row
open PySem PySem.Spec PyProof.Rows L2 Pk
local macro_rules | `(tactic| walk_at "s") => `(tactic| first
  | with_reducible refine w_seq ?_ | with_reducible refine w_ret ?_ | with_reducible refine w_if ?_ | with_reducible refine w_and ?_ | with_reducible refine w_or ?_ | with_reducible refine w_bd ?_ | with_reducible refine w_rt ?_ | with_reducible refine w_nil ?_
  | ((with_reducible refine' w_ld ?h ?_); (case h => exact rfl)) | ((with_reducible refine' w_own ?h ?_); (case h => exact rfl)) | ((with_reducible refine' w_ldF ?h ?_); (case h => exact rfl)) | ((with_reducible refine' w_nxt ?h ?_); (case h => exact rfl))
  | with_reducible refine w_chain ?_ | with_reducible refine w_andV ?_ | with_reducible refine w_orV ?_ | with_reducible refine p_itT ?_ | with_reducible refine p_itF ?_ | with_reducible refine w_itT ?_ | with_reducible refine w_itF ?_ | with_reducible refine o_asB ?_ | with_reducible refine o_asI ?_ | with_reducible refine o_asS ?_ | with_reducible refine o_truB ?_ | with_reducible refine o_truN ?_ | with_reducible refine o_truT ?_ | with_reducible refine o_truL ?_
  | with_reducible refine o_intI ?_ | with_reducible refine o_intB ?_ | with_reducible refine o_lenT ?_ | with_reducible refine o_lenL ?_ | with_reducible refine o_lenR ?_ | with_reducible refine o_listT ?_ | with_reducible refine o_listL ?_ | with_reducible refine o_tupleT ?_ | with_reducible refine o_tupleL ?_
  | with_reducible refine o_addI ?_ | with_reducible refine o_subI ?_ | with_reducible refine o_negI ?_ | with_reducible refine o_minI ?_ | with_reducible refine o_maxI ?_ | with_reducible refine o_eqI ?_ | with_reducible refine o_neI ?_
  | with_reducible refine o_ltI ?_ | with_reducible refine o_leI ?_ | with_reducible refine o_gtI ?_ | with_reducible refine o_geI ?_ | with_reducible refine o_ltS ?_ | with_reducible refine o_leS ?_ | with_reducible refine o_gtS ?_ | with_reducible refine o_geS ?_ | with_reducible refine o_isN ?_ | with_reducible refine o_isNotN ?_
  | with_reducible refine o_mkT0 ?_ | with_reducible refine o_mkT1 ?_ | with_reducible refine o_mkT2 ?_ | with_reducible refine o_mkT3 ?_ | with_reducible refine o_mkT4 ?_ | with_reducible refine o_mkT5 ?_ | with_reducible refine o_mkL0 ?_ | with_reducible refine o_mkL1 ?_ | with_reducible refine o_mkL2 ?_ | with_reducible refine o_mkL3 ?_ | with_reducible refine o_mkL4 ?_ | with_reducible refine o_seqT ?_ | with_reducible refine o_seqL ?_ | with_reducible refine o_seqR ?_ | with_reducible refine w_itN ?_ | with_reducible refine p_itN ?_ | ((with_reducible refine' o_modI ?h ?_); (case h => decide)) | ((with_reducible refine' o_fdivI ?h ?h2 ?_); (case h => decide); (case h2 => decide)) | ((with_reducible refine' o_powI ?h ?h2 ?h3 ?_); (case h => decide); (case h2 => decide); (case h3 => decide))
  | ((with_reducible refine' o_eqS ?h ?h2 ?_); (case h => first | assumption | exact SOk.str (by assumption) | exact so_list | exact so_object | exact so_null | exact so_bool | exact so_int | exact so_text | exact SOk.str (sok_by (by decide +kernel))); (case h2 => first | assumption | exact SOk.str (by assumption) | exact so_list | exact so_object | exact so_null | exact so_bool | exact so_int | exact so_text | exact SOk.str (sok_by (by decide +kernel)))) | ((with_reducible refine' o_neS ?h ?h2 ?_); (case h => first | assumption | exact SOk.str (by assumption) | exact so_list | exact so_object | exact so_null | exact so_bool | exact so_int | exact so_text | exact SOk.str (sok_by (by decide +kernel))); (case h2 => first | assumption | exact SOk.str (by assumption) | exact so_list | exact so_object | exact so_null | exact so_bool | exact so_int | exact so_text | exact SOk.str (sok_by (by decide +kernel)))) | with_reducible refine o_ixh ?_ | ((with_reducible refine' o_ix ?h ?_); (case h => exact rfl)))
local macro_rules | `(tactic| walk_at "ix") => `(tactic| refine w_of (show ixD _ _ = some _ from rfl) ?_)
local macro_rules | `(tactic| walk_at "go") => `(tactic| (repeat walk_at "s"))
local macro_rules | `(tactic| walk_at "e1") => `(tactic| refine w_env (r' := [_]) rfl ?_)
local macro_rules | `(tactic| walk_at "e2") => `(tactic| refine w_env (r' := [_, _]) rfl ?_)
local macro_rules | `(tactic| walk_at "e3") => `(tactic| refine w_env (r' := [_, _, _]) rfl ?_)
local macro_rules | `(tactic| walk_at "e4") => `(tactic| refine w_env (r' := [_, _, _, _]) rfl ?_)
local macro_rules | `(tactic| walk_at "e") => `(tactic| first | refine w_env (r' := [_]) rfl ?_ | refine w_env (r' := [_, _]) rfl ?_ | refine w_env (r' := [_, _, _]) rfl ?_ | refine w_env (r' := [_, _, _, _]) rfl ?_ | refine w_env (r' := [_, _, _, _, _]) rfl ?_ | refine w_env (r' := [_, _, _, _, _, _]) rfl ?_ | refine w_env (r' := [_, _, _, _, _, _, _]) rfl ?_ | refine w_env (r' := [_, _, _, _, _, _, _, _]) rfl ?_ | refine w_env (r' := [_, _, _, _, _, _, _, _, _]) rfl ?_ | refine w_env (r' := [_, _, _, _, _, _, _, _, _, _]) rfl ?_ | refine w_env (r' := [_, _, _, _, _, _, _, _, _, _, _]) rfl ?_ | refine w_env (r' := [_, _, _, _, _, _, _, _, _, _, _, _]) rfl ?_)
local macro_rules | `(tactic| walk_at "br") => `(tactic| first | refine w_itD (fun hb => ?_) (fun hb => ?_) | refine w_itE (fun hb => ?_) (fun hb => ?_) | refine p_itD (fun hb => ?_) (fun hb => ?_) | refine p_itE (fun hb => ?_) (fun hb => ?_))
local macro_rules | `(tactic| walk_at "lit") => `(tactic| first | ((with_reducible refine' w_ifT ?h ?_); (case h => exact rfl)) | ((with_reducible refine' w_ifF ?h ?_); (case h => exact rfl)) | ((with_reducible refine' p_ifT ?h ?_); (case h => exact rfl)) | ((with_reducible refine' p_ifF ?h ?_); (case h => exact rfl)))
local macro_rules | `(tactic| walk_at "gl") => `(tactic| (repeat (first | walk_at "s" | walk_at "lit")))
def Tok0 (t : D) : Prop := (∃ x, SOk x ∧ t = .str x) ∨ (∃ i : Int, 0 ≤ i ∧ t = .int i)

theorem Tok0.tok {t : D} (h : Tok0 t) : IsTok t := h.imp id fun ⟨i, _, e⟩ => ⟨i, e⟩

theorem tok0_of {m : Nat} {v t : D} (hv : IsJ m v) (ht : IsTok t) (hc : child v t ≠ .non) : Tok0 t := by
  rcases leads hv ht hc with ⟨ds, i, rfl, rfl, h0, _⟩ | ⟨fs, x, rfl, rfl, hx, _⟩
  · exact .inr ⟨i, h0, rfl⟩
  · exact .inl ⟨x, hx, rfl⟩

theorem find_skip {x : Str} : ∀ {fs : List (Str × D)} (ds : List D), (∀ f ∈ fs, f.1 ≠ x) → findD x (fs.map fD ++ ds) = findD x ds
  | [], _, _ => rfl
  | f :: fs, ds, h => by
    rw [List.map_cons, List.cons_append, findD_fD, if_neg (by simpa using h f (List.mem_cons_self ..))]
    exact find_skip ds fun g hg => h g (List.mem_cons_of_mem _ hg)

theorem lt_ne {f x : Str} (h : f.cps.toList < x.cps.toList) : f ≠ x := by rintro rfl; exact List.lt_irrefl _ h

theorem find_ins {fs : List (Str × D)} {x : Str} {v : D} : findD x ((ins fs x v).map fD) = v := by
  unfold ins
  rw [List.map_append, List.map_append, List.append_assoc, find_skip _ (fun f hf => lt_ne (by simpa using (List.mem_filter.mp hf).2)), List.map_cons, List.map_nil, List.cons_append, findD_fD, if_pos (by simp)]

theorem str_tri (f x : Str) : f.cps.toList < x.cps.toList ∨ f = x ∨ x.cps.toList < f.cps.toList := by
  rcases List.le_total f.cps.toList x.cps.toList with h | h
  · by_cases e : f = x
    · exact .inr (.inl e)
    · refine .inl ?_
      rcases Decidable.em (f.cps.toList < x.cps.toList) with q | q
      · exact q
      · exact absurd (str_ext (List.le_antisymm h (List.not_lt.mp q))) e
  · by_cases e : f = x
    · exact .inr (.inl e)
    · refine .inr (.inr ?_)
      rcases Decidable.em (x.cps.toList < f.cps.toList) with q | q
      · exact q
      · exact absurd (str_ext (List.le_antisymm (List.not_lt.mp q) h)) e

abbrev ltX (x : Str) (f : Str × D) : Bool := decide (f.1.cps.toList < x.cps.toList)

abbrev gtX (x : Str) (f : Str × D) : Bool := decide (x.cps.toList < f.1.cps.toList)

theorem all_gt {x : Str} {fs : List (Str × D)} (h : ∀ f ∈ fs, x.cps.toList < f.1.cps.toList) : fs.filter (ltX x) = [] ∧ fs.filter (gtX x) = fs ∧ fs.filter (fun f => !(f.1 == x)) = fs := by
  refine ⟨List.filter_eq_nil_iff.mpr fun f hf => ?_, List.filter_eq_self.mpr fun f hf => decide_eq_true (h f hf), List.filter_eq_self.mpr fun f hf => ?_⟩
  · have := h f hf
    simp only [ltX, decide_eq_true_eq]
    exact fun q => List.lt_irrefl _ (List.lt_trans this q)
  · have := lt_ne (h f hf)
    simpa using fun e => this e.symm

theorem three : ∀ {fs : List (Str × D)} {x : Str}, (fs.Pairwise fun f g => f.1.cps.toList < g.1.cps.toList) → (∃ f ∈ fs, f.1 = x) → fs.filter (ltX x) ++ [(x, findD x (fs.map fD))] ++ fs.filter (gtX x) = fs
  | [], x, _, h => by obtain ⟨f, hf, _⟩ := h; cases hf
  | f :: fs, x, hp, h => by
    rw [List.pairwise_cons] at hp
    by_cases e : f.1 = x
    · subst e
      obtain ⟨a, b, _⟩ := all_gt (x := f.1) hp.1
      rw [List.filter_cons, if_neg (by simpa using List.lt_irrefl _), a, List.filter_cons, if_neg (by simpa using List.lt_irrefl _), b, List.map_cons, findD_fD, if_pos (by simp)]
      rfl
    · have hx : ∃ g ∈ fs, g.1 = x := by
        obtain ⟨g, hg, rfl⟩ := h
        rcases List.mem_cons.mp hg with rfl | hg
        · exact absurd rfl e
        · exact ⟨g, hg, rfl⟩
      have hlt : f.1.cps.toList < x.cps.toList := by obtain ⟨g, hg, rfl⟩ := hx; exact hp.1 g hg
      rw [List.filter_cons, if_pos (decide_eq_true hlt), List.filter_cons, if_neg (by simpa using fun q => List.lt_irrefl _ (List.lt_trans hlt q)), List.map_cons, findD_fD, if_neg (by simpa using e), List.cons_append, List.cons_append, three hp.2 hx]

theorem two : ∀ {fs : List (Str × D)} {x : Str}, (fs.Pairwise fun f g => f.1.cps.toList < g.1.cps.toList) → (∀ f ∈ fs, f.1 ≠ x) → fs.filter (ltX x) ++ fs.filter (gtX x) = fs
  | [], x, _, _ => rfl
  | f :: fs, x, hp, h => by
    rw [List.pairwise_cons] at hp
    rcases str_tri f.1 x with hlt | e | hgt
    · rw [List.filter_cons, if_pos (decide_eq_true hlt), List.filter_cons, if_neg (by simpa using fun q => List.lt_irrefl _ (List.lt_trans hlt q)), List.cons_append, two hp.2 fun g hg => h g (List.mem_cons_of_mem _ hg)]
    · exact absurd e (h f (List.mem_cons_self ..))
    · obtain ⟨a, b, _⟩ := all_gt (x := x) (fs := f :: fs) fun g hg => by
        rcases List.mem_cons.mp hg with rfl | hg
        · exact hgt
        · exact List.lt_trans hgt (hp.1 g hg)
      rw [a, b]; rfl

theorem ins_eq {fs : List (Str × D)} {x : Str} {v : D} : ins fs x v = fs.filter (ltX x) ++ [(x, v)] ++ fs.filter (gtX x) := rfl

theorem ll {x : Str} (fs : List (Str × D)) : (fs.filter (ltX x)).filter (ltX x) = fs.filter (ltX x) := by rw [List.filter_filter]; simp

theorem gg {x : Str} (fs : List (Str × D)) : (fs.filter (gtX x)).filter (gtX x) = fs.filter (gtX x) := by rw [List.filter_filter]; simp

theorem lg0 {x : Str} (fs : List (Str × D)) : (fs.filter (gtX x)).filter (ltX x) = [] := (all_gt fun f hf => of_decide_eq_true (List.mem_filter.mp hf).2).1

theorem gl0 {x : Str} (fs : List (Str × D)) : (fs.filter (ltX x)).filter (gtX x) = [] := List.filter_eq_nil_iff.mpr fun f hf => by
  have := of_decide_eq_true (List.mem_filter.mp hf).2
  simp only [gtX, decide_eq_true_eq]
  exact fun q => List.lt_irrefl _ (List.lt_trans this q)

theorem l1 {x : Str} {a : D} : [(x, a)].filter (ltX x) = [] := List.filter_eq_nil_iff.mpr fun f hf => by
  obtain rfl := List.mem_singleton.mp hf
  simpa using List.lt_irrefl _

theorem g1' {x : Str} {a : D} : [(x, a)].filter (gtX x) = [] := List.filter_eq_nil_iff.mpr fun f hf => by
  obtain rfl := List.mem_singleton.mp hf
  simpa using List.lt_irrefl _

theorem ins_lt {fs : List (Str × D)} {x : Str} {a : D} : (ins fs x a).filter (ltX x) = fs.filter (ltX x) := by
  rw [ins_eq, List.filter_append, List.filter_append, ll, l1, lg0, List.append_nil, List.append_nil]

theorem ins_gt {fs : List (Str × D)} {x : Str} {a : D} : (ins fs x a).filter (gtX x) = fs.filter (gtX x) := by
  rw [ins_eq, List.filter_append, List.filter_append, gg, g1', gl0, List.append_nil, List.nil_append]

theorem ins_ins {fs : List (Str × D)} {x : Str} {a b : D} : ins (ins fs x a) x b = ins fs x b := by
  rw [ins_eq, ins_lt, ins_gt]; rfl

theorem ins_drop {fs : List (Str × D)} {x : Str} {a : D} (hp : fs.Pairwise fun f g => f.1.cps.toList < g.1.cps.toList) (h : ∀ f ∈ fs, f.1 ≠ x) : (ins fs x a).filter (fun f => !(f.1 == x)) = fs := by
  rw [ins_eq, List.filter_append, List.filter_append, (all_gt (x := x) fun f hf => of_decide_eq_true (List.mem_filter.mp hf).2).2.2,
    List.filter_eq_self.mpr (show ∀ f ∈ fs.filter (ltX x), (!(f.1 == x)) = true from fun f hf => by simpa using lt_ne (of_decide_eq_true (List.mem_filter.mp hf).2)),
    show [(x, a)].filter (fun f => !(f.1 == x)) = [] by simp, List.append_nil, two hp h]

theorem drop_lt {fs : List (Str × D)} {x : Str} : (fs.filter (fun f => !(f.1 == x))).filter (ltX x) = fs.filter (ltX x) := by
  rw [List.filter_filter]
  refine List.filter_congr fun f _ => ?_
  by_cases h : f.1.cps.toList < x.cps.toList
  · have := lt_ne h
    simp [ltX, h, this]
  · simp [ltX, h]

theorem drop_gt {fs : List (Str × D)} {x : Str} : (fs.filter (fun f => !(f.1 == x))).filter (gtX x) = fs.filter (gtX x) := by
  rw [List.filter_filter]
  refine List.filter_congr fun f _ => ?_
  by_cases h : x.cps.toList < f.1.cps.toList
  · have : f.1 ≠ x := fun e => lt_ne h e.symm
    simp [gtX, h, this]
  · simp [gtX, h]

theorem drop_ins {fs : List (Str × D)} {x : Str} {a : D} : ins (fs.filter fun f => !(f.1 == x)) x a = ins fs x a := by
  rw [ins_eq, drop_lt, drop_gt]; rfl

theorem mid_take (a b : List D) (r : D) {n : Nat} (h : a.length = n) : (a ++ [r] ++ b).take n = a := by
  subst h; rw [List.append_assoc]; exact List.take_left

theorem mid_drop (a b : List D) (r : D) {n : Nat} (h : a.length = n) : (a ++ [r] ++ b).drop (n + 1) = b := by
  subst h; rw [show a.length + 1 = (a ++ [r]).length by simp]; exact List.drop_left

theorem mid_get (a b : List D) (r : D) {n : Nat} (h : a.length = n) : (a ++ [r] ++ b).getD n .non = r := by
  subst h
  rw [List.getD_eq_getElem?_getD, List.append_assoc, List.getElem?_append_right (Nat.le_refl _), Nat.sub_self]; rfl

theorem split_at {ds : List D} {n : Nat} (h : n < ds.length) : ds.take n ++ [ds.getD n .non] ++ ds.drop (n + 1) = ds := by
  have : ds.take (n + 1) = ds.take n ++ [ds.getD n .non] := by rw [List.take_succ, List.getD_eq_getElem?_getD, List.getElem?_eq_getElem h]; rfl
  rw [← this, List.take_append_drop]

theorem child_with {m : Nat} {v t R : D} (hv : IsJ m v) (ht : IsTok t) (hc : child v t ≠ .non) : child (withD v t R) t = R := by
  rcases leads hv ht hc with ⟨ds, i, rfl, rfl, h0, h1, _⟩ | ⟨fs, x, rfl, rfl, hx, _⟩
  · have hn : (ds.take i.toNat).length = i.toNat := by rw [List.length_take]; omega
    rw [withD_list, child_list, if_pos ⟨h0, by rw [List.length_append, List.length_append, List.length_drop, hn, List.length_singleton]; omega⟩, mid_get _ _ _ hn]
  · rw [withD_obj, child_obj, find_ins]

theorem with_with {m : Nat} {v t R R' : D} (hv : IsJ m v) (ht : IsTok t) (hc : child v t ≠ .non) : withD (withD v t R) t R' = withD v t R' := by
  rcases leads hv ht hc with ⟨ds, i, rfl, rfl, h0, h1, _⟩ | ⟨fs, x, rfl, rfl, hx, _⟩
  · have hn : (ds.take i.toNat).length = i.toNat := by rw [List.length_take]; omega
    rw [withD_list, withD_list, withD_list, mid_take _ _ _ hn, mid_drop _ _ _ hn]
  · rw [withD_obj, withD_obj, withD_obj, ins_ins]

theorem with_same {m : Nat} {v t : D} (hv : IsJ m v) (ht : IsTok t) (hc : child v t ≠ .non) : withD v t (child v t) = v := by
  rcases leads hv ht hc with ⟨ds, i, rfl, rfl, h0, h1, _⟩ | ⟨fs, x, rfl, rfl, hx, _, hf, hm⟩
  · rw [withD_list, child_list, if_pos ⟨h0, h1⟩, split_at (by omega)]
  · rw [withD_obj, child_obj, ins_eq, three hf.2 hm]

theorem repl_walk {m k : Nat} {w : D} (hw : IsJ k w) : ∀ {ts : List D} {v : D}, IsJ m v → (∀ t ∈ ts, IsTok t) → walkD v ts ≠ .non → walkD (replD v ts w) ts = w
  | [], v, _, _, _ => rfl
  | t :: ts, v, hv, ht, hn => by
    have htt := ht t (List.mem_cons_self ..)
    have hts : ∀ t ∈ ts, IsTok t := fun t' h' => ht t' (List.mem_cons_of_mem _ h')
    rw [walkD_cons hv] at hn
    rcases child_ok hv htt with e | e
    · rw [e, walkD_non] at hn; exact absurd rfl hn
    · have q := repl_some hw e hts hn
      have r := withD_ok hv htt e.some.2 q (by omega)
      show walkD (if (child v t).isNon then _ else if (replD (child v t) ts w).isNon then _ else _) (t :: ts) = w
      rw [e.some.1, q.some.1]
      show walkD (withD v t (replD (child v t) ts w)) (t :: ts) = w
      rw [walkD_cons r, child_with hv htt e.some.2]
      exact repl_walk hw e hts hn

theorem repl_repl {m k l : Nat} {w u : D} (hw : IsJ k w) (hu : IsJ l u) : ∀ {ts : List D} {v : D}, IsJ m v → (∀ t ∈ ts, IsTok t) → walkD v ts ≠ .non → replD (replD v ts w) ts u = replD v ts u
  | [], v, _, _, _ => rfl
  | t :: ts, v, hv, ht, hn => by
    have htt := ht t (List.mem_cons_self ..)
    have hts : ∀ t ∈ ts, IsTok t := fun t' h' => ht t' (List.mem_cons_of_mem _ h')
    rw [walkD_cons hv] at hn
    rcases child_ok hv htt with e | e
    · rw [e, walkD_non] at hn; exact absurd rfl hn
    · have q := repl_some hw e hts hn
      have s := repl_some hu e hts hn
      have ih := repl_repl hw hu e hts hn
      have e1 : replD v (t :: ts) w = withD v t (replD (child v t) ts w) := by
        show (if (child v t).isNon then _ else if (replD (child v t) ts w).isNon then _ else _) = _
        rw [e.some.1, q.some.1]; rfl
      have e2 : replD v (t :: ts) u = withD v t (replD (child v t) ts u) := by
        show (if (child v t).isNon then _ else if (replD (child v t) ts u).isNon then _ else _) = _
        rw [e.some.1, s.some.1]; rfl
      rw [e1, e2]
      show (if (child (withD v t (replD (child v t) ts w)) t).isNon then _ else if (replD (child (withD v t (replD (child v t) ts w)) t) ts u).isNon then _ else withD (withD v t (replD (child v t) ts w)) t (replD (child (withD v t (replD (child v t) ts w)) t) ts u)) = _
      rw [child_with hv htt e.some.2, q.some.1, ih, s.some.1, with_with hv htt e.some.2]
      rfl

theorem repl_same {m : Nat} : ∀ {ts : List D} {v : D}, IsJ m v → (∀ t ∈ ts, IsTok t) → walkD v ts ≠ .non → replD v ts (walkD v ts) = v
  | [], v, _, _, _ => rfl
  | t :: ts, v, hv, ht, hn => by
    have htt := ht t (List.mem_cons_self ..)
    have hts : ∀ t ∈ ts, IsTok t := fun t' h' => ht t' (List.mem_cons_of_mem _ h')
    rw [walkD_cons hv] at hn ⊢
    rcases child_ok hv htt with e | e
    · rw [e, walkD_non] at hn; exact absurd rfl hn
    · show (if (child v t).isNon then _ else if (replD (child v t) ts (walkD (child v t) ts)).isNon then _ else withD v t (replD (child v t) ts (walkD (child v t) ts))) = v
      rw [repl_same e hts hn, e.some.1]
      exact with_same hv htt e.some.2

theorem repl_app {m : Nat} {u : D} : ∀ {a : List D} {v : D} (b : List D), IsJ m v → (∀ t ∈ a, IsTok t) → walkD v a ≠ .non → replD v (a ++ b) u = replD v a (replD (walkD v a) b u)
  | [], v, _, _, _, _ => rfl
  | t :: a, v, b, hv, ht, hn => by
    have htt := ht t (List.mem_cons_self ..)
    rw [walkD_cons hv] at hn ⊢
    rcases child_ok hv htt with e | e
    · rw [e, walkD_non] at hn; exact absurd rfl hn
    · show (if (child v t).isNon then _ else if (replD (child v t) (a ++ b) u).isNon then _ else withD v t (replD (child v t) (a ++ b) u)) = (if (child v t).isNon then _ else if (replD (child v t) a _).isNon then _ else withD v t (replD (child v t) a _))
      rw [repl_app b e (fun t' h' => ht t' (List.mem_cons_of_mem _ h')) hn]
end Row

set_option maxHeartbeats 1000000
namespace Row
open PySem PySem.Spec PyProof.Rows L2 Pk
local macro_rules | `(tactic| walk_at "s") => `(tactic| first
  | with_reducible refine w_seq ?_ | with_reducible refine w_ret ?_ | with_reducible refine w_if ?_ | with_reducible refine w_and ?_ | with_reducible refine w_or ?_ | with_reducible refine w_bd ?_ | with_reducible refine w_rt ?_ | with_reducible refine w_nil ?_
  | ((with_reducible refine' w_ld ?h ?_); (case h => exact rfl)) | ((with_reducible refine' w_own ?h ?_); (case h => exact rfl)) | ((with_reducible refine' w_ldF ?h ?_); (case h => exact rfl)) | ((with_reducible refine' w_nxt ?h ?_); (case h => exact rfl))
  | with_reducible refine w_chain ?_ | with_reducible refine w_andV ?_ | with_reducible refine w_orV ?_ | with_reducible refine p_itT ?_ | with_reducible refine p_itF ?_ | with_reducible refine w_itT ?_ | with_reducible refine w_itF ?_ | with_reducible refine o_asB ?_ | with_reducible refine o_asI ?_ | with_reducible refine o_asS ?_ | with_reducible refine o_truB ?_ | with_reducible refine o_truN ?_ | with_reducible refine o_truT ?_ | with_reducible refine o_truL ?_
  | with_reducible refine o_intI ?_ | with_reducible refine o_intB ?_ | with_reducible refine o_lenT ?_ | with_reducible refine o_lenL ?_ | with_reducible refine o_lenR ?_ | with_reducible refine o_listT ?_ | with_reducible refine o_listL ?_ | with_reducible refine o_tupleT ?_ | with_reducible refine o_tupleL ?_
  | with_reducible refine o_addI ?_ | with_reducible refine o_subI ?_ | with_reducible refine o_negI ?_ | with_reducible refine o_minI ?_ | with_reducible refine o_maxI ?_ | with_reducible refine o_eqI ?_ | with_reducible refine o_neI ?_
  | with_reducible refine o_ltI ?_ | with_reducible refine o_leI ?_ | with_reducible refine o_gtI ?_ | with_reducible refine o_geI ?_ | with_reducible refine o_ltS ?_ | with_reducible refine o_leS ?_ | with_reducible refine o_gtS ?_ | with_reducible refine o_geS ?_ | with_reducible refine o_isN ?_ | with_reducible refine o_isNotN ?_
  | with_reducible refine o_mkT0 ?_ | with_reducible refine o_mkT1 ?_ | with_reducible refine o_mkT2 ?_ | with_reducible refine o_mkT3 ?_ | with_reducible refine o_mkT4 ?_ | with_reducible refine o_mkT5 ?_ | with_reducible refine o_mkL0 ?_ | with_reducible refine o_mkL1 ?_ | with_reducible refine o_mkL2 ?_ | with_reducible refine o_mkL3 ?_ | with_reducible refine o_mkL4 ?_ | with_reducible refine o_seqT ?_ | with_reducible refine o_seqL ?_ | with_reducible refine o_seqR ?_ | with_reducible refine w_itN ?_ | with_reducible refine p_itN ?_ | ((with_reducible refine' o_modI ?h ?_); (case h => decide)) | ((with_reducible refine' o_fdivI ?h ?h2 ?_); (case h => decide); (case h2 => decide)) | ((with_reducible refine' o_powI ?h ?h2 ?h3 ?_); (case h => decide); (case h2 => decide); (case h3 => decide))
  | ((with_reducible refine' o_eqS ?h ?h2 ?_); (case h => first | assumption | exact SOk.str (by assumption) | exact so_list | exact so_object | exact so_null | exact so_bool | exact so_int | exact so_text | exact SOk.str (sok_by (by decide +kernel))); (case h2 => first | assumption | exact SOk.str (by assumption) | exact so_list | exact so_object | exact so_null | exact so_bool | exact so_int | exact so_text | exact SOk.str (sok_by (by decide +kernel)))) | ((with_reducible refine' o_neS ?h ?h2 ?_); (case h => first | assumption | exact SOk.str (by assumption) | exact so_list | exact so_object | exact so_null | exact so_bool | exact so_int | exact so_text | exact SOk.str (sok_by (by decide +kernel))); (case h2 => first | assumption | exact SOk.str (by assumption) | exact so_list | exact so_object | exact so_null | exact so_bool | exact so_int | exact so_text | exact SOk.str (sok_by (by decide +kernel)))) | with_reducible refine o_ixh ?_ | ((with_reducible refine' o_ix ?h ?_); (case h => exact rfl)))
local macro_rules | `(tactic| walk_at "ix") => `(tactic| refine w_of (show ixD _ _ = some _ from rfl) ?_)
local macro_rules | `(tactic| walk_at "go") => `(tactic| (repeat walk_at "s"))
local macro_rules | `(tactic| walk_at "e1") => `(tactic| refine w_env (r' := [_]) rfl ?_)
local macro_rules | `(tactic| walk_at "e2") => `(tactic| refine w_env (r' := [_, _]) rfl ?_)
local macro_rules | `(tactic| walk_at "e3") => `(tactic| refine w_env (r' := [_, _, _]) rfl ?_)
local macro_rules | `(tactic| walk_at "e4") => `(tactic| refine w_env (r' := [_, _, _, _]) rfl ?_)
local macro_rules | `(tactic| walk_at "e") => `(tactic| first | refine w_env (r' := [_]) rfl ?_ | refine w_env (r' := [_, _]) rfl ?_ | refine w_env (r' := [_, _, _]) rfl ?_ | refine w_env (r' := [_, _, _, _]) rfl ?_ | refine w_env (r' := [_, _, _, _, _]) rfl ?_ | refine w_env (r' := [_, _, _, _, _, _]) rfl ?_ | refine w_env (r' := [_, _, _, _, _, _, _]) rfl ?_ | refine w_env (r' := [_, _, _, _, _, _, _, _]) rfl ?_ | refine w_env (r' := [_, _, _, _, _, _, _, _, _]) rfl ?_ | refine w_env (r' := [_, _, _, _, _, _, _, _, _, _]) rfl ?_ | refine w_env (r' := [_, _, _, _, _, _, _, _, _, _, _]) rfl ?_ | refine w_env (r' := [_, _, _, _, _, _, _, _, _, _, _, _]) rfl ?_)
local macro_rules | `(tactic| walk_at "br") => `(tactic| first | refine w_itD (fun hb => ?_) (fun hb => ?_) | refine w_itE (fun hb => ?_) (fun hb => ?_) | refine p_itD (fun hb => ?_) (fun hb => ?_) | refine p_itE (fun hb => ?_) (fun hb => ?_))
local macro_rules | `(tactic| walk_at "lit") => `(tactic| first | ((with_reducible refine' w_ifT ?h ?_); (case h => exact rfl)) | ((with_reducible refine' w_ifF ?h ?_); (case h => exact rfl)) | ((with_reducible refine' p_ifT ?h ?_); (case h => exact rfl)) | ((with_reducible refine' p_ifF ?h ?_); (case h => exact rfl)))
local macro_rules | `(tactic| walk_at "gl") => `(tactic| (repeat (first | walk_at "s" | walk_at "lit")))
theorem nd2 {i j : Nat} (h : (i == j) = false := by rfl) : [i, j].Nodup := by
  simp at h; simp [h]

def IsBd (d : D) : Prop := d = .non ∨ ∃ i : Int, d = .int i

inductive Sch : Nat → D → Prop where
  | any {n : Nat} : Sch (n + 1) (.tup [.str (Str.ofString "any")])
  | never {n : Nat} : Sch (n + 1) (.tup [.str (Str.ofString "never")])
  | null {n : Nat} : Sch (n + 1) (.tup [.str (Str.ofString "null")])
  | bool {n : Nat} : Sch (n + 1) (.tup [.str (Str.ofString "bool")])
  | int {n : Nat} {lo hi : D} : IsBd lo → IsBd hi → Sch (n + 1) (.tup [.str (Str.ofString "int"), lo, hi])
  | text {n : Nat} {lo hi : D} : IsBd lo → IsBd hi → Sch (n + 1) (.tup [.str (Str.ofString "text"), lo, hi])
  | const {n : Nat} {v : D} : IsJ 6 v → Sch (n + 1) (.tup [.str (Str.ofString "const"), v])
  | list {n : Nat} {s lo hi : D} : Sch n s → IsBd lo → IsBd hi → Sch (n + 1) (.tup [.str (Str.ofString "list"), s, lo, hi])
  | tuple {n : Nat} {ss : List D} : (∀ s ∈ ss, Sch n s) → ss.length ≤ 10 → Sch (n + 1) (.tup [.str (Str.ofString "tuple"), .tup ss])
  | object {n : Nat} {rows : List (Str × D × Bool)} {s : D} : (∀ r ∈ rows, SOk r.1) → (∀ r ∈ rows, Sch n r.2.1) → (rows.map (·.1)).Nodup → rows.length ≤ 10 → Sch n s →
      Sch (n + 1) (.tup [.str (Str.ofString "object"), .tup (rows.map fun r => .tup [.str r.1, r.2.1, .bl r.2.2]), s])
  | either {n : Nat} {ss : List D} : (∀ s ∈ ss, Sch n s) → ss.length ≤ 10 → Sch (n + 1) (.tup [.str (Str.ofString "either"), .tup ss])
  | all {n : Nat} {ss : List D} : (∀ s ∈ ss, Sch n s) → ss.length ≤ 10 → Sch (n + 1) (.tup [.str (Str.ofString "all"), .tup ss])
  | neg {n : Nat} {s : D} : Sch n s → Sch (n + 1) (.tup [.str (Str.ofString "not"), s])

theorem Sch.succ : ∀ {n : Nat} {s : D}, Sch n s → Sch (n + 1) s := fun h => by
  induction h with
  | any => exact .any
  | never => exact .never
  | null => exact .null
  | bool => exact .bool
  | int a b => exact .int a b
  | text a b => exact .text a b
  | const a => exact .const a
  | list _ a b ih => exact .list ih a b
  | tuple _ l ih => exact .tuple ih l
  | object h1 _ h2 h3 _ ih1 ih2 => exact .object h1 ih1 h2 h3 ih2
  | either _ l ih => exact .either ih l
  | all _ l ih => exact .all ih l
  | neg _ ih => exact .neg ih

theorem Sch.le {n m : Nat} {s : D} (h : Sch n s) (hm : n ≤ m) : Sch m s := by
  induction hm with
  | refl => exact h
  | step _ ih => exact ih.succ
end Row

set_option maxHeartbeats 1000000
namespace Row
open PySem PySem.Spec PyProof.Rows L2 Pk
local macro_rules | `(tactic| walk_at "s") => `(tactic| first
  | with_reducible refine w_seq ?_ | with_reducible refine w_ret ?_ | with_reducible refine w_if ?_ | with_reducible refine w_and ?_ | with_reducible refine w_or ?_ | with_reducible refine w_bd ?_ | with_reducible refine w_rt ?_ | with_reducible refine w_nil ?_
  | ((with_reducible refine' w_ld ?h ?_); (case h => exact rfl)) | ((with_reducible refine' w_own ?h ?_); (case h => exact rfl)) | ((with_reducible refine' w_ldF ?h ?_); (case h => exact rfl)) | ((with_reducible refine' w_nxt ?h ?_); (case h => exact rfl))
  | with_reducible refine w_chain ?_ | with_reducible refine w_andV ?_ | with_reducible refine w_orV ?_ | with_reducible refine p_itT ?_ | with_reducible refine p_itF ?_ | with_reducible refine w_itT ?_ | with_reducible refine w_itF ?_ | with_reducible refine o_asB ?_ | with_reducible refine o_asI ?_ | with_reducible refine o_asS ?_ | with_reducible refine o_truB ?_ | with_reducible refine o_truN ?_ | with_reducible refine o_truT ?_ | with_reducible refine o_truL ?_
  | with_reducible refine o_intI ?_ | with_reducible refine o_intB ?_ | with_reducible refine o_lenT ?_ | with_reducible refine o_lenL ?_ | with_reducible refine o_lenR ?_ | with_reducible refine o_listT ?_ | with_reducible refine o_listL ?_ | with_reducible refine o_tupleT ?_ | with_reducible refine o_tupleL ?_
  | with_reducible refine o_addI ?_ | with_reducible refine o_subI ?_ | with_reducible refine o_negI ?_ | with_reducible refine o_minI ?_ | with_reducible refine o_maxI ?_ | with_reducible refine o_eqI ?_ | with_reducible refine o_neI ?_
  | with_reducible refine o_ltI ?_ | with_reducible refine o_leI ?_ | with_reducible refine o_gtI ?_ | with_reducible refine o_geI ?_ | with_reducible refine o_ltS ?_ | with_reducible refine o_leS ?_ | with_reducible refine o_gtS ?_ | with_reducible refine o_geS ?_ | with_reducible refine o_isN ?_ | with_reducible refine o_isNotN ?_
  | with_reducible refine o_mkT0 ?_ | with_reducible refine o_mkT1 ?_ | with_reducible refine o_mkT2 ?_ | with_reducible refine o_mkT3 ?_ | with_reducible refine o_mkT4 ?_ | with_reducible refine o_mkT5 ?_ | with_reducible refine o_mkL0 ?_ | with_reducible refine o_mkL1 ?_ | with_reducible refine o_mkL2 ?_ | with_reducible refine o_mkL3 ?_ | with_reducible refine o_mkL4 ?_ | with_reducible refine o_seqT ?_ | with_reducible refine o_seqL ?_ | with_reducible refine o_seqR ?_ | with_reducible refine w_itN ?_ | with_reducible refine p_itN ?_ | ((with_reducible refine' o_modI ?h ?_); (case h => decide)) | ((with_reducible refine' o_fdivI ?h ?h2 ?_); (case h => decide); (case h2 => decide)) | ((with_reducible refine' o_powI ?h ?h2 ?h3 ?_); (case h => decide); (case h2 => decide); (case h3 => decide))
  | ((with_reducible refine' o_eqS ?h ?h2 ?_); (case h => first | assumption | exact SOk.str (by assumption) | exact so_list | exact so_object | exact so_null | exact so_bool | exact so_int | exact so_text | exact SOk.str (sok_by (by decide +kernel))); (case h2 => first | assumption | exact SOk.str (by assumption) | exact so_list | exact so_object | exact so_null | exact so_bool | exact so_int | exact so_text | exact SOk.str (sok_by (by decide +kernel)))) | ((with_reducible refine' o_neS ?h ?h2 ?_); (case h => first | assumption | exact SOk.str (by assumption) | exact so_list | exact so_object | exact so_null | exact so_bool | exact so_int | exact so_text | exact SOk.str (sok_by (by decide +kernel))); (case h2 => first | assumption | exact SOk.str (by assumption) | exact so_list | exact so_object | exact so_null | exact so_bool | exact so_int | exact so_text | exact SOk.str (sok_by (by decide +kernel)))) | with_reducible refine o_ixh ?_ | ((with_reducible refine' o_ix ?h ?_); (case h => exact rfl)))
local macro_rules | `(tactic| walk_at "ix") => `(tactic| refine w_of (show ixD _ _ = some _ from rfl) ?_)
local macro_rules | `(tactic| walk_at "go") => `(tactic| (repeat walk_at "s"))
local macro_rules | `(tactic| walk_at "e1") => `(tactic| refine w_env (r' := [_]) rfl ?_)
local macro_rules | `(tactic| walk_at "e2") => `(tactic| refine w_env (r' := [_, _]) rfl ?_)
local macro_rules | `(tactic| walk_at "e3") => `(tactic| refine w_env (r' := [_, _, _]) rfl ?_)
local macro_rules | `(tactic| walk_at "e4") => `(tactic| refine w_env (r' := [_, _, _, _]) rfl ?_)
local macro_rules | `(tactic| walk_at "e") => `(tactic| first | refine w_env (r' := [_]) rfl ?_ | refine w_env (r' := [_, _]) rfl ?_ | refine w_env (r' := [_, _, _]) rfl ?_ | refine w_env (r' := [_, _, _, _]) rfl ?_ | refine w_env (r' := [_, _, _, _, _]) rfl ?_ | refine w_env (r' := [_, _, _, _, _, _]) rfl ?_ | refine w_env (r' := [_, _, _, _, _, _, _]) rfl ?_ | refine w_env (r' := [_, _, _, _, _, _, _, _]) rfl ?_ | refine w_env (r' := [_, _, _, _, _, _, _, _, _]) rfl ?_ | refine w_env (r' := [_, _, _, _, _, _, _, _, _, _]) rfl ?_ | refine w_env (r' := [_, _, _, _, _, _, _, _, _, _, _]) rfl ?_ | refine w_env (r' := [_, _, _, _, _, _, _, _, _, _, _, _]) rfl ?_)
local macro_rules | `(tactic| walk_at "br") => `(tactic| first | refine w_itD (fun hb => ?_) (fun hb => ?_) | refine w_itE (fun hb => ?_) (fun hb => ?_) | refine p_itD (fun hb => ?_) (fun hb => ?_) | refine p_itE (fun hb => ?_) (fun hb => ?_))
local macro_rules | `(tactic| walk_at "lit") => `(tactic| first | ((with_reducible refine' w_ifT ?h ?_); (case h => exact rfl)) | ((with_reducible refine' w_ifF ?h ?_); (case h => exact rfl)) | ((with_reducible refine' p_ifT ?h ?_); (case h => exact rfl)) | ((with_reducible refine' p_ifF ?h ?_); (case h => exact rfl)))
local macro_rules | `(tactic| walk_at "gl") => `(tactic| (repeat (first | walk_at "s" | walk_at "lit")))
def rowD (r : Str × D × Bool) : D := .tup [.str r.1, r.2.1, .bl r.2.2]

def SC : Nat → Nat
  | 0 => 1000
  | n + 1 => 5 * SC n

theorem SC_ge : ∀ n, 1000 ≤ SC n
  | 0 => Nat.le_refl _
  | n + 1 => by have := SC_ge n; unfold SC; omega

theorem SC_le {m n : Nat} (h : m ≤ n) : SC m ≤ SC n := by
  induction h with
  | refl => exact Nat.le_refl _
  | @step k _ ih =>
    show SC m ≤ SC (k + 1)
    have : SC (k + 1) = 5 * SC k := rfl
    omega

def nameOf : D → D
  | .tup (.str y :: _) => .str y
  | _ => .non

theorem any_name {rows : List (Str × D × Bool)} {y : Str} : ((rows.map fun r => D.str r.1).any fun z => eqv z (.str y)) = decide (y ∈ rows.map (·.1)) := by
  induction rows with
  | nil => rfl
  | cons r rows ih =>
    rw [List.map_cons, List.any_cons, ih, List.map_cons, eqv_str]
    by_cases h : r.1 = y
    · subst h; simp
    · have h2 : (r.1 == y) = false := by simpa using h
      have h3 : y ≠ r.1 := fun e => h e.symm
      rw [h2]; simp [h3]

theorem okIn_names {rows : List (Str × D × Bool)} {y : Str} (hy : SOk y) (h : ∀ r ∈ rows, SOk r.1) : okIn (.str y) (rows.map fun r => D.str r.1) = true := by
  unfold okIn
  rw [Bool.and_eq_true, Bool.and_eq_true]
  refine ⟨⟨by rw [D.py]; exact hy.str, ?_⟩, by rw [D.py]; simp [PyData.depth]⟩
  rw [pys_map, List.map_map]
  refine can_all fun x hx => ?_
  obtain ⟨r, hr, rfl⟩ := List.mem_map.mp hx
  show (D.py (.str r.1)).canLay0 = true
  rw [D.py]; exact (h r hr).str
end Row

set_option maxHeartbeats 1000000
namespace Row
open PySem PySem.Spec PyProof.Rows L2 Pk
local macro_rules | `(tactic| walk_at "s") => `(tactic| first
  | with_reducible refine w_seq ?_ | with_reducible refine w_ret ?_ | with_reducible refine w_if ?_ | with_reducible refine w_and ?_ | with_reducible refine w_or ?_ | with_reducible refine w_bd ?_ | with_reducible refine w_rt ?_ | with_reducible refine w_nil ?_
  | ((with_reducible refine' w_ld ?h ?_); (case h => exact rfl)) | ((with_reducible refine' w_own ?h ?_); (case h => exact rfl)) | ((with_reducible refine' w_ldF ?h ?_); (case h => exact rfl)) | ((with_reducible refine' w_nxt ?h ?_); (case h => exact rfl))
  | with_reducible refine w_chain ?_ | with_reducible refine w_andV ?_ | with_reducible refine w_orV ?_ | with_reducible refine p_itT ?_ | with_reducible refine p_itF ?_ | with_reducible refine w_itT ?_ | with_reducible refine w_itF ?_ | with_reducible refine o_asB ?_ | with_reducible refine o_asI ?_ | with_reducible refine o_asS ?_ | with_reducible refine o_truB ?_ | with_reducible refine o_truN ?_ | with_reducible refine o_truT ?_ | with_reducible refine o_truL ?_
  | with_reducible refine o_intI ?_ | with_reducible refine o_intB ?_ | with_reducible refine o_lenT ?_ | with_reducible refine o_lenL ?_ | with_reducible refine o_lenR ?_ | with_reducible refine o_listT ?_ | with_reducible refine o_listL ?_ | with_reducible refine o_tupleT ?_ | with_reducible refine o_tupleL ?_
  | with_reducible refine o_addI ?_ | with_reducible refine o_subI ?_ | with_reducible refine o_negI ?_ | with_reducible refine o_minI ?_ | with_reducible refine o_maxI ?_ | with_reducible refine o_eqI ?_ | with_reducible refine o_neI ?_
  | with_reducible refine o_ltI ?_ | with_reducible refine o_leI ?_ | with_reducible refine o_gtI ?_ | with_reducible refine o_geI ?_ | with_reducible refine o_ltS ?_ | with_reducible refine o_leS ?_ | with_reducible refine o_gtS ?_ | with_reducible refine o_geS ?_ | with_reducible refine o_isN ?_ | with_reducible refine o_isNotN ?_
  | with_reducible refine o_mkT0 ?_ | with_reducible refine o_mkT1 ?_ | with_reducible refine o_mkT2 ?_ | with_reducible refine o_mkT3 ?_ | with_reducible refine o_mkT4 ?_ | with_reducible refine o_mkT5 ?_ | with_reducible refine o_mkL0 ?_ | with_reducible refine o_mkL1 ?_ | with_reducible refine o_mkL2 ?_ | with_reducible refine o_mkL3 ?_ | with_reducible refine o_mkL4 ?_ | with_reducible refine o_seqT ?_ | with_reducible refine o_seqL ?_ | with_reducible refine o_seqR ?_ | with_reducible refine w_itN ?_ | with_reducible refine p_itN ?_ | ((with_reducible refine' o_modI ?h ?_); (case h => decide)) | ((with_reducible refine' o_fdivI ?h ?h2 ?_); (case h => decide); (case h2 => decide)) | ((with_reducible refine' o_powI ?h ?h2 ?h3 ?_); (case h => decide); (case h2 => decide); (case h3 => decide))
  | ((with_reducible refine' o_eqS ?h ?h2 ?_); (case h => first | assumption | exact SOk.str (by assumption) | exact so_list | exact so_object | exact so_null | exact so_bool | exact so_int | exact so_text | exact SOk.str (sok_by (by decide +kernel))); (case h2 => first | assumption | exact SOk.str (by assumption) | exact so_list | exact so_object | exact so_null | exact so_bool | exact so_int | exact so_text | exact SOk.str (sok_by (by decide +kernel)))) | ((with_reducible refine' o_neS ?h ?h2 ?_); (case h => first | assumption | exact SOk.str (by assumption) | exact so_list | exact so_object | exact so_null | exact so_bool | exact so_int | exact so_text | exact SOk.str (sok_by (by decide +kernel))); (case h2 => first | assumption | exact SOk.str (by assumption) | exact so_list | exact so_object | exact so_null | exact so_bool | exact so_int | exact so_text | exact SOk.str (sok_by (by decide +kernel)))) | with_reducible refine o_ixh ?_ | ((with_reducible refine' o_ix ?h ?_); (case h => exact rfl)))
local macro_rules | `(tactic| walk_at "ix") => `(tactic| refine w_of (show ixD _ _ = some _ from rfl) ?_)
local macro_rules | `(tactic| walk_at "go") => `(tactic| (repeat walk_at "s"))
local macro_rules | `(tactic| walk_at "e1") => `(tactic| refine w_env (r' := [_]) rfl ?_)
local macro_rules | `(tactic| walk_at "e2") => `(tactic| refine w_env (r' := [_, _]) rfl ?_)
local macro_rules | `(tactic| walk_at "e3") => `(tactic| refine w_env (r' := [_, _, _]) rfl ?_)
local macro_rules | `(tactic| walk_at "e4") => `(tactic| refine w_env (r' := [_, _, _, _]) rfl ?_)
local macro_rules | `(tactic| walk_at "e") => `(tactic| first | refine w_env (r' := [_]) rfl ?_ | refine w_env (r' := [_, _]) rfl ?_ | refine w_env (r' := [_, _, _]) rfl ?_ | refine w_env (r' := [_, _, _, _]) rfl ?_ | refine w_env (r' := [_, _, _, _, _]) rfl ?_ | refine w_env (r' := [_, _, _, _, _, _]) rfl ?_ | refine w_env (r' := [_, _, _, _, _, _, _]) rfl ?_ | refine w_env (r' := [_, _, _, _, _, _, _, _]) rfl ?_ | refine w_env (r' := [_, _, _, _, _, _, _, _, _]) rfl ?_ | refine w_env (r' := [_, _, _, _, _, _, _, _, _, _]) rfl ?_ | refine w_env (r' := [_, _, _, _, _, _, _, _, _, _, _]) rfl ?_ | refine w_env (r' := [_, _, _, _, _, _, _, _, _, _, _, _]) rfl ?_)
local macro_rules | `(tactic| walk_at "br") => `(tactic| first | refine w_itD (fun hb => ?_) (fun hb => ?_) | refine w_itE (fun hb => ?_) (fun hb => ?_) | refine p_itD (fun hb => ?_) (fun hb => ?_) | refine p_itE (fun hb => ?_) (fun hb => ?_))
local macro_rules | `(tactic| walk_at "lit") => `(tactic| first | ((with_reducible refine' w_ifT ?h ?_); (case h => exact rfl)) | ((with_reducible refine' w_ifF ?h ?_); (case h => exact rfl)) | ((with_reducible refine' p_ifT ?h ?_); (case h => exact rfl)) | ((with_reducible refine' p_ifF ?h ?_); (case h => exact rfl)))
local macro_rules | `(tactic| walk_at "gl") => `(tactic| (repeat (first | walk_at "s" | walk_at "lit")))
instance inhD : Inhabited D := ⟨.non⟩
/-! reading data -/

def kd : D → Str
  | .tup (.str k :: _) => k
  | _ => Str.ofString ""

def nth (d : D) (i : Nat) : D := match d with
  | .tup ds => ds.getD i .non
  | _ => .non

def its : D → List D
  | .tup ds => ds
  | _ => []

structure KJ (n : Nat) (k : Str) (r : List D) : Prop where
  ok : PyData.strOk k = true
  int : (k == Str.ofString "int") = true → ∃ i : Int, r = [.int i]
  text : (k == Str.ofString "text") = true → ∃ x, SOk x ∧ r = [.str x]
  bool : (k == Str.ofString "bool") = true → ∃ b, r = [.bl b]
  list : (k == Str.ofString "list") = true → ∃ ds, r = [.tup ds] ∧ ds.length ≤ 400 + min n 100 ∧ ∀ e ∈ ds, IsJ n e
  obj : (k == Str.ofString "object") = true → ∃ fs : List (Str × D), r = [.tup (fs.map fD)] ∧ fs.length ≤ 400 + min n 100 ∧ FOk n fs

theorem kj {n : Nat} {v : D} (h : IsJ n v) : ∃ k r, v = .tup (.str k :: r) ∧ KJ (n - 1) k r := by
  cases n with
  | zero => exact h.elim
  | succ n =>
    have no : ∀ {a b : String} {P : Prop}, (Str.ofString a == Str.ofString b) = false → (Str.ofString a == Str.ofString b) = true → P := fun e z => by rw [e] at z; cases z
    rcases h with rfl | ⟨b, rfl⟩ | ⟨i, rfl⟩ | ⟨x, hx, rfl⟩ | ⟨ds, hl, hd, rfl⟩ | ⟨fs, hl, hf, hp, rfl⟩
    · exact ⟨_, _, rfl, so_null, no rfl, no rfl, no rfl, no rfl, no rfl⟩
    · exact ⟨_, _, rfl, so_bool, no rfl, no rfl, fun _ => ⟨b, rfl⟩, no rfl, no rfl⟩
    · exact ⟨_, _, rfl, so_int, fun _ => ⟨i, rfl⟩, no rfl, no rfl, no rfl, no rfl⟩
    · exact ⟨_, _, rfl, so_text, no rfl, fun _ => ⟨x, hx, rfl⟩, no rfl, no rfl, no rfl⟩
    · exact ⟨_, _, rfl, so_list, no rfl, no rfl, no rfl, fun _ => ⟨ds, rfl, hl, hd⟩, no rfl⟩
    · exact ⟨_, _, rfl, so_object, no rfl, no rfl, no rfl, no rfl, fun _ => ⟨fs, rfl, hl, hf, hp⟩⟩
/-! what validity is -/

def betw (i : Int) (lo hi : D) : Bool := (match lo with | .int a => decide (a ≤ i) | _ => true) && (match hi with | .int a => decide (i ≤ a) | _ => true)

def innerOf (rows : List D) (s : D) (x : Str) : D := rows.foldl (fun acc row => if kd row == x then nth row 1 else acc) s

def notReq (row : D) : Bool := match nth row 2 with
  | .bl true => false
  | _ => true

def fieldsF (V : D → D → Bool) (rows : List D) (s : D) (fs : List D) : Bool :=
  (rows.all fun row => notReq row || !(findD (kd row) fs).isNon) && fs.all fun f => V (innerOf rows s (kd f)) (nth f 1)

def strLen : D → Int
  | .str x => x.length
  | _ => 0

def intOf : D → Int
  | .int i => i
  | _ => 0

def validF : Nat → D → D → Bool
  | 0, _, _ => false
  | n + 1, s, v =>
    if kd s == Str.ofString "any" then true else if kd s == Str.ofString "never" then false
    else if kd s == Str.ofString "const" then eqv v (nth s 1)
    else if kd s == Str.ofString "either" then (its (nth s 1)).any fun t => validF n t v
    else if kd s == Str.ofString "all" then (its (nth s 1)).all fun t => validF n t v
    else if kd s == Str.ofString "not" then !validF n (nth s 1) v
    else if kd s == Str.ofString "null" then kd v == Str.ofString "null"
    else if kd s == Str.ofString "bool" then kd v == Str.ofString "bool"
    else if kd s == Str.ofString "int" then kd v == Str.ofString "int" && betw (intOf (nth v 1)) (nth s 1) (nth s 2)
    else if kd s == Str.ofString "text" then kd v == Str.ofString "text" && betw (strLen (nth v 1)) (nth s 1) (nth s 2)
    else if kd s == Str.ofString "list" then kd v == Str.ofString "list" && betw (its (nth v 1)).length (nth s 2) (nth s 3) && (its (nth v 1)).all fun e => validF n (nth s 1) e
    else if kd s == Str.ofString "tuple" then kd v == Str.ofString "list" && (its (nth v 1)).length == (its (nth s 1)).length && ((its (nth s 1)).zip (its (nth v 1))).all fun p => validF n p.1 p.2
    else kd v == Str.ofString "object" && fieldsF (validF n) (its (nth s 1)) (nth s 2) (its (nth v 1))

theorem bools_map {α : Type} (p : α → Bool) : ∀ xs : List α, bools (xs.map fun x => .bl (p x)) = some (xs.map p)
  | [] => rfl
  | x :: xs => by simp only [List.map_cons, bools, bools_map p xs]; rfl

theorem all_map {α : Type} (p : α → Bool) (xs : List α) : allD [.lst (xs.map fun x => .bl (p x))] = some (.bl (xs.all p)) := by
  simp only [allD, bools_map p xs, Option.map_some, List.all_map]; rfl

theorem any_map {α : Type} (p : α → Bool) (xs : List α) : anyD [.lst (xs.map fun x => .bl (p x))] = some (.bl (xs.any p)) := by
  simp only [anyD, bools_map p xs, Option.map_some, List.any_map]; rfl

theorem eq_const {n m : Nat} {v c : D} (h : IsJ n v) (hc : IsJ m c) (hm : m ≤ 60) : eqD v c = some (.bl (eqv v c)) := by
  obtain ⟨h1, h2⟩ := py_ok h
  obtain ⟨g1, g2⟩ := py_ok hc
  unfold eqD okEq
  rw [h1, g1, if_pos (by simp; omega)]

theorem row_at {r : Str × D × Bool} : kd (rowD r) = r.1 ∧ nth (rowD r) 1 = r.2.1 ∧ nth (rowD r) 2 = .bl r.2.2 := ⟨rfl, rfl, rfl⟩
end Row

set_option maxHeartbeats 1000000
namespace Row
open PySem PySem.Spec PyProof.Rows L2 Pk
local macro_rules | `(tactic| walk_at "s") => `(tactic| first
  | with_reducible refine w_seq ?_ | with_reducible refine w_ret ?_ | with_reducible refine w_if ?_ | with_reducible refine w_and ?_ | with_reducible refine w_or ?_ | with_reducible refine w_bd ?_ | with_reducible refine w_rt ?_ | with_reducible refine w_nil ?_
  | ((with_reducible refine' w_ld ?h ?_); (case h => exact rfl)) | ((with_reducible refine' w_own ?h ?_); (case h => exact rfl)) | ((with_reducible refine' w_ldF ?h ?_); (case h => exact rfl)) | ((with_reducible refine' w_nxt ?h ?_); (case h => exact rfl))
  | with_reducible refine w_chain ?_ | with_reducible refine w_andV ?_ | with_reducible refine w_orV ?_ | with_reducible refine p_itT ?_ | with_reducible refine p_itF ?_ | with_reducible refine w_itT ?_ | with_reducible refine w_itF ?_ | with_reducible refine o_asB ?_ | with_reducible refine o_asI ?_ | with_reducible refine o_asS ?_ | with_reducible refine o_truB ?_ | with_reducible refine o_truN ?_ | with_reducible refine o_truT ?_ | with_reducible refine o_truL ?_
  | with_reducible refine o_intI ?_ | with_reducible refine o_intB ?_ | with_reducible refine o_lenT ?_ | with_reducible refine o_lenL ?_ | with_reducible refine o_lenR ?_ | with_reducible refine o_listT ?_ | with_reducible refine o_listL ?_ | with_reducible refine o_tupleT ?_ | with_reducible refine o_tupleL ?_
  | with_reducible refine o_addI ?_ | with_reducible refine o_subI ?_ | with_reducible refine o_negI ?_ | with_reducible refine o_minI ?_ | with_reducible refine o_maxI ?_ | with_reducible refine o_eqI ?_ | with_reducible refine o_neI ?_
  | with_reducible refine o_ltI ?_ | with_reducible refine o_leI ?_ | with_reducible refine o_gtI ?_ | with_reducible refine o_geI ?_ | with_reducible refine o_ltS ?_ | with_reducible refine o_leS ?_ | with_reducible refine o_gtS ?_ | with_reducible refine o_geS ?_ | with_reducible refine o_isN ?_ | with_reducible refine o_isNotN ?_
  | with_reducible refine o_mkT0 ?_ | with_reducible refine o_mkT1 ?_ | with_reducible refine o_mkT2 ?_ | with_reducible refine o_mkT3 ?_ | with_reducible refine o_mkT4 ?_ | with_reducible refine o_mkT5 ?_ | with_reducible refine o_mkL0 ?_ | with_reducible refine o_mkL1 ?_ | with_reducible refine o_mkL2 ?_ | with_reducible refine o_mkL3 ?_ | with_reducible refine o_mkL4 ?_ | with_reducible refine o_seqT ?_ | with_reducible refine o_seqL ?_ | with_reducible refine o_seqR ?_ | with_reducible refine w_itN ?_ | with_reducible refine p_itN ?_ | ((with_reducible refine' o_modI ?h ?_); (case h => decide)) | ((with_reducible refine' o_fdivI ?h ?h2 ?_); (case h => decide); (case h2 => decide)) | ((with_reducible refine' o_powI ?h ?h2 ?h3 ?_); (case h => decide); (case h2 => decide); (case h3 => decide))
  | ((with_reducible refine' o_eqS ?h ?h2 ?_); (case h => first | assumption | exact SOk.str (by assumption) | exact so_list | exact so_object | exact so_null | exact so_bool | exact so_int | exact so_text | exact SOk.str (sok_by (by decide +kernel))); (case h2 => first | assumption | exact SOk.str (by assumption) | exact so_list | exact so_object | exact so_null | exact so_bool | exact so_int | exact so_text | exact SOk.str (sok_by (by decide +kernel)))) | ((with_reducible refine' o_neS ?h ?h2 ?_); (case h => first | assumption | exact SOk.str (by assumption) | exact so_list | exact so_object | exact so_null | exact so_bool | exact so_int | exact so_text | exact SOk.str (sok_by (by decide +kernel))); (case h2 => first | assumption | exact SOk.str (by assumption) | exact so_list | exact so_object | exact so_null | exact so_bool | exact so_int | exact so_text | exact SOk.str (sok_by (by decide +kernel)))) | with_reducible refine o_ixh ?_ | ((with_reducible refine' o_ix ?h ?_); (case h => exact rfl)))
local macro_rules | `(tactic| walk_at "ix") => `(tactic| refine w_of (show ixD _ _ = some _ from rfl) ?_)
local macro_rules | `(tactic| walk_at "go") => `(tactic| (repeat walk_at "s"))
local macro_rules | `(tactic| walk_at "e1") => `(tactic| refine w_env (r' := [_]) rfl ?_)
local macro_rules | `(tactic| walk_at "e2") => `(tactic| refine w_env (r' := [_, _]) rfl ?_)
local macro_rules | `(tactic| walk_at "e3") => `(tactic| refine w_env (r' := [_, _, _]) rfl ?_)
local macro_rules | `(tactic| walk_at "e4") => `(tactic| refine w_env (r' := [_, _, _, _]) rfl ?_)
local macro_rules | `(tactic| walk_at "e") => `(tactic| first | refine w_env (r' := [_]) rfl ?_ | refine w_env (r' := [_, _]) rfl ?_ | refine w_env (r' := [_, _, _]) rfl ?_ | refine w_env (r' := [_, _, _, _]) rfl ?_ | refine w_env (r' := [_, _, _, _, _]) rfl ?_ | refine w_env (r' := [_, _, _, _, _, _]) rfl ?_ | refine w_env (r' := [_, _, _, _, _, _, _]) rfl ?_ | refine w_env (r' := [_, _, _, _, _, _, _, _]) rfl ?_ | refine w_env (r' := [_, _, _, _, _, _, _, _, _]) rfl ?_ | refine w_env (r' := [_, _, _, _, _, _, _, _, _, _]) rfl ?_ | refine w_env (r' := [_, _, _, _, _, _, _, _, _, _, _]) rfl ?_ | refine w_env (r' := [_, _, _, _, _, _, _, _, _, _, _, _]) rfl ?_)
local macro_rules | `(tactic| walk_at "br") => `(tactic| first | refine w_itD (fun hb => ?_) (fun hb => ?_) | refine w_itE (fun hb => ?_) (fun hb => ?_) | refine p_itD (fun hb => ?_) (fun hb => ?_) | refine p_itE (fun hb => ?_) (fun hb => ?_))
local macro_rules | `(tactic| walk_at "lit") => `(tactic| first | ((with_reducible refine' w_ifT ?h ?_); (case h => exact rfl)) | ((with_reducible refine' w_ifF ?h ?_); (case h => exact rfl)) | ((with_reducible refine' p_ifT ?h ?_); (case h => exact rfl)) | ((with_reducible refine' p_ifF ?h ?_); (case h => exact rfl)))
local macro_rules | `(tactic| walk_at "gl") => `(tactic| (repeat (first | walk_at "s" | walk_at "lit")))
theorem IsJ.pos {n : Nat} {v : D} (h : IsJ n v) : 1 ≤ n := by
  cases n with
  | zero => exact h.elim
  | succ n => omega

theorem child_tight {n : Nat} {v t : D} (h : IsJ n v) (ht : IsTok t) : child v t = .non ∨ IsJ (n - 1) (child v t) := by
  by_cases hc : child v t = .non
  · exact .inl hc
  · right
    rcases leads h ht hc with ⟨ds, i, rfl, rfl, h0, h1, hl, hd⟩ | ⟨fs, x, rfl, rfl, hx, hl, hf, hm⟩
    · rw [child_list, if_pos ⟨h0, h1⟩]
      have hlt : i.toNat < ds.length := by omega
      rw [List.getD_eq_getElem?_getD, List.getElem?_eq_getElem hlt]
      exact hd _ (List.getElem_mem hlt)
    · rw [child_obj] at hc ⊢
      rcases findD_ok (x := x) (fs := fs) (m := n - 1) (fun f hf' => (hf.1 f hf').2) with e | e
      · exact absurd e hc
      · exact e

theorem walk_tight {n : Nat} : ∀ {ts : List D} {v : D}, IsJ n v → (∀ t ∈ ts, IsTok t) → walkD v ts = .non ∨ (IsJ (n - ts.length) (walkD v ts) ∧ ts.length < n)
  | [], v, h, _ => .inr ⟨h, h.pos⟩
  | t :: ts, v, h, ht => by
    rw [walkD_cons h]
    rcases child_tight h (ht t (List.mem_cons_self ..)) with e | e
    · rw [e, walkD_non]; exact .inl rfl
    · rcases walk_tight e (fun t' h' => ht t' (List.mem_cons_of_mem _ h')) with q | ⟨q, hl⟩
      · exact .inl q
      · right
        rw [List.length_cons]
        exact ⟨q.le (by omega), by omega⟩

theorem with_tight {m : Nat} {v t w : D} (hv : IsJ m v) (ht : IsTok t) (hc : child v t ≠ .non) (hw : IsJ (m - 1) w) : IsJ m (withD v t w) := by
  have hp := hv.pos
  rcases leads hv ht hc with ⟨ds, i, rfl, rfl, h0, h1, hl, hd⟩ | ⟨fs, x, rfl, rfl, hx, hl, hf, hm⟩
  · rw [withD_list]
    have := IsJ.list (n := m - 1) (ds := ds.take i.toNat ++ [w] ++ ds.drop (i.toNat + 1)) (fun e he => ?_) ?_
    · exact this.le (by omega)
    · rcases List.mem_append.mp he with he | he
      · rcases List.mem_append.mp he with he | he
        · exact hd e (List.mem_of_mem_take he)
        · simp at he; subst he; exact hw
      · exact hd e (List.mem_of_mem_drop he)
    · rw [List.length_append, List.length_append, List.length_singleton, List.length_take, List.length_drop]
      omega
  · rw [withD_obj]
    have := IsJ.obj (n := m - 1) (ins_ok hf hx hw) (Nat.le_trans (ins_same hf hm) hl)
    exact this.le (by omega)

theorem repl_tight {b : Nat} {w : D} (hw : IsJ b w) : ∀ {ts : List D} {n : Nat} {v : D}, IsJ n v → (∀ t ∈ ts, IsTok t) → b + ts.length ≤ n → replD v ts w = .non ∨ IsJ n (replD v ts w)
  | [], n, v, h, _, hl => .inr (hw.le (by simpa using hl))
  | t :: ts, n, v, h, ht, hl => by
    have htt := ht t (List.mem_cons_self ..)
    rw [List.length_cons] at hl
    unfold replD
    rcases child_tight h htt with e | e
    · rw [e]; exact .inl rfl
    · rw [e.some.1]
      rcases repl_tight hw e (fun t' h' => ht t' (List.mem_cons_of_mem _ h')) (by omega) with q | q
      · rw [q]; exact .inl rfl
      · rw [q.some.1]
        exact .inr (with_tight h htt e.some.2 q)

theorem put_tight {n b : Nat} {v t w : D} {t0 : List D} (hv : IsJ n v) (ht0 : ∀ t ∈ t0, IsTok t) (ht : IsTok t) (hw : IsJ b w) (hB : max n b < 99) : putR v t0 t w = .non ∨ IsJ (max n (b + t0.length) + 1) (putR v t0 t w) := by
  unfold putR
  rcases walk_tight hv ht0 with e | ⟨e, hl⟩
  · rw [e]; exact .inl rfl
  · rw [e.some.1]
    rcases putD_ok (B := max (n - t0.length) b) e ht (hw.le (by omega)) (by omega) (by omega) with q | q
    · rw [q]; exact .inl rfl
    · rw [q.some.1]
      exact repl_tight q (hv.le (by omega)) ht0 (by omega)

theorem take_tight {n : Nat} {v t : D} {t0 : List D} (hv : IsJ n v) (ht0 : ∀ t ∈ t0, IsTok t) (ht : IsTok t) : takeD v t0 t = .non ∨ IsJ n (takeD v t0 t) := by
  unfold takeD
  rcases walkD_ok hv (IsTok.app ht0 ht) with e | e
  · rw [e]; exact .inl rfl
  · rw [e.some.1]
    obtain ⟨_, h2⟩ := on_way hv ht0 e
    rcases walk_tight hv ht0 with q | ⟨q, hl⟩
    · exfalso
      rw [q] at h2
      exact h2 (by cases t <;> rfl)
    · exact repl_tight (dropD_ok q ht h2) hv ht0 (by omega)
/-! paths as a whole -/

def IsPath (p : D) : Prop := ∃ ts, p = .tup ts ∧ (∀ t ∈ ts, IsTok t) ∧ ts.length ≤ 6

def lookF (v p : D) : D := walkD v (its p)

def replF (v p w : D) : D := replD v (its p) w

def lastD (ts : List D) : D := ts.getD (ts.length - 1) .non

def putF (v p w : D) : D := if (its p).isEmpty then w else putR v (its p).dropLast (lastD (its p)) w

def takeF (v p : D) : D := if (its p).isEmpty then .non else takeD v (its p).dropLast (lastD (its p))

theorem split_last {ts : List D} (h : ts.isEmpty = false) : ∃ t0 t, ts = t0 ++ [t] ∧ ts.dropLast = t0 ∧ lastD ts = t := by
  have hne : ts ≠ [] := by intro e; rw [e] at h; cases h
  refine ⟨ts.dropLast, ts.getLast hne, (List.dropLast_concat_getLast hne).symm, rfl, ?_⟩
  unfold lastD
  rw [List.getD_eq_getElem?_getD, ← List.getLast?_eq_getElem?, List.getLast?_eq_some_getLast hne]; rfl

theorem lookF_ok {n : Nat} {v p : D} (hv : IsJ n v) (hp : IsPath p) : lookF v p = .non ∨ IsJ n (lookF v p) := by
  obtain ⟨ts, rfl, h, _⟩ := hp
  exact walkD_ok hv h

theorem replF_ok {n b : Nat} {v p w : D} (hv : IsJ n v) (hp : IsPath p) (hw : IsJ b w) : replF v p w = .non ∨ IsJ (max n (b + 7)) (replF v p w) := by
  obtain ⟨ts, rfl, h, hl⟩ := hp
  exact repl_tight hw (hv.le (Nat.le_max_left n (b + 7))) h (by show b + ts.length ≤ max n (b + 7); omega)

theorem putF_ok {n b : Nat} {v p w : D} (hv : IsJ n v) (hp : IsPath p) (hw : IsJ b w) (hB : max n b < 99) : putF v p w = .non ∨ IsJ (max n (b + 6) + 1) (putF v p w) := by
  obtain ⟨ts, rfl, h, hl⟩ := hp
  unfold putF
  cases he : ts.isEmpty with
  | true =>
    right
    rw [if_pos (show (its (.tup ts)).isEmpty = true from he)]
    exact hw.le (by omega)
  | false =>
    obtain ⟨t0, t, rfl, e1, e2⟩ := split_last he
    rw [if_neg (by show ¬ (t0 ++ [t]).isEmpty = true; rw [he]; exact Bool.false_ne_true)]
    show putR v (t0 ++ [t]).dropLast (lastD (t0 ++ [t])) w = .non ∨ IsJ _ (putR v (t0 ++ [t]).dropLast (lastD (t0 ++ [t])) w)
    rw [e1, e2]
    rw [List.length_append, List.length_singleton] at hl
    rcases put_tight (t0 := t0) (t := t) hv (fun x hx => h x (by simp [hx])) (h t (by simp)) hw hB with q | q
    · exact .inl q
    · exact .inr (q.le (by omega))

theorem takeF_ok {n : Nat} {v p : D} (hv : IsJ n v) (hp : IsPath p) : takeF v p = .non ∨ IsJ n (takeF v p) := by
  obtain ⟨ts, rfl, h, hl⟩ := hp
  unfold takeF
  cases he : ts.isEmpty with
  | true => exact .inl (if_pos (show (its (.tup ts)).isEmpty = true from he))
  | false =>
    obtain ⟨t0, t, rfl, e1, e2⟩ := split_last he
    rw [if_neg (by show ¬ (t0 ++ [t]).isEmpty = true; rw [he]; exact Bool.false_ne_true)]
    show takeD v (t0 ++ [t]).dropLast (lastD (t0 ++ [t])) = .non ∨ IsJ _ (takeD v (t0 ++ [t]).dropLast (lastD (t0 ++ [t])))
    rw [e1, e2]
    exact take_tight (t0 := t0) (t := t) hv (fun x hx => h x (by simp [hx])) (h t (by simp))
/-! the law's own words, over paths -/

theorem llook_ok {N : Nat} (hN : 2 ≤ N) {m : Nat} {v p : D} (hv : IsJ m v) (hp : IsPath p) : wp (sem N .l_lookup) (fun d r' => d = lookF v p ∧ r' = [some (.d v), some (.d p)]) [some (.d v), some (.d p)] := by
  obtain ⟨ts, rfl, h, hl⟩ := hp
  exact llookup_ok hN m v ts hv h

theorem lreplF_ok {N : Nat} (hN : 9 ≤ N) {m b : Nat} {v p w : D} (hv : IsJ m v) (hp : IsPath p) (hw : IsJ b w) : wp (sem N .l_replace) (fun d r' => d = replF v p w ∧ r' = [some (.d v), some (.d p), some (.d w)]) [some (.d v), some (.d p), some (.d w)] := by
  obtain ⟨ts, rfl, h, hl⟩ := hp
  exact lrepl_ok hw ts v (by omega) (by omega) hv h

theorem lputF_ok {N : Nat} (hN : 40 ≤ N) {m b : Nat} {v p w : D} (hv : IsJ m v) (hp : IsPath p) (hw : IsJ b w) (hB : max m b < 99) : wp (sem N .l_put) (fun d r' => d = putF v p w ∧ r' = [some (.d v), some (.d p), some (.d w)]) [some (.d v), some (.d p), some (.d w)] := by
  obtain ⟨ts, rfl, h, hl⟩ := hp
  unfold putF
  cases he : ts.isEmpty with
  | true =>
    obtain rfl : ts = [] := by simpa using he
    exact lput0_ok (by omega) v w
  | false =>
    obtain ⟨t0, t, rfl, e1, e2⟩ := split_last he
    rw [if_neg (by show ¬ (t0 ++ [t]).isEmpty = true; rw [he]; exact Bool.false_ne_true)]
    show wp _ (fun d r' => d = putR v (t0 ++ [t]).dropLast (lastD (t0 ++ [t])) w ∧ _) _
    rw [e1, e2]
    rw [List.length_append, List.length_singleton] at hl
    exact lput_ok hN (hv.le (Nat.le_max_left _ b)) (fun x hx => h x (by simp [hx])) (h t (by simp)) (hw.le (Nat.le_max_right m _)) (Nat.le_refl _) (by omega) (by omega)

theorem ltakeF_ok {N : Nat} (hN : 40 ≤ N) {m : Nat} {v p : D} (hv : IsJ m v) (hp : IsPath p) : wp (sem N .l_take) (fun d r' => d = takeF v p ∧ r' = [some (.d v), some (.d p)]) [some (.d v), some (.d p)] := by
  obtain ⟨ts, rfl, h, hl⟩ := hp
  unfold takeF
  cases he : ts.isEmpty with
  | true =>
    obtain rfl : ts = [] := by simpa using he
    exact ltake0_ok (by omega) v
  | false =>
    obtain ⟨t0, t, rfl, e1, e2⟩ := split_last he
    rw [if_neg (by show ¬ (t0 ++ [t]).isEmpty = true; rw [he]; exact Bool.false_ne_true)]
    show wp _ (fun d r' => d = takeD v (t0 ++ [t]).dropLast (lastD (t0 ++ [t])) ∧ _) _
    rw [e1, e2]
    rw [List.length_append, List.length_singleton] at hl
    exact ltake_ok (by omega) hv (fun x hx => h x (by simp [hx])) (h t (by simp)) (by omega)
end Row

set_option maxHeartbeats 1000000
namespace Row
open PySem PySem.Spec PyProof.Rows L2 Pk
local macro_rules | `(tactic| walk_at "s") => `(tactic| first
  | with_reducible refine w_seq ?_ | with_reducible refine w_ret ?_ | with_reducible refine w_if ?_ | with_reducible refine w_and ?_ | with_reducible refine w_or ?_ | with_reducible refine w_bd ?_ | with_reducible refine w_rt ?_ | with_reducible refine w_nil ?_
  | ((with_reducible refine' w_ld ?h ?_); (case h => exact rfl)) | ((with_reducible refine' w_own ?h ?_); (case h => exact rfl)) | ((with_reducible refine' w_ldF ?h ?_); (case h => exact rfl)) | ((with_reducible refine' w_nxt ?h ?_); (case h => exact rfl))
  | with_reducible refine w_chain ?_ | with_reducible refine w_andV ?_ | with_reducible refine w_orV ?_ | with_reducible refine p_itT ?_ | with_reducible refine p_itF ?_ | with_reducible refine w_itT ?_ | with_reducible refine w_itF ?_ | with_reducible refine o_asB ?_ | with_reducible refine o_asI ?_ | with_reducible refine o_asS ?_ | with_reducible refine o_truB ?_ | with_reducible refine o_truN ?_ | with_reducible refine o_truT ?_ | with_reducible refine o_truL ?_
  | with_reducible refine o_intI ?_ | with_reducible refine o_intB ?_ | with_reducible refine o_lenT ?_ | with_reducible refine o_lenL ?_ | with_reducible refine o_lenR ?_ | with_reducible refine o_listT ?_ | with_reducible refine o_listL ?_ | with_reducible refine o_tupleT ?_ | with_reducible refine o_tupleL ?_
  | with_reducible refine o_addI ?_ | with_reducible refine o_subI ?_ | with_reducible refine o_negI ?_ | with_reducible refine o_minI ?_ | with_reducible refine o_maxI ?_ | with_reducible refine o_eqI ?_ | with_reducible refine o_neI ?_
  | with_reducible refine o_ltI ?_ | with_reducible refine o_leI ?_ | with_reducible refine o_gtI ?_ | with_reducible refine o_geI ?_ | with_reducible refine o_ltS ?_ | with_reducible refine o_leS ?_ | with_reducible refine o_gtS ?_ | with_reducible refine o_geS ?_ | with_reducible refine o_isN ?_ | with_reducible refine o_isNotN ?_
  | with_reducible refine o_mkT0 ?_ | with_reducible refine o_mkT1 ?_ | with_reducible refine o_mkT2 ?_ | with_reducible refine o_mkT3 ?_ | with_reducible refine o_mkT4 ?_ | with_reducible refine o_mkT5 ?_ | with_reducible refine o_mkL0 ?_ | with_reducible refine o_mkL1 ?_ | with_reducible refine o_mkL2 ?_ | with_reducible refine o_mkL3 ?_ | with_reducible refine o_mkL4 ?_ | with_reducible refine o_seqT ?_ | with_reducible refine o_seqL ?_ | with_reducible refine o_seqR ?_ | with_reducible refine w_itN ?_ | with_reducible refine p_itN ?_ | ((with_reducible refine' o_modI ?h ?_); (case h => decide)) | ((with_reducible refine' o_fdivI ?h ?h2 ?_); (case h => decide); (case h2 => decide)) | ((with_reducible refine' o_powI ?h ?h2 ?h3 ?_); (case h => decide); (case h2 => decide); (case h3 => decide))
  | ((with_reducible refine' o_eqS ?h ?h2 ?_); (case h => first | assumption | exact SOk.str (by assumption) | exact so_list | exact so_object | exact so_null | exact so_bool | exact so_int | exact so_text | exact SOk.str (sok_by (by decide +kernel))); (case h2 => first | assumption | exact SOk.str (by assumption) | exact so_list | exact so_object | exact so_null | exact so_bool | exact so_int | exact so_text | exact SOk.str (sok_by (by decide +kernel)))) | ((with_reducible refine' o_neS ?h ?h2 ?_); (case h => first | assumption | exact SOk.str (by assumption) | exact so_list | exact so_object | exact so_null | exact so_bool | exact so_int | exact so_text | exact SOk.str (sok_by (by decide +kernel))); (case h2 => first | assumption | exact SOk.str (by assumption) | exact so_list | exact so_object | exact so_null | exact so_bool | exact so_int | exact so_text | exact SOk.str (sok_by (by decide +kernel)))) | with_reducible refine o_ixh ?_ | ((with_reducible refine' o_ix ?h ?_); (case h => exact rfl)))
local macro_rules | `(tactic| walk_at "ix") => `(tactic| refine w_of (show ixD _ _ = some _ from rfl) ?_)
local macro_rules | `(tactic| walk_at "go") => `(tactic| (repeat walk_at "s"))
local macro_rules | `(tactic| walk_at "e1") => `(tactic| refine w_env (r' := [_]) rfl ?_)
local macro_rules | `(tactic| walk_at "e2") => `(tactic| refine w_env (r' := [_, _]) rfl ?_)
local macro_rules | `(tactic| walk_at "e3") => `(tactic| refine w_env (r' := [_, _, _]) rfl ?_)
local macro_rules | `(tactic| walk_at "e4") => `(tactic| refine w_env (r' := [_, _, _, _]) rfl ?_)
local macro_rules | `(tactic| walk_at "e") => `(tactic| first | refine w_env (r' := [_]) rfl ?_ | refine w_env (r' := [_, _]) rfl ?_ | refine w_env (r' := [_, _, _]) rfl ?_ | refine w_env (r' := [_, _, _, _]) rfl ?_ | refine w_env (r' := [_, _, _, _, _]) rfl ?_ | refine w_env (r' := [_, _, _, _, _, _]) rfl ?_ | refine w_env (r' := [_, _, _, _, _, _, _]) rfl ?_ | refine w_env (r' := [_, _, _, _, _, _, _, _]) rfl ?_ | refine w_env (r' := [_, _, _, _, _, _, _, _, _]) rfl ?_ | refine w_env (r' := [_, _, _, _, _, _, _, _, _, _]) rfl ?_ | refine w_env (r' := [_, _, _, _, _, _, _, _, _, _, _]) rfl ?_ | refine w_env (r' := [_, _, _, _, _, _, _, _, _, _, _, _]) rfl ?_)
local macro_rules | `(tactic| walk_at "br") => `(tactic| first | refine w_itD (fun hb => ?_) (fun hb => ?_) | refine w_itE (fun hb => ?_) (fun hb => ?_) | refine p_itD (fun hb => ?_) (fun hb => ?_) | refine p_itE (fun hb => ?_) (fun hb => ?_))
local macro_rules | `(tactic| walk_at "lit") => `(tactic| first | ((with_reducible refine' w_ifT ?h ?_); (case h => exact rfl)) | ((with_reducible refine' w_ifF ?h ?_); (case h => exact rfl)) | ((with_reducible refine' p_ifT ?h ?_); (case h => exact rfl)) | ((with_reducible refine' p_ifF ?h ?_); (case h => exact rfl)))
local macro_rules | `(tactic| walk_at "gl") => `(tactic| (repeat (first | walk_at "s" | walk_at "lit")))
def holdsF : Nat → D → D → D → Bool
  | 0, _, _, _ => false
  | n + 1, f, v, h =>
    if kd f == Str.ofString "true" then true else if kd f == Str.ofString "false" then false
    else if kd f == Str.ofString "not" then !holdsF n (nth f 1) v h
    else if kd f == Str.ofString "and" then (its (nth f 1)).all fun g => holdsF n g v h
    else if kd f == Str.ofString "or" then (its (nth f 1)).any fun g => holdsF n g v h
    else if kd f == Str.ofString "held" then holdsF n (nth f 1) h .non
    else if kd f == Str.ofString "at" then !(walkD v (its (nth f 1))).isNon && holdsF n (nth f 2) (walkD v (its (nth f 1))) .non
    else if kd f == Str.ofString "kind" then kd v == (match nth f 1 with | .str x => x | _ => Str.ofString "")
    else if kd f == Str.ofString "int_from" then kd v == Str.ofString "int" && decide (intOf (nth v 1) ≥ intOf (nth f 1))
    else if kd f == Str.ofString "bool_is" then eqv v (.tup [.str (Str.ofString "bool"), nth f 1])
    else if kd f == Str.ofString "text_is" then eqv v (.tup [.str (Str.ofString "text"), nth f 1])
    else if kd f == Str.ofString "text_from" then kd v == Str.ofString "text" && decide (strLen (nth v 1) ≥ intOf (nth f 1))
    else if kd f == Str.ofString "items_from" then kd v == Str.ofString "list" && decide (((its (nth v 1)).length : Int) ≥ intOf (nth f 1))
    else if kd f == Str.ofString "each_item" then kd v == Str.ofString "list" && (Pk.cutD (its (nth v 1)) (some (intOf (nth f 1))) none).all fun e => holdsF n (nth f 2) e .non
    else kd v == Str.ofString "object" && ((its (nth v 1)).filter fun g => !((its (nth f 1)).any fun z => eqv z (.str (kd g)))).all fun g => holdsF n (nth f 2) (nth g 1) .non

inductive Fo : Bool → Nat → D → Prop
  | tr {b : Bool} {n : Nat} : Fo b (n + 1) (.tup [.str (Str.ofString "true")])
  | fa {b : Bool} {n : Nat} : Fo b (n + 1) (.tup [.str (Str.ofString "false")])
  | neg {b : Bool} {n : Nat} {f : D} : Fo b n f → Fo b (n + 1) (.tup [.str (Str.ofString "not"), f])
  | and {b : Bool} {n : Nat} {fs : List D} : (∀ f ∈ fs, Fo b n f) → fs.length ≤ 1000 → Fo b (n + 1) (.tup [.str (Str.ofString "and"), .tup fs])
  | or {b : Bool} {n : Nat} {fs : List D} : (∀ f ∈ fs, Fo b n f) → fs.length ≤ 1000 → Fo b (n + 1) (.tup [.str (Str.ofString "or"), .tup fs])
  | held {n : Nat} {f : D} : Fo false n f → Fo true (n + 1) (.tup [.str (Str.ofString "held"), f])
  | pos {b : Bool} {n : Nat} {ts : List D} {f : D} : (∀ t ∈ ts, IsTok t) → ts.length ≤ 100 → Fo false n f → Fo b (n + 1) (.tup [.str (Str.ofString "at"), .tup ts, f])
  | kind {b : Bool} {n : Nat} {x : Str} : SOk x → Fo b (n + 1) (.tup [.str (Str.ofString "kind"), .str x])
  | int_from {b : Bool} {n : Nat} {i : Int} : Fo b (n + 1) (.tup [.str (Str.ofString "int_from"), .int i])
  | bool_is {b : Bool} {n : Nat} {c : Bool} : Fo b (n + 1) (.tup [.str (Str.ofString "bool_is"), .bl c])
  | text_is {b : Bool} {n : Nat} {x : Str} : SOk x → Fo b (n + 1) (.tup [.str (Str.ofString "text_is"), .str x])
  | text_from {b : Bool} {n : Nat} {i : Int} : Fo b (n + 1) (.tup [.str (Str.ofString "text_from"), .int i])
  | items_from {b : Bool} {n : Nat} {i : Int} : Fo b (n + 1) (.tup [.str (Str.ofString "items_from"), .int i])
  | each_item {b : Bool} {n : Nat} {i : Int} {f : D} : 0 ≤ i → Fo false n f → Fo b (n + 1) (.tup [.str (Str.ofString "each_item"), .int i, f])
  | each_field {b : Bool} {n : Nat} {xs : List Str} {f : D} : (∀ x ∈ xs, SOk x) → xs.length ≤ 1000 → Fo false n f → Fo b (n + 1) (.tup [.str (Str.ofString "each_field"), .tup (xs.map D.str), f])

def HoldsSpec (n N : Nat) : Prop := ∀ (b : Bool) (m : Nat) (f v h : D), Fo b n f → IsJ m v → (b = true → IsJ m h) → wp (sem N .l_holds) (fun d r' => d = .bl (holdsF n f v h) ∧ r' = [some (.d f), some (.d v), some (.d h)]) [some (.d f), some (.d v), some (.d h)]

theorem pys_xs : ∀ {xs : List Str}, (∀ x ∈ xs, SOk x) → PyData.canLayAll0 (pys (xs.map D.str)) = true
  | [], _ => rfl
  | x :: xs, h => by
    show (PyData.canLay0 (D.str x).py && PyData.canLayAll0 (pys (xs.map D.str))) = true
    rw [pys_xs fun y hy => h y (List.mem_cons_of_mem _ hy), D.py, PyData.canLay0, (h x (List.mem_cons_self ..)).str]; rfl

theorem okIn_xs {y : Str} (hy : SOk y) {xs : List Str} (h : ∀ x ∈ xs, SOk x) : okIn (.str y) (xs.map D.str) = true := by
  unfold okIn
  rw [pys_xs h, D.py, PyData.canLay0, hy.str]
  rfl

theorem lholds_ok : ∀ (n : Nat) {N : Nat}, 6 + n ≤ N → HoldsSpec n N := by
  intro n
  induction n with
  | zero => intro N _ b m f v h hf; cases hf
  | succ n ih =>
    intro N hN b m f v h hf hv hh
    obtain ⟨N, rfl⟩ := lev (by omega) (show 1 ≤ N by omega)
    have H : HoldsSpec n N := ih (by omega)
    obtain ⟨k, r, rfl, K⟩ := kj hv
    have hk := K.ok
    rw [sem_succ]
    refine w_body (by rfl) ?_
    delta b_l_holds
    cases hf with
    | tr => walk_at "gl"; exact ⟨rfl, rfl⟩
    | fa => walk_at "gl"; exact ⟨rfl, rfl⟩
    | neg hf =>
      walk_at "gl"
      refine w_cl rfl rfl nd0 (H b m _ _ _ hf hv hh) ?_
      rintro _ _ ⟨rfl, rfl⟩
      walk_at "gl"
      exact ⟨rfl, rfl⟩
    | @and _ _ fs hf hl =>
      walk_at "gl"
      refine w_lc ?_
      walk_at "gl"
      refine ⟨rfl, ?_⟩
      refine w_compM (fun g => .bl (holdsF n g (.tup (.str k :: r)) h)) (by omega) (fun g hg => ?_) ?_
      · refine ⟨_, rfl, ?_⟩
        walk_at "gl"
        refine w_cl rfl rfl nd0 (H b m _ _ _ (hf g hg) hv hh) ?_
        rintro _ _ ⟨rfl, rfl⟩
        exact ⟨rfl, rfl⟩
      walk_at "gl"
      refine w_of (all_map _ fs) ?_
      exact ⟨rfl, rfl⟩
    | @or _ _ fs hf hl =>
      walk_at "gl"
      refine w_lc ?_
      walk_at "gl"
      refine ⟨rfl, ?_⟩
      refine w_compM (fun g => .bl (holdsF n g (.tup (.str k :: r)) h)) (by omega) (fun g hg => ?_) ?_
      · refine ⟨_, rfl, ?_⟩
        walk_at "gl"
        refine w_cl rfl rfl nd0 (H b m _ _ _ (hf g hg) hv hh) ?_
        rintro _ _ ⟨rfl, rfl⟩
        exact ⟨rfl, rfl⟩
      walk_at "gl"
      refine w_of (any_map _ fs) ?_
      exact ⟨rfl, rfl⟩
    | held hf =>
      walk_at "gl"
      refine w_cl rfl rfl nd0 (H false m _ _ _ hf (hh rfl) (fun e => by cases e)) ?_
      rintro _ _ ⟨rfl, rfl⟩
      exact ⟨rfl, rfl⟩
    | @pos _ _ ts f hts hl hf =>
      walk_at "gl"
      refine w_cl rfl rfl nd0 (llookup_ok (by omega) m _ ts hv hts) ?_
      rintro _ _ ⟨rfl, rfl⟩
      walk_at "gl"
      rcases walkD_ok hv hts with e | e
      · rw [e]
        walk_at "gl"
        exact ⟨by show D.bl false = D.bl (!(walkD (.tup (.str k :: r)) ts).isNon && _); rw [e]; rfl, rfl⟩
      · refine w_ifF e.some.1 ?_
        walk_at "gl"
        refine w_cl rfl rfl nd0 (H false m _ _ _ hf e (fun e => by cases e)) ?_
        rintro _ _ ⟨rfl, rfl⟩
        exact ⟨by show D.bl _ = D.bl (!(walkD (.tup (.str k :: r)) ts).isNon && _); rw [e.some.1]; rfl, rfl⟩
    | kind hx =>
      walk_at "gl"
      exact ⟨rfl, rfl⟩
    | int_from =>
      walk_at "gl"
      refine w_it (fun h => ?_) (fun h => ?_)
      · obtain ⟨i, rfl⟩ := K.int h
        walk_at "gl"
        exact ⟨by show D.bl _ = D.bl ((k == Str.ofString "int") && _); rw [h]; rfl, rfl⟩
      · walk_at "gl"
        exact ⟨by show D.bl _ = D.bl ((k == Str.ofString "int") && _); rw [h]; rfl, rfl⟩
    | @bool_is _ _ c =>
      walk_at "gl"
      refine w_of (show slD (.str (Str.ofString "bool_is")) none (some 4) = some (.str (Str.ofString "bool")) from rfl) ?_
      walk_at "gl"
      refine w_of (eq_const hv (show IsJ 1 (.tup [.str (Str.ofString "bool"), .bl c]) from .inr (.inl ⟨c, rfl⟩)) (by decide)) ?_
      exact ⟨rfl, rfl⟩
    | @text_is _ _ x hx =>
      walk_at "gl"
      refine w_of (show slD (.str (Str.ofString "text_is")) none (some 4) = some (.str (Str.ofString "text")) from rfl) ?_
      walk_at "gl"
      refine w_of (eq_const hv (show IsJ 1 (.tup [.str (Str.ofString "text"), .str x]) from .inr (.inr (.inr (.inl ⟨x, hx, rfl⟩)))) (by decide)) ?_
      exact ⟨rfl, rfl⟩
    | text_from =>
      walk_at "gl"
      refine w_it (fun h => ?_) (fun h => ?_)
      · obtain ⟨x, hx, rfl⟩ := K.text h
        walk_at "gl"
        refine o_lenS (by have := hx.2; omega) ?_
        walk_at "gl"
        exact ⟨by show D.bl _ = D.bl ((k == Str.ofString "text") && _); rw [h]; rfl, rfl⟩
      · walk_at "gl"
        exact ⟨by show D.bl _ = D.bl ((k == Str.ofString "text") && _); rw [h]; rfl, rfl⟩
    | items_from =>
      walk_at "gl"
      refine w_it (fun h => ?_) (fun h => ?_)
      · obtain ⟨ds, rfl, hl, hd⟩ := K.list h
        walk_at "gl"
        exact ⟨by show D.bl _ = D.bl ((k == Str.ofString "list") && _); rw [h]; rfl, rfl⟩
      · walk_at "gl"
        exact ⟨by show D.bl _ = D.bl ((k == Str.ofString "list") && _); rw [h]; rfl, rfl⟩
    | @each_item _ _ i f h0 hf =>
      walk_at "gl"
      cases hkl : (k == Str.ofString "list") with
      | false =>
        walk_at "gl"
        exact ⟨by show D.bl _ = D.bl ((k == Str.ofString "list") && _); rw [hkl]; rfl, rfl⟩
      | true =>
        obtain ⟨ds, rfl, hl, hd⟩ := K.list hkl
        walk_at "gl"
        refine w_lc ?_
        walk_at "gl"
        refine w_of (show slD (.tup ds) (some i) none = some (.tup (Pk.cutD ds (some i) none)) from rfl) ?_
        walk_at "gl"
        refine ⟨rfl, ?_⟩
        refine w_compM (fun e => .bl (holdsF n f e .non)) (by have := cut_len ds (some i) none; omega) (fun e he => ?_) ?_
        · refine ⟨_, rfl, ?_⟩
          walk_at "gl"
          refine w_cl rfl rfl nd0 (H false (m - 1) _ _ _ hf (hd e (cut_mem he)) (fun e => by cases e)) ?_
          rintro _ _ ⟨rfl, rfl⟩
          exact ⟨rfl, rfl⟩
        walk_at "gl"
        refine w_of (all_map _ _) ?_
        exact ⟨by show D.bl _ = D.bl ((k == Str.ofString "list") && _); rw [hkl]; rfl, rfl⟩
    | @each_field _ _ xs f hx hl hf =>
      walk_at "gl"
      cases hkl : (k == Str.ofString "object") with
      | false =>
        walk_at "gl"
        exact ⟨by show D.bl _ = D.bl ((k == Str.ofString "object") && _); rw [hkl]; rfl, rfl⟩
      | true =>
        obtain ⟨fs, rfl, hfl, hfo⟩ := K.obj hkl
        walk_at "gl"
        refine w_lc ?_
        walk_at "gl"
        refine ⟨rfl, ?_⟩
        refine w_comp_pure (fun g => !((xs.map D.str).any fun z => eqv z (.str (kd g)))) (fun g => .bl (holdsF n f (nth g 1) .non)) (fun g hg => ?_) (by rw [List.length_map]; exact Nat.le_trans (show fs.length ≤ 500 by omega) (by decide)) ?_
        · obtain ⟨q, hq, rfl⟩ := List.mem_map.mp hg
          refine ⟨_, rfl, ?_, fun _ => ?_, rfl⟩
          · unfold fD
            walk_at "gl"
            refine o_notIn rfl (okIn_xs (hfo.1 q hq).1 hx) ?_
            walk_at "gl"
            exact ⟨rfl, rfl⟩
          · unfold fD
            walk_at "gl"
            refine w_cl rfl rfl nd0 (H false (m - 1) _ _ _ hf (hfo.1 q hq).2 (fun e => by cases e)) ?_
            rintro _ _ ⟨rfl, rfl⟩
            exact ⟨rfl, rfl⟩
        walk_at "gl"
        refine w_of (all_map _ _) ?_
        exact ⟨by show D.bl _ = D.bl ((k == Str.ofString "object") && _); rw [hkl]; rfl, rfl⟩
end Row

set_option maxHeartbeats 1000000
namespace Row
open PySem PySem.Spec PyProof.Rows L2 Pk
local macro_rules | `(tactic| walk_at "s") => `(tactic| first
  | with_reducible refine w_seq ?_ | with_reducible refine w_ret ?_ | with_reducible refine w_if ?_ | with_reducible refine w_and ?_ | with_reducible refine w_or ?_ | with_reducible refine w_bd ?_ | with_reducible refine w_rt ?_ | with_reducible refine w_nil ?_
  | ((with_reducible refine' w_ld ?h ?_); (case h => exact rfl)) | ((with_reducible refine' w_own ?h ?_); (case h => exact rfl)) | ((with_reducible refine' w_ldF ?h ?_); (case h => exact rfl)) | ((with_reducible refine' w_nxt ?h ?_); (case h => exact rfl))
  | with_reducible refine w_chain ?_ | with_reducible refine w_andV ?_ | with_reducible refine w_orV ?_ | with_reducible refine p_itT ?_ | with_reducible refine p_itF ?_ | with_reducible refine w_itT ?_ | with_reducible refine w_itF ?_ | with_reducible refine o_asB ?_ | with_reducible refine o_asI ?_ | with_reducible refine o_asS ?_ | with_reducible refine o_truB ?_ | with_reducible refine o_truN ?_ | with_reducible refine o_truT ?_ | with_reducible refine o_truL ?_
  | with_reducible refine o_intI ?_ | with_reducible refine o_intB ?_ | with_reducible refine o_lenT ?_ | with_reducible refine o_lenL ?_ | with_reducible refine o_lenR ?_ | with_reducible refine o_listT ?_ | with_reducible refine o_listL ?_ | with_reducible refine o_tupleT ?_ | with_reducible refine o_tupleL ?_
  | with_reducible refine o_addI ?_ | with_reducible refine o_subI ?_ | with_reducible refine o_negI ?_ | with_reducible refine o_minI ?_ | with_reducible refine o_maxI ?_ | with_reducible refine o_eqI ?_ | with_reducible refine o_neI ?_
  | with_reducible refine o_ltI ?_ | with_reducible refine o_leI ?_ | with_reducible refine o_gtI ?_ | with_reducible refine o_geI ?_ | with_reducible refine o_ltS ?_ | with_reducible refine o_leS ?_ | with_reducible refine o_gtS ?_ | with_reducible refine o_geS ?_ | with_reducible refine o_isN ?_ | with_reducible refine o_isNotN ?_
  | with_reducible refine o_mkT0 ?_ | with_reducible refine o_mkT1 ?_ | with_reducible refine o_mkT2 ?_ | with_reducible refine o_mkT3 ?_ | with_reducible refine o_mkT4 ?_ | with_reducible refine o_mkT5 ?_ | with_reducible refine o_mkL0 ?_ | with_reducible refine o_mkL1 ?_ | with_reducible refine o_mkL2 ?_ | with_reducible refine o_mkL3 ?_ | with_reducible refine o_mkL4 ?_ | with_reducible refine o_seqT ?_ | with_reducible refine o_seqL ?_ | with_reducible refine o_seqR ?_ | with_reducible refine w_itN ?_ | with_reducible refine p_itN ?_ | ((with_reducible refine' o_modI ?h ?_); (case h => decide)) | ((with_reducible refine' o_fdivI ?h ?h2 ?_); (case h => decide); (case h2 => decide)) | ((with_reducible refine' o_powI ?h ?h2 ?h3 ?_); (case h => decide); (case h2 => decide); (case h3 => decide))
  | ((with_reducible refine' o_eqS ?h ?h2 ?_); (case h => first | assumption | exact SOk.str (by assumption) | exact so_list | exact so_object | exact so_null | exact so_bool | exact so_int | exact so_text | exact SOk.str (sok_by (by decide +kernel))); (case h2 => first | assumption | exact SOk.str (by assumption) | exact so_list | exact so_object | exact so_null | exact so_bool | exact so_int | exact so_text | exact SOk.str (sok_by (by decide +kernel)))) | ((with_reducible refine' o_neS ?h ?h2 ?_); (case h => first | assumption | exact SOk.str (by assumption) | exact so_list | exact so_object | exact so_null | exact so_bool | exact so_int | exact so_text | exact SOk.str (sok_by (by decide +kernel))); (case h2 => first | assumption | exact SOk.str (by assumption) | exact so_list | exact so_object | exact so_null | exact so_bool | exact so_int | exact so_text | exact SOk.str (sok_by (by decide +kernel)))) | with_reducible refine o_ixh ?_ | ((with_reducible refine' o_ix ?h ?_); (case h => exact rfl)))
local macro_rules | `(tactic| walk_at "ix") => `(tactic| refine w_of (show ixD _ _ = some _ from rfl) ?_)
local macro_rules | `(tactic| walk_at "go") => `(tactic| (repeat walk_at "s"))
local macro_rules | `(tactic| walk_at "e1") => `(tactic| refine w_env (r' := [_]) rfl ?_)
local macro_rules | `(tactic| walk_at "e2") => `(tactic| refine w_env (r' := [_, _]) rfl ?_)
local macro_rules | `(tactic| walk_at "e3") => `(tactic| refine w_env (r' := [_, _, _]) rfl ?_)
local macro_rules | `(tactic| walk_at "e4") => `(tactic| refine w_env (r' := [_, _, _, _]) rfl ?_)
local macro_rules | `(tactic| walk_at "e") => `(tactic| first | refine w_env (r' := [_]) rfl ?_ | refine w_env (r' := [_, _]) rfl ?_ | refine w_env (r' := [_, _, _]) rfl ?_ | refine w_env (r' := [_, _, _, _]) rfl ?_ | refine w_env (r' := [_, _, _, _, _]) rfl ?_ | refine w_env (r' := [_, _, _, _, _, _]) rfl ?_ | refine w_env (r' := [_, _, _, _, _, _, _]) rfl ?_ | refine w_env (r' := [_, _, _, _, _, _, _, _]) rfl ?_ | refine w_env (r' := [_, _, _, _, _, _, _, _, _]) rfl ?_ | refine w_env (r' := [_, _, _, _, _, _, _, _, _, _]) rfl ?_ | refine w_env (r' := [_, _, _, _, _, _, _, _, _, _, _]) rfl ?_ | refine w_env (r' := [_, _, _, _, _, _, _, _, _, _, _, _]) rfl ?_)
local macro_rules | `(tactic| walk_at "br") => `(tactic| first | refine w_itD (fun hb => ?_) (fun hb => ?_) | refine w_itE (fun hb => ?_) (fun hb => ?_) | refine p_itD (fun hb => ?_) (fun hb => ?_) | refine p_itE (fun hb => ?_) (fun hb => ?_))
local macro_rules | `(tactic| walk_at "lit") => `(tactic| first | ((with_reducible refine' w_ifT ?h ?_); (case h => exact rfl)) | ((with_reducible refine' w_ifF ?h ?_); (case h => exact rfl)) | ((with_reducible refine' p_ifT ?h ?_); (case h => exact rfl)) | ((with_reducible refine' p_ifF ?h ?_); (case h => exact rfl)))
local macro_rules | `(tactic| walk_at "gl") => `(tactic| (repeat (first | walk_at "s" | walk_at "lit")))
def bndF (word : String) (lo hi : Int) : D := .tup [.str (Str.ofString "and"), .tup [.tup [.str (Str.ofString word), .int lo], .tup [.str (Str.ofString "not"), .tup [.str (Str.ofString word), .int (hi + 1)]]]]

def atF (t f : D) : D := .tup [.str (Str.ofString "at"), .tup [t], f]

def itemsFm (fs : List D) : D := .tup [.str (Str.ofString "and"), .tup (bndF "items_from" fs.length fs.length :: fs.mapIdx fun i f => atF (.int i) f)]

def fieldsFm (gs : List (Str × D)) : D := .tup [.str (Str.ofString "and"), .tup (.tup [.str (Str.ofString "each_field"), .tup ((gs.map Prod.fst).map D.str), .tup [.str (Str.ofString "false")]] :: gs.map fun g => atF (.str g.1) g.2)]

def eqFm : Nat → D → D
  | 0, _ => .non
  | n + 1, v =>
    if kd v == Str.ofString "null" then .tup [.str (Str.ofString "kind"), .str (Str.ofString "null")]
    else if kd v == Str.ofString "bool" then .tup [.str (Str.ofString "bool_is"), nth v 1]
    else if kd v == Str.ofString "int" then bndF "int_from" (intOf (nth v 1)) (intOf (nth v 1))
    else if kd v == Str.ofString "text" then .tup [.str (Str.ofString "text_is"), nth v 1]
    else if kd v == Str.ofString "list" then itemsFm ((its (nth v 1)).map (eqFm n))
    else fieldsFm ((its (nth v 1)).map fun g => (kd g, eqFm n (nth g 1)))

theorem extM_ok {i : Nat} {r : Ro} {p : Bool} {ds es : List D} (h : r[i]? = some (some (.own p ds))) (hl : ds.length + es.length ≤ 100000) : extM i (.lst es) r = some (r.set i (some (.own p (ds ++ es)))) := by
  unfold extM
  rw [h]
  dsimp only
  rw [if_pos (Nat.le_trans hl (by decide))]

theorem bnd_ok {N : Nat} (hN : 1 ≤ N) (k : Str) (word : String) (lo hi : Int) : wp (sem N .p_bounded_formula) (fun d r' => d = bndF word lo hi ∧ r' = [some (.d (.str k)), some (.d (.str (Str.ofString word))), some (.d (.int lo)), some (.d (.int hi))]) [some (.d (.str k)), some (.d (.str (Str.ofString word))), some (.d (.int lo)), some (.d (.int hi))] := by
  obtain ⟨n, rfl⟩ := lev (by omega) hN
  rw [sem_succ]
  refine w_body (by rfl) ?_
  delta b_p_bounded_formula
  walk_at "gl"
  refine w_line (by simp) ?_
  walk_at "gl"
  exact ⟨rfl, rfl⟩

theorem fld_ok {N : Nat} (hN : 1 ≤ N) (x : Str) (f : D) : wp (sem N .p_field_formula) (fun d r' => d = atF (.str x) f ∧ r' = [some (.d (.str x)), some (.d f), some (.d (.bl true))]) [some (.d (.str x)), some (.d f), some (.d (.bl true))] := by
  obtain ⟨n, rfl⟩ := lev (by omega) hN
  rw [sem_succ]
  refine w_body (by rfl) ?_
  delta b_p_field_formula
  walk_at "gl"
  exact ⟨rfl, rfl⟩

theorem items_ok {N : Nat} (hN : 2 ≤ N) (fs : List D) (hl : fs.length ≤ 1000) : wp (sem N .p_items_formula) (fun d r' => d = itemsFm fs ∧ r' = [some (.d (.lst fs))]) [some (.d (.lst fs))] := by
  obtain ⟨n, rfl⟩ := lev (by omega) (show 1 ≤ N by omega)
  rw [sem_succ]
  refine w_body (by rfl) ?_
  delta b_p_items_formula
  walk_at "gl"
  refine w_cl rfl rfl nd0 (bnd_ok (by omega) _ "items_from" _ _) ?_
  rintro _ _ ⟨rfl, rfl⟩
  walk_at "e"; walk_at "gl"
  refine w_line (by simp) ?_
  walk_at "gl"
  walk_at "e"; walk_at "gl"
  refine w_lc ?_
  walk_at "gl"
  refine w_of (show enumOf [.lst fs] = some (enumD fs) from rfl) ?_
  refine ⟨rfl, ?_⟩
  have hel : (enumD fs).length = fs.length := List.length_mapIdx
  refine w_compM (fun d => atF (nth d 0) (nth d 1)) (by rw [hel]; omega) (fun d hd => ?_) ?_
  · obtain ⟨i, hi, rfl⟩ := List.mem_mapIdx.mp hd
    refine ⟨_, rfl, ?_⟩
    walk_at "gl"
    exact ⟨rfl, rfl⟩
  have he : (enumD fs).map (fun d => atF (nth d 0) (nth d 1)) = fs.mapIdx fun i f => atF (.int i) f := by
    unfold enumD
    refine List.ext_getElem (by simp) fun i h1 h2 => ?_
    simp [nth]
  rw [he]
  refine w_nxt (extM_ok rfl (by rw [List.length_mapIdx, List.length_singleton]; omega)) ?_
  walk_at "e"; walk_at "gl"
  exact ⟨rfl, rfl⟩

theorem fields_okF {N : Nat} (hN : 2 ≤ N) (gs : List (Str × D)) (hl : gs.length ≤ 1000) :
    wp (sem N .p_fields_formula) (fun d r' => d = fieldsFm gs ∧ r' = [some (.d (.lst (gs.map fun g => D.tup [.str g.1, g.2, .bl true]))), some (.d (.tup [.str (Str.ofString "false")]))]) [some (.d (.lst (gs.map fun g => D.tup [.str g.1, g.2, .bl true]))), some (.d (.tup [.str (Str.ofString "false")]))] := by
  obtain ⟨n, rfl⟩ := lev (by omega) (show 1 ≤ N by omega)
  rw [sem_succ]
  refine w_body (by rfl) ?_
  delta b_p_fields_formula
  walk_at "gl"
  refine w_lc ?_
  walk_at "gl"
  refine ⟨rfl, ?_⟩
  refine w_compM (fun d => .str (kd d)) (by rw [List.length_map]; omega) (fun d hd => ?_) ?_
  · obtain ⟨g, hg, rfl⟩ := List.mem_map.mp hd
    refine ⟨_, rfl, ?_⟩
    walk_at "gl"
    exact ⟨rfl, rfl⟩
  rw [show (gs.map fun g => D.tup [.str g.1, g.2, .bl true]).map (fun d => D.str (kd d)) = (gs.map Prod.fst).map D.str by rw [List.map_map, List.map_map]; rfl]
  walk_at "gl"
  refine w_line (by simp) ?_
  walk_at "gl"
  walk_at "e"; walk_at "gl"
  refine w_lc ?_
  walk_at "gl"
  refine ⟨rfl, ?_⟩
  refine w_compM (fun d => atF (nth d 0) (nth d 1)) (by rw [List.length_map]; omega) (fun d hd => ?_) ?_
  · obtain ⟨g, hg, rfl⟩ := List.mem_map.mp hd
    refine ⟨_, rfl, ?_⟩
    walk_at "gl"
    refine w_cl rfl rfl nd0 (fld_ok (by omega) g.1 g.2) ?_
    rintro _ _ ⟨rfl, rfl⟩
    exact ⟨rfl, rfl⟩
  rw [show (gs.map fun g => D.tup [.str g.1, g.2, .bl true]).map (fun d => atF (nth d 0) (nth d 1)) = gs.map (fun g => atF (.str g.1) g.2) by rw [List.map_map]; rfl]
  refine w_nxt (extM_ok rfl (by rw [List.length_map, List.length_singleton]; omega)) ?_
  walk_at "e"; walk_at "gl"
  exact ⟨rfl, rfl⟩

theorem eqf_ok : ∀ (n : Nat) {N : Nat}, n + 3 ≤ N → ∀ v, IsJ n v → wp (sem N .p_equal_formula) (fun d r' => d = eqFm n v ∧ r' = [some (.d v)]) [some (.d v)] := by
  intro n
  induction n with
  | zero => intro N _ v hv; exact hv.elim
  | succ n ih =>
    intro N hN v hv
    obtain ⟨N, rfl⟩ := lev (by omega) (show 1 ≤ N by omega)
    have H := @ih N (by omega)
    rw [sem_succ]
    refine w_body (by rfl) ?_
    delta b_p_equal_formula
    rcases hv with rfl | ⟨b, rfl⟩ | ⟨i, rfl⟩ | ⟨x, hx, rfl⟩ | ⟨ds, hl, hd, rfl⟩ | ⟨fs, hl, hf, hp, rfl⟩
    · walk_at "gl"; exact ⟨rfl, rfl⟩
    · walk_at "gl"; exact ⟨rfl, rfl⟩
    · walk_at "gl"
      refine w_cl rfl rfl nd0 (bnd_ok (by omega) _ "int_from" _ _) ?_
      rintro _ _ ⟨rfl, rfl⟩
      exact ⟨rfl, rfl⟩
    · walk_at "gl"; exact ⟨rfl, rfl⟩
    · walk_at "gl"
      refine w_lc ?_
      walk_at "gl"
      refine ⟨rfl, ?_⟩
      refine w_compM (eqFm n) (by omega) (fun d hd' => ?_) ?_
      · refine ⟨_, rfl, ?_⟩
        walk_at "gl"
        refine w_cl rfl rfl nd0 (H d (hd d hd')) ?_
        rintro _ _ ⟨rfl, rfl⟩
        exact ⟨rfl, rfl⟩
      walk_at "gl"
      refine w_cl rfl rfl nd0 (items_ok (by omega) _ (by rw [List.length_map]; omega)) ?_
      rintro _ _ ⟨rfl, rfl⟩
      exact ⟨rfl, rfl⟩
    · walk_at "gl"
      refine w_lc ?_
      walk_at "gl"
      refine ⟨rfl, ?_⟩
      refine w_compM (fun d => .tup [.str (kd d), eqFm n (nth d 1), .bl true]) (by rw [List.length_map]; omega) (fun d hd' => ?_) ?_
      · obtain ⟨g, hg, rfl⟩ := List.mem_map.mp hd'
        refine ⟨_, rfl, ?_⟩
        walk_at "gl"
        refine w_cl rfl rfl nd0 (H g.2 (hf g hg).2) ?_
        rintro _ _ ⟨rfl, rfl⟩
        walk_at "e"; walk_at "gl"
        exact ⟨rfl, rfl⟩
      rw [show (fs.map fun f => D.tup [.str f.1, f.2]).map (fun d => D.tup [.str (kd d), eqFm n (nth d 1), .bl true]) = ((fs.map fD).map fun g => (kd g, eqFm n (nth g 1))).map (fun g => D.tup [.str g.1, g.2, .bl true]) by rw [List.map_map, List.map_map, List.map_map]; rfl]
      walk_at "gl"
      refine w_cl rfl rfl nd0 (fields_okF (by omega) _ (by rw [List.length_map, List.length_map]; omega)) ?_
      rintro _ _ ⟨rfl, rfl⟩
      exact ⟨rfl, rfl⟩
end Row

set_option maxHeartbeats 1000000
namespace Row
open PySem PySem.Spec PyProof.Rows L2 Pk
local macro_rules | `(tactic| walk_at "s") => `(tactic| first
  | with_reducible refine w_seq ?_ | with_reducible refine w_ret ?_ | with_reducible refine w_if ?_ | with_reducible refine w_and ?_ | with_reducible refine w_or ?_ | with_reducible refine w_bd ?_ | with_reducible refine w_rt ?_ | with_reducible refine w_nil ?_
  | ((with_reducible refine' w_ld ?h ?_); (case h => exact rfl)) | ((with_reducible refine' w_own ?h ?_); (case h => exact rfl)) | ((with_reducible refine' w_ldF ?h ?_); (case h => exact rfl)) | ((with_reducible refine' w_nxt ?h ?_); (case h => exact rfl))
  | with_reducible refine w_chain ?_ | with_reducible refine w_andV ?_ | with_reducible refine w_orV ?_ | with_reducible refine p_itT ?_ | with_reducible refine p_itF ?_ | with_reducible refine w_itT ?_ | with_reducible refine w_itF ?_ | with_reducible refine o_asB ?_ | with_reducible refine o_asI ?_ | with_reducible refine o_asS ?_ | with_reducible refine o_truB ?_ | with_reducible refine o_truN ?_ | with_reducible refine o_truT ?_ | with_reducible refine o_truL ?_
  | with_reducible refine o_intI ?_ | with_reducible refine o_intB ?_ | with_reducible refine o_lenT ?_ | with_reducible refine o_lenL ?_ | with_reducible refine o_lenR ?_ | with_reducible refine o_listT ?_ | with_reducible refine o_listL ?_ | with_reducible refine o_tupleT ?_ | with_reducible refine o_tupleL ?_
  | with_reducible refine o_addI ?_ | with_reducible refine o_subI ?_ | with_reducible refine o_negI ?_ | with_reducible refine o_minI ?_ | with_reducible refine o_maxI ?_ | with_reducible refine o_eqI ?_ | with_reducible refine o_neI ?_
  | with_reducible refine o_ltI ?_ | with_reducible refine o_leI ?_ | with_reducible refine o_gtI ?_ | with_reducible refine o_geI ?_ | with_reducible refine o_ltS ?_ | with_reducible refine o_leS ?_ | with_reducible refine o_gtS ?_ | with_reducible refine o_geS ?_ | with_reducible refine o_isN ?_ | with_reducible refine o_isNotN ?_
  | with_reducible refine o_mkT0 ?_ | with_reducible refine o_mkT1 ?_ | with_reducible refine o_mkT2 ?_ | with_reducible refine o_mkT3 ?_ | with_reducible refine o_mkT4 ?_ | with_reducible refine o_mkT5 ?_ | with_reducible refine o_mkL0 ?_ | with_reducible refine o_mkL1 ?_ | with_reducible refine o_mkL2 ?_ | with_reducible refine o_mkL3 ?_ | with_reducible refine o_mkL4 ?_ | with_reducible refine o_seqT ?_ | with_reducible refine o_seqL ?_ | with_reducible refine o_seqR ?_ | with_reducible refine w_itN ?_ | with_reducible refine p_itN ?_ | ((with_reducible refine' o_modI ?h ?_); (case h => decide)) | ((with_reducible refine' o_fdivI ?h ?h2 ?_); (case h => decide); (case h2 => decide)) | ((with_reducible refine' o_powI ?h ?h2 ?h3 ?_); (case h => decide); (case h2 => decide); (case h3 => decide))
  | ((with_reducible refine' o_eqS ?h ?h2 ?_); (case h => first | assumption | exact SOk.str (by assumption) | exact so_list | exact so_object | exact so_null | exact so_bool | exact so_int | exact so_text | exact SOk.str (sok_by (by decide +kernel))); (case h2 => first | assumption | exact SOk.str (by assumption) | exact so_list | exact so_object | exact so_null | exact so_bool | exact so_int | exact so_text | exact SOk.str (sok_by (by decide +kernel)))) | ((with_reducible refine' o_neS ?h ?h2 ?_); (case h => first | assumption | exact SOk.str (by assumption) | exact so_list | exact so_object | exact so_null | exact so_bool | exact so_int | exact so_text | exact SOk.str (sok_by (by decide +kernel))); (case h2 => first | assumption | exact SOk.str (by assumption) | exact so_list | exact so_object | exact so_null | exact so_bool | exact so_int | exact so_text | exact SOk.str (sok_by (by decide +kernel)))) | with_reducible refine o_ixh ?_ | ((with_reducible refine' o_ix ?h ?_); (case h => exact rfl)))
local macro_rules | `(tactic| walk_at "ix") => `(tactic| refine w_of (show ixD _ _ = some _ from rfl) ?_)
local macro_rules | `(tactic| walk_at "go") => `(tactic| (repeat walk_at "s"))
local macro_rules | `(tactic| walk_at "e1") => `(tactic| refine w_env (r' := [_]) rfl ?_)
local macro_rules | `(tactic| walk_at "e2") => `(tactic| refine w_env (r' := [_, _]) rfl ?_)
local macro_rules | `(tactic| walk_at "e3") => `(tactic| refine w_env (r' := [_, _, _]) rfl ?_)
local macro_rules | `(tactic| walk_at "e4") => `(tactic| refine w_env (r' := [_, _, _, _]) rfl ?_)
local macro_rules | `(tactic| walk_at "e") => `(tactic| first | refine w_env (r' := [_]) rfl ?_ | refine w_env (r' := [_, _]) rfl ?_ | refine w_env (r' := [_, _, _]) rfl ?_ | refine w_env (r' := [_, _, _, _]) rfl ?_ | refine w_env (r' := [_, _, _, _, _]) rfl ?_ | refine w_env (r' := [_, _, _, _, _, _]) rfl ?_ | refine w_env (r' := [_, _, _, _, _, _, _]) rfl ?_ | refine w_env (r' := [_, _, _, _, _, _, _, _]) rfl ?_ | refine w_env (r' := [_, _, _, _, _, _, _, _, _]) rfl ?_ | refine w_env (r' := [_, _, _, _, _, _, _, _, _, _]) rfl ?_ | refine w_env (r' := [_, _, _, _, _, _, _, _, _, _, _]) rfl ?_ | refine w_env (r' := [_, _, _, _, _, _, _, _, _, _, _, _]) rfl ?_)
local macro_rules | `(tactic| walk_at "br") => `(tactic| first | refine w_itD (fun hb => ?_) (fun hb => ?_) | refine w_itE (fun hb => ?_) (fun hb => ?_) | refine p_itD (fun hb => ?_) (fun hb => ?_) | refine p_itE (fun hb => ?_) (fun hb => ?_))
local macro_rules | `(tactic| walk_at "lit") => `(tactic| first | ((with_reducible refine' w_ifT ?h ?_); (case h => exact rfl)) | ((with_reducible refine' w_ifF ?h ?_); (case h => exact rfl)) | ((with_reducible refine' p_ifT ?h ?_); (case h => exact rfl)) | ((with_reducible refine' p_ifF ?h ?_); (case h => exact rfl)))
local macro_rules | `(tactic| walk_at "gl") => `(tactic| (repeat (first | walk_at "s" | walk_at "lit")))
def eqAll : List D → List D → Bool
  | [], [] => true
  | e :: es, d :: ds => eqv e d && eqAll es ds
  | _, _ => false

theorem eqv_tup : ∀ (es ds : List D), eqv (.tup es) (.tup ds) = eqAll es ds := by
  have key : ∀ (es ds : List D), PyData.eqvAll (pys es) (pys ds) = eqAll es ds := by
    intro es
    induction es with
    | nil => intro ds; cases ds <;> rfl
    | cons e es ih =>
      intro ds
      cases ds with
      | nil => rfl
      | cons d ds =>
        show (PyData.eqv e.py d.py && PyData.eqvAll (pys es) (pys ds)) = _
        rw [ih]; rfl
  intro es ds
  exact key es ds

theorem e2 {a b : Str} {x y : D} : eqv (.tup [.str a, x]) (.tup [.str b, y]) = ((a == b) && eqv x y) := by
  rw [eqv_tup]; simp [eqAll, eqv_str]

theorem e1 {a b : Str} : eqv (.tup [.str a]) (.tup [.str b]) = (a == b) := by
  rw [eqv_tup]; simp [eqAll, eqv_str]

theorem e12 {a b : Str} {x : D} : eqv (.tup [.str a]) (.tup [.str b, x]) = false := by
  rw [eqv_tup]; simp [eqAll]

theorem e21 {a b : Str} {x : D} : eqv (.tup [.str a, x]) (.tup [.str b]) = false := by
  rw [eqv_tup]; simp [eqAll]

theorem eqAll_len : ∀ {es ds : List D}, eqAll es ds = true → es.length = ds.length
  | [], [], _ => rfl
  | e :: es, d :: ds, h => by
    simp only [eqAll, Bool.and_eq_true] at h
    rw [List.length_cons, List.length_cons, eqAll_len h.2]
  | [], d :: ds, h => by cases h
  | e :: es, [], h => by cases h

theorem eqv_int {a b : Int} : eqv (.int a) (.int b) = decide (a = b) := by
  show PyData.eqv (.int a) (.int b) = _
  simp [PyData.eqv]; rfl

theorem bnd_hold {k : Nat} {word : String} {c : Int} {v h : D} : holdsF (k + 3) (bndF word c c) v h = (holdsF (k + 2) (.tup [.str (Str.ofString word), .int c]) v h && !holdsF (k + 1) (.tup [.str (Str.ofString word), .int (c + 1)]) v h) := by
  show ([D.tup [.str (Str.ofString word), .int c], D.tup [.str (Str.ofString "not"), .tup [.str (Str.ofString word), .int (c + 1)]]].all fun g => holdsF (k + 2) g v h) = _
  simp only [List.all_cons, List.all_nil, Bool.and_true]
  rfl

theorem int_hold {k : Nat} {i : Int} {v h : D} : holdsF (k + 1) (.tup [.str (Str.ofString "int_from"), .int i]) v h = (kd v == Str.ofString "int" && decide (intOf (nth v 1) ≥ i)) := rfl

theorem itm_hold {k : Nat} {i : Int} {v h : D} : holdsF (k + 1) (.tup [.str (Str.ofString "items_from"), .int i]) v h = (kd v == Str.ofString "list" && decide (((its (nth v 1)).length : Int) ≥ i)) := rfl

theorem at_hold {k : Nat} {t f v h : D} : holdsF (k + 1) (atF t f) v h = (!(walkD v [t]).isNon && holdsF k f (walkD v [t]) .non) := rfl

theorem list_hold {k : Nat} {fs : List D} {v h : D} : holdsF (k + 1) (itemsFm fs) v h = (holdsF k (bndF "items_from" fs.length fs.length) v h && (fs.mapIdx fun i f => atF (.int i) f).all fun g => holdsF k g v h) := rfl

theorem obj_hold {k : Nat} {gs : List (Str × D)} {v h : D} : holdsF (k + 2) (fieldsFm gs) v h = ((kd v == Str.ofString "object" && ((its (nth v 1)).filter fun g => !(((gs.map Prod.fst).map D.str).any fun z => eqv z (.str (kd g)))).all fun g => holdsF k (.tup [.str (Str.ofString "false")]) (nth g 1) .non) && (gs.map fun g => atF (.str g.1) g.2).all fun g => holdsF (k + 1) g v h) := rfl

theorem no_hold {k : Nat} {v h : D} : holdsF k (.tup [.str (Str.ofString "false")]) v h = false := by cases k <;> rfl

theorem len_dec {a b : Nat} : (decide ((a : Int) ≥ b) && !decide ((a : Int) ≥ (b : Int) + 1)) = decide (a = b) := by
  rw [Bool.eq_iff_iff]; simp; omega

theorem int_dec {a b : Int} : (decide (a ≥ b) && !decide (a ≥ b + 1)) = decide (a = b) := by
  rw [Bool.eq_iff_iff]; simp; omega

theorem list_all {P : D → D → Bool} : ∀ {es ds : List D}, es.length = ds.length → (∀ (i : Nat) (h1 : i < es.length) (h2 : i < ds.length), P es[i] ds[i] = eqv es[i] ds[i]) → (((List.range ds.length).all fun i => P (es.getD i .non) (ds.getD i .non)) = eqAll es ds) := by
  intro es ds hl h
  rw [Bool.eq_iff_iff, List.all_eq_true]
  have key : ∀ (es ds : List D), es.length = ds.length → (eqAll es ds = true ↔ ∀ i, i < ds.length → eqv (es.getD i .non) (ds.getD i .non) = true) := by
    intro es
    induction es with
    | nil => intro ds hl; cases ds with
      | nil => simp [eqAll]
      | cons d ds => cases hl
    | cons e es ih =>
      intro ds hl
      cases ds with
      | nil => cases hl
      | cons d ds =>
        simp only [eqAll, Bool.and_eq_true, ih ds (by simpa using hl)]
        constructor
        · rintro ⟨a, b⟩ i hi
          cases i with
          | zero => exact a
          | succ i => exact b i (by simpa using hi)
        · intro q
          exact ⟨q 0 (by simp), fun i hi => q (i + 1) (by simpa using hi)⟩
  rw [key es ds hl]
  constructor
  · intro q i hi
    have := q i (List.mem_range.mpr hi)
    have e1 : es.getD i .non = es[i]'(by omega) := by rw [List.getD_eq_getElem?_getD, List.getElem?_eq_getElem (by omega)]; rfl
    have e2 : ds.getD i .non = ds[i] := by rw [List.getD_eq_getElem?_getD, List.getElem?_eq_getElem hi]; rfl
    rw [e1, e2] at this ⊢
    rwa [h i (by omega) hi] at this
  · intro q i hi
    have hi := List.mem_range.mp hi
    have := q i hi
    have e1 : es.getD i .non = es[i]'(by omega) := by rw [List.getD_eq_getElem?_getD, List.getElem?_eq_getElem (by omega)]; rfl
    have e2 : ds.getD i .non = ds[i] := by rw [List.getD_eq_getElem?_getD, List.getElem?_eq_getElem hi]; rfl
    rw [e1, e2] at this ⊢
    rwa [h i (by omega) hi]

theorem obj_all {n m : Nat} (P : D → D → Bool) : ∀ {es ds : List (Str × D)}, FOk n es → FOk m ds → (∀ e ∈ es, ∀ d ∈ ds, P e.2 d.2 = eqv e.2 d.2) →
    ((∀ e ∈ es, ∃ d ∈ ds, d.1 = e.1) ∧ (∀ d ∈ ds, findD d.1 (es.map fD) ≠ .non ∧ P (findD d.1 (es.map fD)) d.2 = true) ↔ eqAll (es.map fD) (ds.map fD) = true) := by
  intro es
  induction es with
  | nil =>
    intro ds _ _ _
    cases ds with
    | nil => simp [eqAll]
    | cons d ds =>
      constructor
      · rintro ⟨_, h⟩
        exact absurd rfl (h d (List.mem_cons_self ..)).1
      · intro h; cases h
  | cons e es ih =>
    intro ds he hd hP
    cases ds with
    | nil =>
      constructor
      · rintro ⟨h, _⟩
        obtain ⟨d, hd, _⟩ := h e (List.mem_cons_self ..)
        cases hd
      · intro h; cases h
    | cons d ds =>
      have hep := List.pairwise_cons.mp he.2
      have hdp := List.pairwise_cons.mp hd.2
      have he' : FOk n es := ⟨fun f hf => he.1 f (List.mem_cons_of_mem _ hf), hep.2⟩
      have hd' : FOk m ds := ⟨fun f hf => hd.1 f (List.mem_cons_of_mem _ hf), hdp.2⟩
      have IH := ih he' hd' fun a ha b hb => hP a (List.mem_cons_of_mem _ ha) b (List.mem_cons_of_mem _ hb)
      have e0 : eqAll ((e :: es).map fD) ((d :: ds).map fD) = ((e.1 == d.1 && eqv e.2 d.2) && eqAll (es.map fD) (ds.map fD)) := by
        show (eqv (.tup [.str e.1, e.2]) (.tup [.str d.1, d.2]) && _) = _
        rw [e2]
      have nn : e.2 ≠ .non := (he.1 e (List.mem_cons_self ..)).2.some.2
      have skip : ∀ {x : Str}, e.1.cps.toList < x.cps.toList → findD x ((e :: es).map fD) = findD x (es.map fD) := fun h => by
        rw [List.map_cons, findD_fD, if_neg (by simpa using lt_ne h)]
      rw [e0, Bool.and_eq_true, Bool.and_eq_true, ← IH]
      constructor
      · rintro ⟨h1, h2⟩
        have heq : e.1 = d.1 := by
          obtain ⟨q, hq, eq⟩ := h1 e (List.mem_cons_self ..)
          rcases List.mem_cons.mp hq with rfl | hq
          · exact eq.symm
          · have hlt : d.1.cps.toList < e.1.cps.toList := by rw [← eq]; exact hdp.1 q hq
            have := (h2 d (List.mem_cons_self ..)).1
            refine absurd ?_ this
            have := find_skip (x := d.1) (fs := e :: es) [] fun f hf => by
              rcases List.mem_cons.mp hf with rfl | hf
              · exact fun z => lt_ne hlt z.symm
              · exact fun z => lt_ne (List.lt_trans hlt (hep.1 f hf)) z.symm
            rw [List.append_nil] at this
            exact this
        have hf0 : findD d.1 ((e :: es).map fD) = e.2 := by rw [List.map_cons, findD_fD, if_pos (by simp [heq])]
        have hv := (h2 d (List.mem_cons_self ..)).2
        rw [hf0, hP e (List.mem_cons_self ..) d (List.mem_cons_self ..)] at hv
        refine ⟨⟨by simp [heq], hv⟩, fun a ha => ?_, fun b hb => ?_⟩
        · obtain ⟨q, hq, eq⟩ := h1 a (List.mem_cons_of_mem _ ha)
          rcases List.mem_cons.mp hq with rfl | hq
          · have := hep.1 a ha
            rw [heq, eq] at this
            exact absurd this (List.lt_irrefl _)
          · exact ⟨q, hq, eq⟩
        · have := h2 b (List.mem_cons_of_mem _ hb)
          rwa [skip (by rw [heq]; exact hdp.1 b hb)] at this
      · rintro ⟨⟨h0, hv⟩, h1, h2⟩
        have heq : e.1 = d.1 := by simpa using h0
        refine ⟨fun a ha => ?_, fun b hb => ?_⟩
        · rcases List.mem_cons.mp ha with rfl | ha
          · exact ⟨d, List.mem_cons_self .., heq.symm⟩
          · obtain ⟨q, hq, eq⟩ := h1 a ha
            exact ⟨q, List.mem_cons_of_mem _ hq, eq⟩
        · rcases List.mem_cons.mp hb with rfl | hb
          · rw [List.map_cons, findD_fD, if_pos (by simp [heq])]
            exact ⟨nn, by rw [hP e (List.mem_cons_self ..) b (List.mem_cons_self ..)]; exact hv⟩
          · rw [skip (by rw [heq]; exact hdp.1 b hb)]
            exact h2 b hb
end Row

set_option maxHeartbeats 1000000
namespace Row
open PySem PySem.Spec PyProof.Rows L2 Pk
local macro_rules | `(tactic| walk_at "s") => `(tactic| first
  | with_reducible refine w_seq ?_ | with_reducible refine w_ret ?_ | with_reducible refine w_if ?_ | with_reducible refine w_and ?_ | with_reducible refine w_or ?_ | with_reducible refine w_bd ?_ | with_reducible refine w_rt ?_ | with_reducible refine w_nil ?_
  | ((with_reducible refine' w_ld ?h ?_); (case h => exact rfl)) | ((with_reducible refine' w_own ?h ?_); (case h => exact rfl)) | ((with_reducible refine' w_ldF ?h ?_); (case h => exact rfl)) | ((with_reducible refine' w_nxt ?h ?_); (case h => exact rfl))
  | with_reducible refine w_chain ?_ | with_reducible refine w_andV ?_ | with_reducible refine w_orV ?_ | with_reducible refine p_itT ?_ | with_reducible refine p_itF ?_ | with_reducible refine w_itT ?_ | with_reducible refine w_itF ?_ | with_reducible refine o_asB ?_ | with_reducible refine o_asI ?_ | with_reducible refine o_asS ?_ | with_reducible refine o_truB ?_ | with_reducible refine o_truN ?_ | with_reducible refine o_truT ?_ | with_reducible refine o_truL ?_
  | with_reducible refine o_intI ?_ | with_reducible refine o_intB ?_ | with_reducible refine o_lenT ?_ | with_reducible refine o_lenL ?_ | with_reducible refine o_lenR ?_ | with_reducible refine o_listT ?_ | with_reducible refine o_listL ?_ | with_reducible refine o_tupleT ?_ | with_reducible refine o_tupleL ?_
  | with_reducible refine o_addI ?_ | with_reducible refine o_subI ?_ | with_reducible refine o_negI ?_ | with_reducible refine o_minI ?_ | with_reducible refine o_maxI ?_ | with_reducible refine o_eqI ?_ | with_reducible refine o_neI ?_
  | with_reducible refine o_ltI ?_ | with_reducible refine o_leI ?_ | with_reducible refine o_gtI ?_ | with_reducible refine o_geI ?_ | with_reducible refine o_ltS ?_ | with_reducible refine o_leS ?_ | with_reducible refine o_gtS ?_ | with_reducible refine o_geS ?_ | with_reducible refine o_isN ?_ | with_reducible refine o_isNotN ?_
  | with_reducible refine o_mkT0 ?_ | with_reducible refine o_mkT1 ?_ | with_reducible refine o_mkT2 ?_ | with_reducible refine o_mkT3 ?_ | with_reducible refine o_mkT4 ?_ | with_reducible refine o_mkT5 ?_ | with_reducible refine o_mkL0 ?_ | with_reducible refine o_mkL1 ?_ | with_reducible refine o_mkL2 ?_ | with_reducible refine o_mkL3 ?_ | with_reducible refine o_mkL4 ?_ | with_reducible refine o_seqT ?_ | with_reducible refine o_seqL ?_ | with_reducible refine o_seqR ?_ | with_reducible refine w_itN ?_ | with_reducible refine p_itN ?_ | ((with_reducible refine' o_modI ?h ?_); (case h => decide)) | ((with_reducible refine' o_fdivI ?h ?h2 ?_); (case h => decide); (case h2 => decide)) | ((with_reducible refine' o_powI ?h ?h2 ?h3 ?_); (case h => decide); (case h2 => decide); (case h3 => decide))
  | ((with_reducible refine' o_eqS ?h ?h2 ?_); (case h => first | assumption | exact SOk.str (by assumption) | exact so_list | exact so_object | exact so_null | exact so_bool | exact so_int | exact so_text | exact SOk.str (sok_by (by decide +kernel))); (case h2 => first | assumption | exact SOk.str (by assumption) | exact so_list | exact so_object | exact so_null | exact so_bool | exact so_int | exact so_text | exact SOk.str (sok_by (by decide +kernel)))) | ((with_reducible refine' o_neS ?h ?h2 ?_); (case h => first | assumption | exact SOk.str (by assumption) | exact so_list | exact so_object | exact so_null | exact so_bool | exact so_int | exact so_text | exact SOk.str (sok_by (by decide +kernel))); (case h2 => first | assumption | exact SOk.str (by assumption) | exact so_list | exact so_object | exact so_null | exact so_bool | exact so_int | exact so_text | exact SOk.str (sok_by (by decide +kernel)))) | with_reducible refine o_ixh ?_ | ((with_reducible refine' o_ix ?h ?_); (case h => exact rfl)))
local macro_rules | `(tactic| walk_at "ix") => `(tactic| refine w_of (show ixD _ _ = some _ from rfl) ?_)
local macro_rules | `(tactic| walk_at "go") => `(tactic| (repeat walk_at "s"))
local macro_rules | `(tactic| walk_at "e1") => `(tactic| refine w_env (r' := [_]) rfl ?_)
local macro_rules | `(tactic| walk_at "e2") => `(tactic| refine w_env (r' := [_, _]) rfl ?_)
local macro_rules | `(tactic| walk_at "e3") => `(tactic| refine w_env (r' := [_, _, _]) rfl ?_)
local macro_rules | `(tactic| walk_at "e4") => `(tactic| refine w_env (r' := [_, _, _, _]) rfl ?_)
local macro_rules | `(tactic| walk_at "e") => `(tactic| first | refine w_env (r' := [_]) rfl ?_ | refine w_env (r' := [_, _]) rfl ?_ | refine w_env (r' := [_, _, _]) rfl ?_ | refine w_env (r' := [_, _, _, _]) rfl ?_ | refine w_env (r' := [_, _, _, _, _]) rfl ?_ | refine w_env (r' := [_, _, _, _, _, _]) rfl ?_ | refine w_env (r' := [_, _, _, _, _, _, _]) rfl ?_ | refine w_env (r' := [_, _, _, _, _, _, _, _]) rfl ?_ | refine w_env (r' := [_, _, _, _, _, _, _, _, _]) rfl ?_ | refine w_env (r' := [_, _, _, _, _, _, _, _, _, _]) rfl ?_ | refine w_env (r' := [_, _, _, _, _, _, _, _, _, _, _]) rfl ?_ | refine w_env (r' := [_, _, _, _, _, _, _, _, _, _, _, _]) rfl ?_)
local macro_rules | `(tactic| walk_at "br") => `(tactic| first | refine w_itD (fun hb => ?_) (fun hb => ?_) | refine w_itE (fun hb => ?_) (fun hb => ?_) | refine p_itD (fun hb => ?_) (fun hb => ?_) | refine p_itE (fun hb => ?_) (fun hb => ?_))
local macro_rules | `(tactic| walk_at "lit") => `(tactic| first | ((with_reducible refine' w_ifT ?h ?_); (case h => exact rfl)) | ((with_reducible refine' w_ifF ?h ?_); (case h => exact rfl)) | ((with_reducible refine' p_ifT ?h ?_); (case h => exact rfl)) | ((with_reducible refine' p_ifF ?h ?_); (case h => exact rfl)))
local macro_rules | `(tactic| walk_at "gl") => `(tactic| (repeat (first | walk_at "s" | walk_at "lit")))
theorem kd_two {k : Str} {r : List D} : kd (.tup (.str k :: r)) = k := rfl

theorem hold_eq : ∀ (n : Nat) {k m : Nat} {g v h : D}, IsJ n g → IsJ m v → 2 * n + 2 ≤ k → holdsF k (eqFm n g) v h = eqv v g := by
  intro n
  induction n with
  | zero => intro k m g v h hg; exact hg.elim
  | succ n ih =>
    intro k m g v h hg hv hk
    obtain ⟨k, rfl⟩ : ∃ k', k = k' + 4 := ⟨k - 4, by omega⟩
    have ne : ∀ {a b : String} {x y : D}, (Str.ofString a == Str.ofString b) = false → eqv (.tup [.str (Str.ofString a), x]) (.tup [.str (Str.ofString b), y]) = false := fun e => by
      rw [e2, e]; rfl
    rcases hg with rfl | ⟨b, rfl⟩ | ⟨i, rfl⟩ | ⟨x, hx, rfl⟩ | ⟨ds, hl, hd, rfl⟩ | ⟨fs, hl, hf, hp, rfl⟩
    · show (kd v == Str.ofString "null") = _
      cases m with
      | zero => exact hv.elim
      | succ m =>
        rcases hv with rfl | ⟨b, rfl⟩ | ⟨i, rfl⟩ | ⟨x, hx, rfl⟩ | ⟨es, _, _, rfl⟩ | ⟨es, _, _, _, rfl⟩
        · rw [e1]; rfl
        all_goals (rw [e21]; rfl)
    · rfl
    · show holdsF (k + 4) (bndF "int_from" i i) v h = _
      rw [bnd_hold, int_hold, int_hold]
      cases m with
      | zero => exact hv.elim
      | succ m =>
        rcases hv with rfl | ⟨b, rfl⟩ | ⟨j, rfl⟩ | ⟨x, hx, rfl⟩ | ⟨es, _, _, rfl⟩ | ⟨es, _, _, _, rfl⟩
        · rw [e12]; rfl
        · rw [ne rfl]; rfl
        · rw [e2, eqv_int]
          show ((true && decide (j ≥ i)) && !(true && decide (j ≥ i + 1))) = (true && decide (j = i))
          rw [Bool.true_and, Bool.true_and, Bool.true_and, int_dec]
        · rw [ne rfl]; rfl
        · rw [ne rfl]; rfl
        · rw [ne rfl]; rfl
    · rfl
    · show holdsF (k + 4) (itemsFm (ds.map (eqFm n))) v h = eqv v (lstD ds)
      rw [list_hold, bnd_hold, itm_hold, itm_hold, List.length_map]
      cases m with
      | zero => exact hv.elim
      | succ m =>
        have hv' := hv
        rcases hv with rfl | ⟨b, rfl⟩ | ⟨j, rfl⟩ | ⟨x, hx, rfl⟩ | ⟨es, _, hes, rfl⟩ | ⟨es, _, _, _, rfl⟩
        · rw [show eqv _ (lstD ds) = false from e12]; rfl
        · rw [show eqv _ (lstD ds) = false from ne rfl]; rfl
        · rw [show eqv _ (lstD ds) = false from ne rfl]; rfl
        · rw [show eqv _ (lstD ds) = false from ne rfl]; rfl
        · have hv' : IsJ (m + 1) (lstD es) := hv'
          show ((true && decide ((es.length : Int) ≥ ds.length)) && !(true && decide ((es.length : Int) ≥ (ds.length : Int) + 1)) && (((ds.map (eqFm n)).mapIdx fun i f => atF (.int i) f).all fun g => holdsF (k + 3) g (lstD es) h)) = eqv (lstD es) (lstD ds)
          have e0 : eqv (lstD es) (lstD ds) = eqAll es ds := by
            show eqv (.tup [.str (Str.ofString "list"), .tup es]) (.tup [.str (Str.ofString "list"), .tup ds]) = _
            rw [e2, eqv_tup]; simp
          rw [Bool.true_and, Bool.true_and, len_dec, e0]
          by_cases hlen : es.length = ds.length
          · rw [decide_eq_true hlen, Bool.true_and]
            rw [← list_all (P := fun e d => eqv e d) hlen fun i h1 h2 => rfl, Bool.eq_iff_iff, List.all_eq_true, List.all_eq_true]
            have step : ∀ i, i < ds.length → holdsF (k + 3) (atF (.int i) (eqFm n (ds.getD i .non))) (lstD es) h = eqv (es.getD i .non) (ds.getD i .non) := fun i hi => by
              have hi2 : i < es.length := by omega
              have ge : es.getD i .non = es[i] := by rw [List.getD_eq_getElem?_getD, List.getElem?_eq_getElem hi2]; rfl
              have gd : ds.getD i .non = ds[i] := by rw [List.getD_eq_getElem?_getD, List.getElem?_eq_getElem hi]; rfl
              have hj : IsJ m (es.getD i .non) := by rw [ge]; exact hes _ (List.getElem_mem hi2)
              have hw : walkD (lstD es) [.int i] = es.getD i .non := by
                rw [walkD_cons hv', child_list, if_pos ⟨by omega, by omega⟩]; rfl
              rw [at_hold, hw, hj.some.1, ih (by rw [gd]; exact hd _ (List.getElem_mem hi)) hj (by omega)]
              rfl
            constructor
            · intro q i hi
              have hi := List.mem_range.mp hi
              rw [← step i hi]
              refine q _ (List.mem_mapIdx.mpr ⟨i, by rw [List.length_map]; exact hi, ?_⟩)
              rw [List.getElem_map, List.getD_eq_getElem?_getD, List.getElem?_eq_getElem hi]; rfl
            · intro q g hg
              obtain ⟨i, hi, rfl⟩ := List.mem_mapIdx.mp hg
              rw [List.length_map] at hi
              have := q i (List.mem_range.mpr hi)
              rw [← step i hi] at this
              rw [List.getElem_map]
              rw [List.getD_eq_getElem?_getD, List.getElem?_eq_getElem hi] at this
              exact this
          · rw [decide_eq_false hlen, Bool.false_and]
            exact (Bool.eq_false_iff.mpr fun h => hlen (eqAll_len h)).symm
        · rw [show eqv _ (lstD ds) = false from ne rfl]; rfl
    · show holdsF (k + 4) (fieldsFm ((fs.map fD).map fun g => (kd g, eqFm n (nth g 1)))) v h = eqv v (objD fs)
      have hgs : ((fs.map fD).map fun g => (kd g, eqFm n (nth g 1))) = fs.map fun f => (f.1, eqFm n f.2) := by rw [List.map_map]; rfl
      rw [hgs, obj_hold]
      cases m with
      | zero => exact hv.elim
      | succ m =>
        have hv' := hv
        rcases hv with rfl | ⟨b, rfl⟩ | ⟨j, rfl⟩ | ⟨x, hx, rfl⟩ | ⟨es, _, hes, rfl⟩ | ⟨es, _, hef, hep, rfl⟩
        · rw [show eqv _ (objD fs) = false from e12]; rfl
        · rw [show eqv _ (objD fs) = false from ne rfl]; rfl
        · rw [show eqv _ (objD fs) = false from ne rfl]; rfl
        · rw [show eqv _ (objD fs) = false from ne rfl]; rfl
        · rw [show eqv _ (objD fs) = false from ne rfl]; rfl
        · have hv' : IsJ (m + 1) (objD es) := hv'
          have e0 : eqv (objD es) (objD fs) = eqAll (es.map fD) (fs.map fD) := by
            show eqv (.tup [.str (Str.ofString "object"), .tup (es.map fD)]) (.tup [.str (Str.ofString "object"), .tup (fs.map fD)]) = _
            rw [e2, eqv_tup]; simp
          show ((true && (((es.map fD).filter fun g => !((((fs.map fun f => (f.1, eqFm n f.2)).map Prod.fst).map D.str).any fun z => eqv z (.str (kd g)))).all fun g => holdsF (k + 2) (.tup [.str (Str.ofString "false")]) (nth g 1) .non)) && ((fs.map fun f => (f.1, eqFm n f.2)).map fun g => atF (.str g.1) g.2).all fun g => holdsF (k + 3) g (objD es) h) = eqv (objD es) (objD fs)
          have fe : FOk m es := ⟨hef, hep⟩
          have ff : FOk n fs := ⟨hf, hp⟩
          rw [e0, Bool.eq_iff_iff, ← obj_all (fun e d => eqv e d) fe ff fun _ _ _ _ => rfl, Bool.true_and, Bool.and_eq_true, List.all_eq_true, List.all_eq_true]
          refine and_congr ⟨fun q e he => ?_, fun q g hg => ?_⟩ ⟨fun q d hd => ?_, fun q g hg => ?_⟩
          · by_cases hm : ∃ d ∈ fs, d.1 = e.1
            · exact hm
            · have := q (fD e) (List.mem_filter.mpr ⟨List.mem_map.mpr ⟨e, he, rfl⟩, ?_⟩)
              · rw [no_hold] at this; cases this
              · rw [Bool.not_eq_true', List.any_eq_false]
                intro z hz
                obtain ⟨y, hy, rfl⟩ := List.mem_map.mp hz
                obtain ⟨p, hp', rfl⟩ := List.mem_map.mp hy
                obtain ⟨d, hd, rfl⟩ := List.mem_map.mp hp'
                show ¬ eqv (.str d.1) (.str e.1) = true
                rw [eqv_str]
                exact fun z => hm ⟨d, hd, by simpa using z⟩
          · obtain ⟨hg1, hg2⟩ := List.mem_filter.mp hg
            obtain ⟨e, he, rfl⟩ := List.mem_map.mp hg1
            obtain ⟨d, hd, ed⟩ := q e he
            rw [Bool.not_eq_true', List.any_eq_false] at hg2
            refine absurd ?_ (hg2 (.str d.1) (List.mem_map.mpr ⟨d.1, List.mem_map.mpr ⟨_, List.mem_map.mpr ⟨d, hd, rfl⟩, rfl⟩, rfl⟩))
            show eqv (.str d.1) (.str e.1) = true
            rw [eqv_str, ed]; simp
          · have := q (atF (.str d.1) (eqFm n d.2)) (List.mem_map.mpr ⟨_, List.mem_map.mpr ⟨d, hd, rfl⟩, rfl⟩)
            have hw : walkD (objD es) [.str d.1] = findD d.1 (es.map fD) := by
              rw [walkD_cons hv', child_obj]; rfl
            rw [at_hold, hw, Bool.and_eq_true] at this
            have hnn : findD d.1 (es.map fD) ≠ .non := by
              intro z
              rw [z] at this
              exact absurd this.1 (by decide)
            refine ⟨hnn, ?_⟩
            have hj : IsJ (m + 1) (findD d.1 (es.map fD)) := by
              have := child_ok hv' (.inl ⟨d.1, (hf d hd).1, rfl⟩)
              rw [child_obj] at this
              exact this.resolve_left hnn
            rw [ih (hf d hd).2 hj (by omega)] at this
            exact this.2
          · obtain ⟨p, hp', rfl⟩ := List.mem_map.mp hg
            obtain ⟨d, hd, rfl⟩ := List.mem_map.mp hp'
            obtain ⟨hnn, he⟩ := q d hd
            have hw : walkD (objD es) [.str d.1] = findD d.1 (es.map fD) := by
              rw [walkD_cons hv', child_obj]; rfl
            have hj : IsJ (m + 1) (findD d.1 (es.map fD)) := by
              have := child_ok hv' (.inl ⟨d.1, (hf d hd).1, rfl⟩)
              rw [child_obj] at this
              exact this.resolve_left hnn
            rw [at_hold, hw, hj.some.1, ih (hf d hd).2 hj (by omega), he]
            rfl
end Row

set_option maxHeartbeats 1000000
namespace Row
open PySem PySem.Spec PyProof.Rows L2 Pk
local macro_rules | `(tactic| walk_at "s") => `(tactic| first
  | with_reducible refine w_seq ?_ | with_reducible refine w_ret ?_ | with_reducible refine w_if ?_ | with_reducible refine w_and ?_ | with_reducible refine w_or ?_ | with_reducible refine w_bd ?_ | with_reducible refine w_rt ?_ | with_reducible refine w_nil ?_
  | ((with_reducible refine' w_ld ?h ?_); (case h => exact rfl)) | ((with_reducible refine' w_own ?h ?_); (case h => exact rfl)) | ((with_reducible refine' w_ldF ?h ?_); (case h => exact rfl)) | ((with_reducible refine' w_nxt ?h ?_); (case h => exact rfl))
  | with_reducible refine w_chain ?_ | with_reducible refine w_andV ?_ | with_reducible refine w_orV ?_ | with_reducible refine p_itT ?_ | with_reducible refine p_itF ?_ | with_reducible refine w_itT ?_ | with_reducible refine w_itF ?_ | with_reducible refine o_asB ?_ | with_reducible refine o_asI ?_ | with_reducible refine o_asS ?_ | with_reducible refine o_truB ?_ | with_reducible refine o_truN ?_ | with_reducible refine o_truT ?_ | with_reducible refine o_truL ?_
  | with_reducible refine o_intI ?_ | with_reducible refine o_intB ?_ | with_reducible refine o_lenT ?_ | with_reducible refine o_lenL ?_ | with_reducible refine o_lenR ?_ | with_reducible refine o_listT ?_ | with_reducible refine o_listL ?_ | with_reducible refine o_tupleT ?_ | with_reducible refine o_tupleL ?_
  | with_reducible refine o_addI ?_ | with_reducible refine o_subI ?_ | with_reducible refine o_negI ?_ | with_reducible refine o_minI ?_ | with_reducible refine o_maxI ?_ | with_reducible refine o_eqI ?_ | with_reducible refine o_neI ?_
  | with_reducible refine o_ltI ?_ | with_reducible refine o_leI ?_ | with_reducible refine o_gtI ?_ | with_reducible refine o_geI ?_ | with_reducible refine o_ltS ?_ | with_reducible refine o_leS ?_ | with_reducible refine o_gtS ?_ | with_reducible refine o_geS ?_ | with_reducible refine o_isN ?_ | with_reducible refine o_isNotN ?_
  | with_reducible refine o_mkT0 ?_ | with_reducible refine o_mkT1 ?_ | with_reducible refine o_mkT2 ?_ | with_reducible refine o_mkT3 ?_ | with_reducible refine o_mkT4 ?_ | with_reducible refine o_mkT5 ?_ | with_reducible refine o_mkL0 ?_ | with_reducible refine o_mkL1 ?_ | with_reducible refine o_mkL2 ?_ | with_reducible refine o_mkL3 ?_ | with_reducible refine o_mkL4 ?_ | with_reducible refine o_seqT ?_ | with_reducible refine o_seqL ?_ | with_reducible refine o_seqR ?_ | with_reducible refine w_itN ?_ | with_reducible refine p_itN ?_ | ((with_reducible refine' o_modI ?h ?_); (case h => decide)) | ((with_reducible refine' o_fdivI ?h ?h2 ?_); (case h => decide); (case h2 => decide)) | ((with_reducible refine' o_powI ?h ?h2 ?h3 ?_); (case h => decide); (case h2 => decide); (case h3 => decide))
  | ((with_reducible refine' o_eqS ?h ?h2 ?_); (case h => first | assumption | exact SOk.str (by assumption) | exact so_list | exact so_object | exact so_null | exact so_bool | exact so_int | exact so_text | exact SOk.str (sok_by (by decide +kernel))); (case h2 => first | assumption | exact SOk.str (by assumption) | exact so_list | exact so_object | exact so_null | exact so_bool | exact so_int | exact so_text | exact SOk.str (sok_by (by decide +kernel)))) | ((with_reducible refine' o_neS ?h ?h2 ?_); (case h => first | assumption | exact SOk.str (by assumption) | exact so_list | exact so_object | exact so_null | exact so_bool | exact so_int | exact so_text | exact SOk.str (sok_by (by decide +kernel))); (case h2 => first | assumption | exact SOk.str (by assumption) | exact so_list | exact so_object | exact so_null | exact so_bool | exact so_int | exact so_text | exact SOk.str (sok_by (by decide +kernel)))) | with_reducible refine o_ixh ?_ | ((with_reducible refine' o_ix ?h ?_); (case h => exact rfl)))
local macro_rules | `(tactic| walk_at "ix") => `(tactic| refine w_of (show ixD _ _ = some _ from rfl) ?_)
local macro_rules | `(tactic| walk_at "go") => `(tactic| (repeat walk_at "s"))
local macro_rules | `(tactic| walk_at "e1") => `(tactic| refine w_env (r' := [_]) rfl ?_)
local macro_rules | `(tactic| walk_at "e2") => `(tactic| refine w_env (r' := [_, _]) rfl ?_)
local macro_rules | `(tactic| walk_at "e3") => `(tactic| refine w_env (r' := [_, _, _]) rfl ?_)
local macro_rules | `(tactic| walk_at "e4") => `(tactic| refine w_env (r' := [_, _, _, _]) rfl ?_)
local macro_rules | `(tactic| walk_at "e") => `(tactic| first | refine w_env (r' := [_]) rfl ?_ | refine w_env (r' := [_, _]) rfl ?_ | refine w_env (r' := [_, _, _]) rfl ?_ | refine w_env (r' := [_, _, _, _]) rfl ?_ | refine w_env (r' := [_, _, _, _, _]) rfl ?_ | refine w_env (r' := [_, _, _, _, _, _]) rfl ?_ | refine w_env (r' := [_, _, _, _, _, _, _]) rfl ?_ | refine w_env (r' := [_, _, _, _, _, _, _, _]) rfl ?_ | refine w_env (r' := [_, _, _, _, _, _, _, _, _]) rfl ?_ | refine w_env (r' := [_, _, _, _, _, _, _, _, _, _]) rfl ?_ | refine w_env (r' := [_, _, _, _, _, _, _, _, _, _, _]) rfl ?_ | refine w_env (r' := [_, _, _, _, _, _, _, _, _, _, _, _]) rfl ?_)
local macro_rules | `(tactic| walk_at "br") => `(tactic| first | refine w_itD (fun hb => ?_) (fun hb => ?_) | refine w_itE (fun hb => ?_) (fun hb => ?_) | refine p_itD (fun hb => ?_) (fun hb => ?_) | refine p_itE (fun hb => ?_) (fun hb => ?_))
local macro_rules | `(tactic| walk_at "lit") => `(tactic| first | ((with_reducible refine' w_ifT ?h ?_); (case h => exact rfl)) | ((with_reducible refine' w_ifF ?h ?_); (case h => exact rfl)) | ((with_reducible refine' p_ifT ?h ?_); (case h => exact rfl)) | ((with_reducible refine' p_ifF ?h ?_); (case h => exact rfl)))
local macro_rules | `(tactic| walk_at "gl") => `(tactic| (repeat (first | walk_at "s" | walk_at "lit")))
mutual

def sz : D → Nat
  | .tup ds => 1 + szs ds
  | .lst ds => 1 + szs ds
  | _ => 1

def szs : List D → Nat
  | [] => 0
  | d :: ds => sz d + szs ds

end

theorem sz_tup (ds : List D) : sz (.tup ds) = 1 + szs ds := by rw [sz]

theorem szs_cons (d : D) (ds : List D) : szs (d :: ds) = sz d + szs ds := by rw [szs]

theorem szs_nil : szs [] = 0 := by rw [szs]

theorem sz_str (x : Str) : sz (.str x) = 1 := by rw [sz]; all_goals (intro _ h; cases h)

theorem sz_int (x : Int) : sz (.int x) = 1 := by rw [sz]; all_goals (intro _ h; cases h)

theorem sz_bl (x : Bool) : sz (.bl x) = 1 := by rw [sz]; all_goals (intro _ h; cases h)

theorem sz_pos (d : D) : 1 ≤ sz d := by
  cases d with
  | tup ds => rw [sz_tup]; omega
  | lst ds => rw [sz]; omega
  | _ => simp [sz]

theorem szs_app : ∀ (a b : List D), szs (a ++ b) = szs a + szs b
  | [], b => by rw [List.nil_append, szs_nil, Nat.zero_add]
  | d :: a, b => by rw [List.cons_append, szs_cons, szs_cons, szs_app a b, Nat.add_assoc]

theorem szs_len : ∀ (a : List D), a.length ≤ szs a
  | [] => Nat.zero_le _
  | d :: a => by rw [List.length_cons, szs_cons]; have := szs_len a; have := sz_pos d; omega

theorem szs_map_le {α : Type} {f : α → D} {g : α → Nat} : ∀ {xs : List α}, (∀ x ∈ xs, sz (f x) ≤ g x) → szs (xs.map f) ≤ (xs.map g).sum
  | [], _ => by rw [List.map_nil, szs_nil]; exact Nat.zero_le _
  | x :: xs, h => by
    rw [List.map_cons, szs_cons, List.map_cons, List.sum_cons]
    exact Nat.add_le_add (h x (List.mem_cons_self ..)) (szs_map_le fun y hy => h y (List.mem_cons_of_mem _ hy))

inductive EF : Nat → D → Prop
  | fa {n : Nat} : EF (n + 1) (.tup [.str (Str.ofString "false")])
  | neg {n : Nat} {f : D} : EF n f → EF (n + 1) (.tup [.str (Str.ofString "not"), f])
  | and {n : Nat} {fs : List D} : (∀ f ∈ fs, EF n f) → fs.length ≤ 1000 → EF (n + 1) (.tup [.str (Str.ofString "and"), .tup fs])
  | pos {n : Nat} {t f : D} : ((∃ x, SOk x ∧ t = .str x) ∨ ∃ i : Int, 0 ≤ i ∧ t = .int i) → EF n f → EF (n + 1) (.tup [.str (Str.ofString "at"), .tup [t], f])
  | null {n : Nat} : EF (n + 1) (.tup [.str (Str.ofString "kind"), .str (Str.ofString "null")])
  | int_from {n : Nat} {i : Int} : EF (n + 1) (.tup [.str (Str.ofString "int_from"), .int i])
  | bool_is {n : Nat} {c : Bool} : EF (n + 1) (.tup [.str (Str.ofString "bool_is"), .bl c])
  | text_is {n : Nat} {x : Str} : SOk x → EF (n + 1) (.tup [.str (Str.ofString "text_is"), .str x])
  | items_from {n : Nat} {i : Int} : 0 ≤ i → EF (n + 1) (.tup [.str (Str.ofString "items_from"), .int i])
  | each_field {n : Nat} {xs : List Str} {f : D} : (∀ x ∈ xs, SOk x) → xs.length ≤ 1000 → EF n f → EF (n + 1) (.tup [.str (Str.ofString "each_field"), .tup (xs.map D.str), f])

theorem EF.fo {n : Nat} {f : D} (h : EF n f) : Fo false n f := by
  induction h with
  | fa => exact .fa
  | neg _ ih => exact .neg ih
  | and _ hl ih => exact .and ih hl
  | pos ht _ ih => exact .pos (fun t' h' => by obtain rfl := List.mem_singleton.mp h'; exact ht.imp id fun ⟨i, _, e⟩ => ⟨i, e⟩) (by simp) ih
  | null => exact .kind (sok_by (by decide +kernel))
  | int_from => exact .int_from
  | bool_is => exact .bool_is
  | text_is h => exact .text_is h
  | items_from _ => exact .items_from
  | each_field h hl _ ih => exact .each_field h hl ih

theorem EF.up {n : Nat} {f : D} (h : EF n f) : EF (n + 1) f := by
  induction h with
  | fa => exact .fa
  | neg _ ih => exact .neg ih
  | and _ hl ih => exact .and ih hl
  | pos ht _ ih => exact .pos ht ih
  | null => exact .null
  | int_from => exact .int_from
  | bool_is => exact .bool_is
  | text_is h => exact .text_is h
  | items_from h => exact .items_from h
  | each_field h hl _ ih => exact .each_field h hl ih

theorem EF.le {n m : Nat} {f : D} (h : EF n f) (hm : n ≤ m) : EF m f := by
  induction hm with
  | refl => exact h
  | step _ ih => exact ih.up

theorem bnd_ef {n : Nat} {w : String} {c : Int} (h : ∀ {n : Nat} {i : Int}, c ≤ i → EF (n + 1) (.tup [.str (Str.ofString w), .int i])) : EF (n + 3) (bndF w c c) := by
  refine .and (fun f hf => ?_) (by simp)
  simp only [List.mem_cons, List.not_mem_nil, or_false] at hf
  rcases hf with rfl | rfl
  · exact h (Int.le_refl _)
  · exact .neg (h (by omega))

theorem bnd_sz {w : String} {c : Int} : sz (bndF w c c) = 11 := by
  unfold bndF
  simp only [sz_tup, szs_cons, szs_nil, sz_str, sz_int]

theorem eq_ef : ∀ (n : Nat) {v : D}, IsJ n v → EF (2 * n + 2) (eqFm n v) ∧ sz (eqFm n v) + 4 ≤ 8 * sz v := by
  intro n
  induction n with
  | zero => intro v h; exact h.elim
  | succ n ih =>
    intro v hv
    rcases hv with rfl | ⟨b, rfl⟩ | ⟨i, rfl⟩ | ⟨x, hx, rfl⟩ | ⟨ds, hl, hd, rfl⟩ | ⟨fs, hl, hf, hp, rfl⟩
    · exact ⟨.null, by show sz (.tup [_, _]) + 4 ≤ _; simp only [sz_tup, szs_cons, szs_nil, sz_str]; omega⟩
    · exact ⟨.bool_is, by show sz (.tup [_, .bl b]) + 4 ≤ _; simp only [sz_tup, szs_cons, szs_nil, sz_str, sz_bl]; omega⟩
    · refine ⟨?_, ?_⟩
      · show EF (2 * (n + 1) + 2) (bndF "int_from" i i)
        exact (bnd_ef (n := 1) fun _ => .int_from).le (by omega)
      · show sz (bndF "int_from" i i) + 4 ≤ _
        rw [bnd_sz]; simp only [sz_tup, szs_cons, szs_nil, sz_str, sz_int]; omega
    · exact ⟨.text_is hx, by show sz (.tup [_, .str x]) + 4 ≤ _; simp only [sz_tup, szs_cons, szs_nil, sz_str]; omega⟩
    · refine ⟨?_, ?_⟩
      · show EF (2 * n + 3 + 1) (itemsFm (ds.map (eqFm n)))
        refine .and (fun f hf => ?_) (by simp; omega)
        rcases List.mem_cons.mp hf with rfl | hf
        · exact (bnd_ef (n := 0) fun h => .items_from (by omega)).le (by omega)
        · obtain ⟨i, hi, rfl⟩ := List.mem_mapIdx.mp hf
          rw [List.length_map] at hi
          rw [List.getElem_map]
          exact .pos (.inr ⟨_, by omega, rfl⟩) (ih (hd _ (List.getElem_mem hi))).1
      · show sz (itemsFm (ds.map (eqFm n))) + 4 ≤ 8 * sz (.tup [.str _, .tup ds])
        have key : ∀ (es : List D) (c : Nat), (∀ e ∈ es, sz (eqFm n e) + 4 ≤ 8 * sz e) → szs ((es.map (eqFm n)).mapIdx fun i f => atF (.int ((i + c : Nat) : Int)) f) ≤ 8 * szs es := by
          intro es
          induction es with
          | nil => intro c _; simp [szs_nil]
          | cons e es ihe =>
            intro c h
            have h0 := h e (List.mem_cons_self ..)
            have h1 := ihe (c + 1) fun a ha => h a (List.mem_cons_of_mem _ ha)
            rw [List.map_cons, List.mapIdx_cons, szs_cons, szs_cons]
            have h2 : ((es.map (eqFm n)).mapIdx fun i f => atF (.int ((i + 1 + c : Nat) : Int)) f) = ((es.map (eqFm n)).mapIdx fun i f => atF (.int ((i + (c + 1) : Nat) : Int)) f) := by
              congr 1; funext i f; rw [show i + 1 + c = i + (c + 1) by omega]
            rw [h2]
            have h3 : sz (atF (.int ((0 + c : Nat) : Int)) (eqFm n e)) = 4 + sz (eqFm n e) := by
              unfold atF; simp only [sz_tup, szs_cons, szs_nil, sz_str, sz_int]; omega
            omega
        have := key ds 0 fun e he => (ih (hd e he)).2
        simp only [Nat.add_zero] at this
        unfold itemsFm
        simp only [sz_tup, szs_cons, szs_nil, sz_str, bnd_sz]
        omega
    · refine ⟨?_, ?_⟩
      · show EF (2 * n + 3 + 1) (fieldsFm ((fs.map fD).map fun g => (kd g, eqFm n (nth g 1))))
        rw [show ((fs.map fD).map fun g => (kd g, eqFm n (nth g 1))) = fs.map fun f => (f.1, eqFm n f.2) by rw [List.map_map]; rfl]
        refine .and (fun f hf' => ?_) (by simp; omega)
        rcases List.mem_cons.mp hf' with rfl | hf'
        · refine .each_field (fun x hx => ?_) (by simp; omega) (.fa (n := 2 * n + 1))
          obtain ⟨p, hp', rfl⟩ := List.mem_map.mp hx
          obtain ⟨q, hq, rfl⟩ := List.mem_map.mp hp'
          exact (hf q hq).1
        · obtain ⟨p, hp', rfl⟩ := List.mem_map.mp hf'
          obtain ⟨q, hq, rfl⟩ := List.mem_map.mp hp'
          exact .pos (.inl ⟨_, (hf q hq).1, rfl⟩) (ih (hf q hq).2).1
      · show sz (fieldsFm ((fs.map fD).map fun g => (kd g, eqFm n (nth g 1)))) + 4 ≤ 8 * sz (.tup [.str _, .tup (fs.map fD)])
        rw [show ((fs.map fD).map fun g => (kd g, eqFm n (nth g 1))) = fs.map fun f => (f.1, eqFm n f.2) by rw [List.map_map]; rfl]
        have key : ∀ (es : List (Str × D)), (∀ e ∈ es, sz (eqFm n e.2) + 4 ≤ 8 * sz e.2) → szs ((es.map fun f => (f.1, eqFm n f.2)).map fun g => atF (.str g.1) g.2) + szs (((es.map fun f => (f.1, eqFm n f.2)).map Prod.fst).map D.str) ≤ 8 * szs (es.map fD) := by
          intro es
          induction es with
          | nil => intro _; simp [szs_nil]
          | cons e es ihe =>
            intro h
            have h0 := h e (List.mem_cons_self ..)
            have h1 := ihe fun a ha => h a (List.mem_cons_of_mem _ ha)
            simp only [List.map_cons, szs_cons]
            have h3 : sz (atF (.str e.1) (eqFm n e.2)) = 4 + sz (eqFm n e.2) := by
              unfold atF; simp only [sz_tup, szs_cons, szs_nil, sz_str]; omega
            have h4 : sz (fD e) = 2 + sz e.2 := by
              show sz (.tup [.str e.1, e.2]) = _
              simp only [sz_tup, szs_cons, szs_nil, sz_str]; omega
            have h5 := sz_str e.1
            omega
        have := key fs fun e he => (ih (hf e he).2).2
        unfold fieldsFm
        simp only [sz_tup, szs_cons, szs_nil, sz_str]
        omega
end Row

set_option maxHeartbeats 1000000
namespace Row
open PySem PySem.Spec PyProof.Rows L2 Pk
local macro_rules | `(tactic| walk_at "s") => `(tactic| first
  | with_reducible refine w_seq ?_ | with_reducible refine w_ret ?_ | with_reducible refine w_if ?_ | with_reducible refine w_and ?_ | with_reducible refine w_or ?_ | with_reducible refine w_bd ?_ | with_reducible refine w_rt ?_ | with_reducible refine w_nil ?_
  | ((with_reducible refine' w_ld ?h ?_); (case h => exact rfl)) | ((with_reducible refine' w_own ?h ?_); (case h => exact rfl)) | ((with_reducible refine' w_ldF ?h ?_); (case h => exact rfl)) | ((with_reducible refine' w_nxt ?h ?_); (case h => exact rfl))
  | with_reducible refine w_chain ?_ | with_reducible refine w_andV ?_ | with_reducible refine w_orV ?_ | with_reducible refine p_itT ?_ | with_reducible refine p_itF ?_ | with_reducible refine w_itT ?_ | with_reducible refine w_itF ?_ | with_reducible refine o_asB ?_ | with_reducible refine o_asI ?_ | with_reducible refine o_asS ?_ | with_reducible refine o_truB ?_ | with_reducible refine o_truN ?_ | with_reducible refine o_truT ?_ | with_reducible refine o_truL ?_
  | with_reducible refine o_intI ?_ | with_reducible refine o_intB ?_ | with_reducible refine o_lenT ?_ | with_reducible refine o_lenL ?_ | with_reducible refine o_lenR ?_ | with_reducible refine o_listT ?_ | with_reducible refine o_listL ?_ | with_reducible refine o_tupleT ?_ | with_reducible refine o_tupleL ?_
  | with_reducible refine o_addI ?_ | with_reducible refine o_subI ?_ | with_reducible refine o_negI ?_ | with_reducible refine o_minI ?_ | with_reducible refine o_maxI ?_ | with_reducible refine o_eqI ?_ | with_reducible refine o_neI ?_
  | with_reducible refine o_ltI ?_ | with_reducible refine o_leI ?_ | with_reducible refine o_gtI ?_ | with_reducible refine o_geI ?_ | with_reducible refine o_ltS ?_ | with_reducible refine o_leS ?_ | with_reducible refine o_gtS ?_ | with_reducible refine o_geS ?_ | with_reducible refine o_isN ?_ | with_reducible refine o_isNotN ?_
  | with_reducible refine o_mkT0 ?_ | with_reducible refine o_mkT1 ?_ | with_reducible refine o_mkT2 ?_ | with_reducible refine o_mkT3 ?_ | with_reducible refine o_mkT4 ?_ | with_reducible refine o_mkT5 ?_ | with_reducible refine o_mkL0 ?_ | with_reducible refine o_mkL1 ?_ | with_reducible refine o_mkL2 ?_ | with_reducible refine o_mkL3 ?_ | with_reducible refine o_mkL4 ?_ | with_reducible refine o_seqT ?_ | with_reducible refine o_seqL ?_ | with_reducible refine o_seqR ?_ | with_reducible refine w_itN ?_ | with_reducible refine p_itN ?_ | ((with_reducible refine' o_modI ?h ?_); (case h => decide)) | ((with_reducible refine' o_fdivI ?h ?h2 ?_); (case h => decide); (case h2 => decide)) | ((with_reducible refine' o_powI ?h ?h2 ?h3 ?_); (case h => decide); (case h2 => decide); (case h3 => decide))
  | ((with_reducible refine' o_eqS ?h ?h2 ?_); (case h => first | assumption | exact SOk.str (by assumption) | exact so_list | exact so_object | exact so_null | exact so_bool | exact so_int | exact so_text | exact SOk.str (sok_by (by decide +kernel))); (case h2 => first | assumption | exact SOk.str (by assumption) | exact so_list | exact so_object | exact so_null | exact so_bool | exact so_int | exact so_text | exact SOk.str (sok_by (by decide +kernel)))) | ((with_reducible refine' o_neS ?h ?h2 ?_); (case h => first | assumption | exact SOk.str (by assumption) | exact so_list | exact so_object | exact so_null | exact so_bool | exact so_int | exact so_text | exact SOk.str (sok_by (by decide +kernel))); (case h2 => first | assumption | exact SOk.str (by assumption) | exact so_list | exact so_object | exact so_null | exact so_bool | exact so_int | exact so_text | exact SOk.str (sok_by (by decide +kernel)))) | with_reducible refine o_ixh ?_ | ((with_reducible refine' o_ix ?h ?_); (case h => exact rfl)))
local macro_rules | `(tactic| walk_at "ix") => `(tactic| refine w_of (show ixD _ _ = some _ from rfl) ?_)
local macro_rules | `(tactic| walk_at "go") => `(tactic| (repeat walk_at "s"))
local macro_rules | `(tactic| walk_at "e1") => `(tactic| refine w_env (r' := [_]) rfl ?_)
local macro_rules | `(tactic| walk_at "e2") => `(tactic| refine w_env (r' := [_, _]) rfl ?_)
local macro_rules | `(tactic| walk_at "e3") => `(tactic| refine w_env (r' := [_, _, _]) rfl ?_)
local macro_rules | `(tactic| walk_at "e4") => `(tactic| refine w_env (r' := [_, _, _, _]) rfl ?_)
local macro_rules | `(tactic| walk_at "e") => `(tactic| first | refine w_env (r' := [_]) rfl ?_ | refine w_env (r' := [_, _]) rfl ?_ | refine w_env (r' := [_, _, _]) rfl ?_ | refine w_env (r' := [_, _, _, _]) rfl ?_ | refine w_env (r' := [_, _, _, _, _]) rfl ?_ | refine w_env (r' := [_, _, _, _, _, _]) rfl ?_ | refine w_env (r' := [_, _, _, _, _, _, _]) rfl ?_ | refine w_env (r' := [_, _, _, _, _, _, _, _]) rfl ?_ | refine w_env (r' := [_, _, _, _, _, _, _, _, _]) rfl ?_ | refine w_env (r' := [_, _, _, _, _, _, _, _, _, _]) rfl ?_ | refine w_env (r' := [_, _, _, _, _, _, _, _, _, _, _]) rfl ?_ | refine w_env (r' := [_, _, _, _, _, _, _, _, _, _, _, _]) rfl ?_)
local macro_rules | `(tactic| walk_at "br") => `(tactic| first | refine w_itD (fun hb => ?_) (fun hb => ?_) | refine w_itE (fun hb => ?_) (fun hb => ?_) | refine p_itD (fun hb => ?_) (fun hb => ?_) | refine p_itE (fun hb => ?_) (fun hb => ?_))
local macro_rules | `(tactic| walk_at "lit") => `(tactic| first | ((with_reducible refine' w_ifT ?h ?_); (case h => exact rfl)) | ((with_reducible refine' w_ifF ?h ?_); (case h => exact rfl)) | ((with_reducible refine' p_ifT ?h ?_); (case h => exact rfl)) | ((with_reducible refine' p_ifF ?h ?_); (case h => exact rfl)))
local macro_rules | `(tactic| walk_at "gl") => `(tactic| (repeat (first | walk_at "s" | walk_at "lit")))
def prT (g : D) : D := .tup [g, .bl true]

theorem pys_lits : ∀ {xs : List Str}, (∀ x ∈ xs, PyData.strOk x = true) → PyData.canLayAll0 (pys (xs.map D.str)) = true
  | [], _ => rfl
  | x :: xs, h => by
    show (PyData.canLay0 (D.str x).py && PyData.canLayAll0 (pys (xs.map D.str))) = true
    rw [pys_lits fun y hy => h y (List.mem_cons_of_mem _ hy), D.py, PyData.canLay0, h x (List.mem_cons_self ..)]; rfl

theorem okIn_lits {y : Str} (hy : PyData.strOk y = true) {xs : List Str} (h : ∀ x ∈ xs, PyData.strOk x = true) : okIn (.str y) (xs.map D.str) = true := by
  unfold okIn
  rw [pys_lits h, D.py, PyData.canLay0, hy]
  rfl

theorem nstr_ok {N : Nat} (hN : 1 ≤ N) (i : Int) : wp (sem N .l_is_string) (fun d r' => d = .bl false ∧ r' = [some (.d (.int i))]) [some (.d (.int i))] := by
  obtain ⟨n, rfl⟩ := lev (by omega) hN
  rw [sem_succ]
  refine w_body (by rfl) ?_
  delta b_l_is_string
  walk_at "gl"
  refine o_isi (show isiD "str" (.int i) = some (.bl false) from rfl) ?_
  walk_at "gl"
  exact ⟨rfl, rfl⟩

theorem lits2 {y : Str} (hy : PyData.strOk y = true) : okIn (.str y) [.str (Str.ofString "text_from"), .str (Str.ofString "items_from")] = true :=
  okIn_lits (xs := [Str.ofString "text_from", Str.ofString "items_from"]) hy fun x hx => by
    simp only [List.mem_cons, List.not_mem_nil, or_false] at hx
    rcases hx with rfl | rfl <;> exact SOk.str (sok_by (by decide +kernel))

theorem lits6 {y : Str} (hy : PyData.strOk y = true) : okIn (.str y) [.str (Str.ofString "null"), .str (Str.ofString "bool"), .str (Str.ofString "int"), .str (Str.ofString "text"), .str (Str.ofString "list"), .str (Str.ofString "object")] = true :=
  okIn_lits (xs := [Str.ofString "null", Str.ofString "bool", Str.ofString "int", Str.ofString "text", Str.ofString "list", Str.ofString "object"]) hy fun x hx => by
    simp only [List.mem_cons, List.not_mem_nil, or_false] at hx
    rcases hx with rfl | rfl | rfl | rfl | rfl | rfl <;> exact SOk.str (sok_by (by decide +kernel))

theorem wordok {s : String} (h : ((Str.ofString s).cps.toList.all (fun c => decide (COk c)) && decide ((Str.ofString s).length ≤ 100)) = true) : PyData.strOk (Str.ofString s) = true := SOk.str (sok_by h)

theorem tok_ok {N : Nat} (hN : 2 ≤ N) {t : D} (ht : (∃ x, SOk x ∧ t = .str x) ∨ ∃ i : Int, 0 ≤ i ∧ t = .int i) : wp (sem N .l_is_token) (fun d r' => d = .bl true ∧ r' = [some (.d t)]) [some (.d t)] := by
  obtain ⟨n, rfl⟩ := lev (by omega) (show 1 ≤ N by omega)
  rw [sem_succ]
  refine w_body (by rfl) ?_
  delta b_l_is_token
  rcases ht with ⟨x, hx, rfl⟩ | ⟨i, h0, rfl⟩
  · walk_at "gl"
    refine w_cl rfl rfl nd0 (isstr_ok (by omega) x hx) ?_
    rintro _ _ ⟨rfl, rfl⟩
    walk_at "gl"
    exact ⟨rfl, rfl⟩
  · walk_at "gl"
    refine w_cl rfl rfl nd0 (nstr_ok (by omega) i) ?_
    rintro _ _ ⟨rfl, rfl⟩
    walk_at "gl"
    refine w_cl rfl rfl nd0 (isint_ok (by omega) i) ?_
    rintro _ _ ⟨rfl, rfl⟩
    walk_at "gl"
    exact ⟨by rw [decide_eq_true h0], rfl⟩

theorem parts_okF {N : Nat} (hN : 4 ≤ N) {n : Nat} {f : D} (h : EF (n + 1) f) : wp (sem N .l_formula_parts) (fun d r' => (∃ ps : List D, d = .lst (ps.map prT) ∧ (∀ g ∈ ps, EF n g) ∧ szs ps ≤ sz f) ∧ r' = [some (.d f), some (.d (.bl true))]) [some (.d f), some (.d (.bl true))] := by
  obtain ⟨n', rfl⟩ := lev (by omega) (show 1 ≤ N by omega)
  rw [sem_succ]
  refine w_body (by rfl) ?_
  delta b_l_formula_parts
  have none' : ∀ f, ∃ ps : List D, D.lst [] = .lst (ps.map prT) ∧ (∀ g ∈ ps, EF n g) ∧ szs ps ≤ sz f := fun f => ⟨[], rfl, by simp, by rw [szs_nil]; exact Nat.zero_le _⟩
  cases h with
  | fa => walk_at "gl"; exact ⟨none' _, rfl⟩
  | @neg _ f hf => walk_at "gl"; exact ⟨⟨[f], rfl, by simpa using hf, by simp only [sz_tup, szs_cons, szs_nil]; omega⟩, rfl⟩
  | @and _ fs hf hl =>
    walk_at "gl"
    refine w_of (show isiD "tuple" (.tup fs) = some (.bl true) from rfl) ?_
    walk_at "gl"
    refine w_lc ?_
    walk_at "gl"
    refine ⟨rfl, ?_⟩
    refine w_compM prT (by omega) (fun g hg => ?_) ?_
    · refine ⟨_, rfl, ?_⟩
      walk_at "gl"
      exact ⟨rfl, rfl⟩
    exact ⟨⟨fs, rfl, hf, by simp only [sz_tup, szs_cons, szs_nil]; omega⟩, rfl⟩
  | null =>
    walk_at "gl"
    refine o_mkL (by decide) ?_
    walk_at "gl"
    refine o_in rfl (lits6 so_null) ?_
    walk_at "gl"
    exact ⟨none' _, rfl⟩
  | @int_from _ i =>
    walk_at "gl"
    refine w_cl rfl rfl nd0 (isint_ok (by omega) i) ?_
    rintro _ _ ⟨rfl, rfl⟩
    walk_at "gl"
    exact ⟨none' _, rfl⟩
  | @bool_is _ c =>
    walk_at "gl"
    refine o_isi (show isiD "bool" (.bl c) = some (.bl true) from rfl) ?_
    walk_at "gl"
    exact ⟨none' _, rfl⟩
  | @text_is _ x hx =>
    walk_at "gl"
    refine w_cl rfl rfl nd0 (isstr_ok (by omega) x hx) ?_
    rintro _ _ ⟨rfl, rfl⟩
    walk_at "gl"
    exact ⟨none' _, rfl⟩
  | @items_from _ i h0 =>
    walk_at "gl"
    refine o_in rfl (lits2 (wordok (by decide +kernel))) ?_
    walk_at "gl"
    refine w_cl rfl rfl nd0 (isint_ok (by omega) i) ?_
    rintro _ _ ⟨rfl, rfl⟩
    walk_at "gl"
    rw [show decide (i ≥ 0) = true from decide_eq_true h0]
    walk_at "gl"
    exact ⟨none' _, rfl⟩
  | @pos _ t f ht hf =>
    walk_at "gl"
    refine o_isi (show isiD "tuple" (.tup [t]) = some (.bl true) from rfl) ?_
    walk_at "gl"
    refine w_lc ?_
    walk_at "gl"
    refine ⟨rfl, ?_⟩
    refine w_compM (fun _ => .bl true) (by simp) (fun g hg => ?_) ?_
    · obtain rfl := List.mem_singleton.mp hg
      refine ⟨_, rfl, ?_⟩
      walk_at "gl"
      refine w_cl rfl rfl nd0 (tok_ok (by omega) ht) ?_
      rintro _ _ ⟨rfl, rfl⟩
      walk_at "gl"
      exact ⟨rfl, rfl⟩
    walk_at "gl"
    refine w_of (show allD [.lst [.bl true]] = some (.bl true) from rfl) ?_
    walk_at "gl"
    exact ⟨⟨[f], rfl, by simpa using hf, by simp only [sz_tup, szs_cons, szs_nil]; omega⟩, rfl⟩
  | @each_field _ xs f hx hl hf =>
    walk_at "gl"
    refine o_isi (show isiD "tuple" (.tup (xs.map D.str)) = some (.bl true) from rfl) ?_
    walk_at "gl"
    refine w_lc ?_
    walk_at "gl"
    refine ⟨rfl, ?_⟩
    refine w_compM (fun _ => .bl true) (by rw [List.length_map]; omega) (fun g hg => ?_) ?_
    · obtain ⟨x, hxm, rfl⟩ := List.mem_map.mp hg
      refine ⟨_, rfl, ?_⟩
      walk_at "gl"
      refine w_cl rfl rfl nd0 (tok_ok (by omega) (.inl ⟨x, hx x hxm, rfl⟩)) ?_
      rintro _ _ ⟨rfl, rfl⟩
      walk_at "gl"
      refine o_isi (show isiD "str" (.str x) = some (.bl true) from rfl) ?_
      exact ⟨rfl, rfl⟩
    walk_at "gl"
    refine w_of (all_true fun e he => by obtain ⟨_, _, rfl⟩ := List.mem_map.mp he; rfl) ?_
    walk_at "gl"
    exact ⟨⟨[f], rfl, by simpa using hf, by simp only [sz_tup, szs_cons, szs_nil]; omega⟩, rfl⟩
end Row

set_option maxHeartbeats 1000000
namespace Row
open PySem PySem.Spec PyProof.Rows L2 Pk
local macro_rules | `(tactic| walk_at "s") => `(tactic| first
  | with_reducible refine w_seq ?_ | with_reducible refine w_ret ?_ | with_reducible refine w_if ?_ | with_reducible refine w_and ?_ | with_reducible refine w_or ?_ | with_reducible refine w_bd ?_ | with_reducible refine w_rt ?_ | with_reducible refine w_nil ?_
  | ((with_reducible refine' w_ld ?h ?_); (case h => exact rfl)) | ((with_reducible refine' w_own ?h ?_); (case h => exact rfl)) | ((with_reducible refine' w_ldF ?h ?_); (case h => exact rfl)) | ((with_reducible refine' w_nxt ?h ?_); (case h => exact rfl))
  | with_reducible refine w_chain ?_ | with_reducible refine w_andV ?_ | with_reducible refine w_orV ?_ | with_reducible refine p_itT ?_ | with_reducible refine p_itF ?_ | with_reducible refine w_itT ?_ | with_reducible refine w_itF ?_ | with_reducible refine o_asB ?_ | with_reducible refine o_asI ?_ | with_reducible refine o_asS ?_ | with_reducible refine o_truB ?_ | with_reducible refine o_truN ?_ | with_reducible refine o_truT ?_ | with_reducible refine o_truL ?_
  | with_reducible refine o_intI ?_ | with_reducible refine o_intB ?_ | with_reducible refine o_lenT ?_ | with_reducible refine o_lenL ?_ | with_reducible refine o_lenR ?_ | with_reducible refine o_listT ?_ | with_reducible refine o_listL ?_ | with_reducible refine o_tupleT ?_ | with_reducible refine o_tupleL ?_
  | with_reducible refine o_addI ?_ | with_reducible refine o_subI ?_ | with_reducible refine o_negI ?_ | with_reducible refine o_minI ?_ | with_reducible refine o_maxI ?_ | with_reducible refine o_eqI ?_ | with_reducible refine o_neI ?_
  | with_reducible refine o_ltI ?_ | with_reducible refine o_leI ?_ | with_reducible refine o_gtI ?_ | with_reducible refine o_geI ?_ | with_reducible refine o_ltS ?_ | with_reducible refine o_leS ?_ | with_reducible refine o_gtS ?_ | with_reducible refine o_geS ?_ | with_reducible refine o_isN ?_ | with_reducible refine o_isNotN ?_
  | with_reducible refine o_mkT0 ?_ | with_reducible refine o_mkT1 ?_ | with_reducible refine o_mkT2 ?_ | with_reducible refine o_mkT3 ?_ | with_reducible refine o_mkT4 ?_ | with_reducible refine o_mkT5 ?_ | with_reducible refine o_mkL0 ?_ | with_reducible refine o_mkL1 ?_ | with_reducible refine o_mkL2 ?_ | with_reducible refine o_mkL3 ?_ | with_reducible refine o_mkL4 ?_ | with_reducible refine o_seqT ?_ | with_reducible refine o_seqL ?_ | with_reducible refine o_seqR ?_ | with_reducible refine w_itN ?_ | with_reducible refine p_itN ?_ | ((with_reducible refine' o_modI ?h ?_); (case h => decide)) | ((with_reducible refine' o_fdivI ?h ?h2 ?_); (case h => decide); (case h2 => decide)) | ((with_reducible refine' o_powI ?h ?h2 ?h3 ?_); (case h => decide); (case h2 => decide); (case h3 => decide))
  | ((with_reducible refine' o_eqS ?h ?h2 ?_); (case h => first | assumption | exact SOk.str (by assumption) | exact so_list | exact so_object | exact so_null | exact so_bool | exact so_int | exact so_text | exact SOk.str (sok_by (by decide +kernel))); (case h2 => first | assumption | exact SOk.str (by assumption) | exact so_list | exact so_object | exact so_null | exact so_bool | exact so_int | exact so_text | exact SOk.str (sok_by (by decide +kernel)))) | ((with_reducible refine' o_neS ?h ?h2 ?_); (case h => first | assumption | exact SOk.str (by assumption) | exact so_list | exact so_object | exact so_null | exact so_bool | exact so_int | exact so_text | exact SOk.str (sok_by (by decide +kernel))); (case h2 => first | assumption | exact SOk.str (by assumption) | exact so_list | exact so_object | exact so_null | exact so_bool | exact so_int | exact so_text | exact SOk.str (sok_by (by decide +kernel)))) | with_reducible refine o_ixh ?_ | ((with_reducible refine' o_ix ?h ?_); (case h => exact rfl)))
local macro_rules | `(tactic| walk_at "ix") => `(tactic| refine w_of (show ixD _ _ = some _ from rfl) ?_)
local macro_rules | `(tactic| walk_at "go") => `(tactic| (repeat walk_at "s"))
local macro_rules | `(tactic| walk_at "e1") => `(tactic| refine w_env (r' := [_]) rfl ?_)
local macro_rules | `(tactic| walk_at "e2") => `(tactic| refine w_env (r' := [_, _]) rfl ?_)
local macro_rules | `(tactic| walk_at "e3") => `(tactic| refine w_env (r' := [_, _, _]) rfl ?_)
local macro_rules | `(tactic| walk_at "e4") => `(tactic| refine w_env (r' := [_, _, _, _]) rfl ?_)
local macro_rules | `(tactic| walk_at "e") => `(tactic| first | refine w_env (r' := [_]) rfl ?_ | refine w_env (r' := [_, _]) rfl ?_ | refine w_env (r' := [_, _, _]) rfl ?_ | refine w_env (r' := [_, _, _, _]) rfl ?_ | refine w_env (r' := [_, _, _, _, _]) rfl ?_ | refine w_env (r' := [_, _, _, _, _, _]) rfl ?_ | refine w_env (r' := [_, _, _, _, _, _, _]) rfl ?_ | refine w_env (r' := [_, _, _, _, _, _, _, _]) rfl ?_ | refine w_env (r' := [_, _, _, _, _, _, _, _, _]) rfl ?_ | refine w_env (r' := [_, _, _, _, _, _, _, _, _, _]) rfl ?_ | refine w_env (r' := [_, _, _, _, _, _, _, _, _, _, _]) rfl ?_ | refine w_env (r' := [_, _, _, _, _, _, _, _, _, _, _, _]) rfl ?_)
local macro_rules | `(tactic| walk_at "br") => `(tactic| first | refine w_itD (fun hb => ?_) (fun hb => ?_) | refine w_itE (fun hb => ?_) (fun hb => ?_) | refine p_itD (fun hb => ?_) (fun hb => ?_) | refine p_itE (fun hb => ?_) (fun hb => ?_))
local macro_rules | `(tactic| walk_at "lit") => `(tactic| first | ((with_reducible refine' w_ifT ?h ?_); (case h => exact rfl)) | ((with_reducible refine' w_ifF ?h ?_); (case h => exact rfl)) | ((with_reducible refine' p_ifT ?h ?_); (case h => exact rfl)) | ((with_reducible refine' p_ifF ?h ?_); (case h => exact rfl)))
local macro_rules | `(tactic| walk_at "gl") => `(tactic| (repeat (first | walk_at "s" | walk_at "lit")))
theorem o_not123 {P : D → Ro → Prop} {r : Ro} {i : Int} (h : i = 1 ∨ i = 2 ∨ i = 3) (hP : P (.bl false) r) : wp (of (notInD2 (.int i) (.lst [.int 1, .int 2, .int 3]))) P r := by
  rcases h with rfl | rfl | rfl <;> exact w_of rfl hP

theorem EF.tup {n : Nat} {f : D} (h : EF n f) : ∃ gs, f = .tup gs ∧ ((gs.length : Int) = 1 ∨ (gs.length : Int) = 2 ∨ (gs.length : Int) = 3) := by
  cases h <;> exact ⟨_, rfl, by simp⟩

theorem szs_take : ∀ (ls : List D) (j : Nat), szs (ls.take j) ≤ szs ls
  | [], j => by rw [List.take_nil]; exact Nat.le_refl _
  | d :: ls, 0 => by rw [List.take_zero, szs_nil]; exact Nat.zero_le _
  | d :: ls, j + 1 => by rw [List.take_succ_cons, szs_cons, szs_cons]; have := szs_take ls j; omega

theorem szs_mem {g : D} : ∀ {ls : List D}, g ∈ ls → sz g ≤ szs ls
  | d :: ls, h => by
    rw [szs_cons]
    rcases List.mem_cons.mp h with rfl | h
    · omega
    · have := szs_mem h; omega

theorem isf_ok {N : Nat} (hN : 6 ≤ N) {K : Nat} (hK : K ≤ 300) {f : D} (hf : EF K f) (hs : sz f ≤ 12000) :
    wp (sem N .l_is_formula) (fun d r' => d = .bl true ∧ r' = [some (.d f), some (.d (.bl true)), some (.d (.int 300))]) [some (.d f), some (.d (.bl true)), some (.d (.int 300))] := by
  obtain ⟨n, rfl⟩ := lev (by omega) (show 1 ≤ N by omega)
  rw [sem_succ]
  refine w_body (by rfl) ?_
  delta b_l_is_formula
  walk_at "go"
  walk_at "e"; walk_at "go"
  refine o_rng (by decide) (by decide) ?_
  refine w_for (fun i r => ∃ ls o4 o5 o6 o7, (∀ g ∈ ls, EF (K - i) g) ∧ szs ls ≤ 12000 ∧ Fre o4 ∧ Fre o5 ∧ Fre o6 ∧ Fre o7 ∧ r = [some (.d f), some (.d (.bl true)), some (.d (.int 300)), some (.d (.lst (ls.map prT))), o4, o5, o6, o7]) ⟨[f], none, none, none, none, by simpa using hf, by rw [szs_cons, szs_nil]; omega, trivial, trivial, trivial, trivial, rfl⟩ ?_ ?_
  · rintro i d r hd ⟨ls, o4, o5, o6, o7, hl, hS, f4, f5, f6, f7, rfl⟩
    refine ⟨_, setD_ok (o := o4) rfl f4, ?_⟩
    walk_at "e"; walk_at "go"
    refine w_line (by simp) ?_
    refine w_nxt (setO_ok (o := o5) rfl f5) ?_
    walk_at "e"; walk_at "go"
    refine w_for (fun j r => ∃ bs o6 o7, (∀ g ∈ bs, EF (K - (i + 1)) g) ∧ szs bs ≤ szs (ls.take j) ∧ Fre o6 ∧ Fre o7 ∧ r = [some (.d f), some (.d (.bl true)), some (.d (.int 300)), some (.d (.lst (ls.map prT))), some (.d d), some (.own false (bs.map prT)), o6, o7]) ⟨[], o6, o7, by simp, by rw [szs_nil]; exact Nat.zero_le _, f6, f7, rfl⟩ ?_ ?_
    · rintro j row r hrow ⟨bs, o6, o7, hbs, hbS, f6, f7, rfl⟩
      have hj : j < (ls.map prT).length := (List.getElem?_eq_some_iff.mp hrow).1
      rw [List.length_map] at hj
      have hg : row = prT ls[j] := by
        rw [List.getElem?_map, List.getElem?_eq_getElem hj] at hrow
        simpa using hrow.symm
      subst hg
      have hm := List.getElem_mem hj
      have htk : ls.take (j + 1) = ls.take j ++ [ls[j]] := by rw [List.take_succ, List.getElem?_eq_getElem hj]; rfl
      have hef := hl _ hm
      have hsz := szs_mem hm
      generalize ls[j] = g at hm htk hef hsz
      have hKi : K - i = K - (i + 1) + 1 := by
        cases hz : K - i with
        | zero => rw [hz] at hef; cases hef
        | succ q => omega
      rw [hKi] at hef
      obtain ⟨gs, rfl, hlen⟩ := hef.tup
      refine ⟨_, setD_ok (o := o6) rfl f6, ?_⟩
      unfold prT
      walk_at "e"; walk_at "go"
      refine o_isi (show isiD "tuple" (.tup gs) = some (.bl true) from rfl) ?_
      walk_at "gl"
      refine o_not123 hlen ?_
      walk_at "gl"
      refine w_cl rfl rfl nd0 (parts_okF (by omega) hef) ?_
      rintro _ _ ⟨⟨ps, rfl, hps, hpsz⟩, rfl⟩
      refine w_nxt (setD_ok (o := o7) rfl f7) ?_
      walk_at "e"; walk_at "gl"
      have q1 := szs_len ps
      have q2 := szs_len bs
      have q3 := szs_take ls j
      refine w_nxt (extM_ok rfl (by rw [List.length_map, List.length_map]; omega)) ?_
      refine ⟨bs ++ ps, some (.d (.tup [.tup gs, .bl true])), some (.d (.lst (ps.map prT))), fun g hg => (List.mem_append.mp hg).elim (hbs g) (hps g), ?_, trivial, trivial, ?_⟩
      · rw [htk, szs_app, szs_app, szs_cons, szs_nil]; omega
      · rw [List.map_append]; rfl
    · rintro r ⟨bs, o6, o7, hbs, hbS, f6, f7, rfl⟩
      rw [List.length_map, List.take_length] at hbS
      walk_at "go"
      refine w_ldO rfl ?_
      walk_at "go"
      exact ⟨bs, some (.d d), some (.d (.lst (bs.map prT))), o6, o7, hbs, by omega, trivial, trivial, f6, f7, rfl⟩
  · rintro r ⟨ls, o4, o5, o6, o7, hl, hS, f4, f5, f6, f7, rfl⟩
    have hz : ls = [] := by
      cases ls with
      | nil => rfl
      | cons g ls =>
        have := hl g (List.mem_cons_self ..)
        rw [rng_len, show K - (300 : Int).toNat = 0 by omega] at this
        cases this
    subst hz
    walk_at "go"
    exact ⟨rfl, rfl⟩
end Row

set_option maxHeartbeats 1000000
namespace Row
open PySem PySem.Spec PyProof.Rows L2 Pk
local macro_rules | `(tactic| walk_at "s") => `(tactic| first
  | with_reducible refine w_seq ?_ | with_reducible refine w_ret ?_ | with_reducible refine w_if ?_ | with_reducible refine w_and ?_ | with_reducible refine w_or ?_ | with_reducible refine w_bd ?_ | with_reducible refine w_rt ?_ | with_reducible refine w_nil ?_
  | ((with_reducible refine' w_ld ?h ?_); (case h => exact rfl)) | ((with_reducible refine' w_own ?h ?_); (case h => exact rfl)) | ((with_reducible refine' w_ldF ?h ?_); (case h => exact rfl)) | ((with_reducible refine' w_nxt ?h ?_); (case h => exact rfl))
  | with_reducible refine w_chain ?_ | with_reducible refine w_andV ?_ | with_reducible refine w_orV ?_ | with_reducible refine p_itT ?_ | with_reducible refine p_itF ?_ | with_reducible refine w_itT ?_ | with_reducible refine w_itF ?_ | with_reducible refine o_asB ?_ | with_reducible refine o_asI ?_ | with_reducible refine o_asS ?_ | with_reducible refine o_truB ?_ | with_reducible refine o_truN ?_ | with_reducible refine o_truT ?_ | with_reducible refine o_truL ?_
  | with_reducible refine o_intI ?_ | with_reducible refine o_intB ?_ | with_reducible refine o_lenT ?_ | with_reducible refine o_lenL ?_ | with_reducible refine o_lenR ?_ | with_reducible refine o_listT ?_ | with_reducible refine o_listL ?_ | with_reducible refine o_tupleT ?_ | with_reducible refine o_tupleL ?_
  | with_reducible refine o_addI ?_ | with_reducible refine o_subI ?_ | with_reducible refine o_negI ?_ | with_reducible refine o_minI ?_ | with_reducible refine o_maxI ?_ | with_reducible refine o_eqI ?_ | with_reducible refine o_neI ?_
  | with_reducible refine o_ltI ?_ | with_reducible refine o_leI ?_ | with_reducible refine o_gtI ?_ | with_reducible refine o_geI ?_ | with_reducible refine o_ltS ?_ | with_reducible refine o_leS ?_ | with_reducible refine o_gtS ?_ | with_reducible refine o_geS ?_ | with_reducible refine o_isN ?_ | with_reducible refine o_isNotN ?_
  | with_reducible refine o_mkT0 ?_ | with_reducible refine o_mkT1 ?_ | with_reducible refine o_mkT2 ?_ | ((with_reducible refine' o_modI ?h ?_); (case h => decide)) | ((with_reducible refine' o_fdivI ?h ?h2 ?_); (case h => decide); (case h2 => decide)) | ((with_reducible refine' o_powI ?h ?h2 ?h3 ?_); (case h => decide); (case h2 => decide); (case h3 => decide))
  | ((with_reducible refine' o_eqS ?h ?h2 ?_); (case h => first | assumption | exact SOk.str (by assumption) | exact so_list | exact so_object | exact so_null | exact so_bool | exact so_int | exact so_text); (case h2 => first | assumption | exact SOk.str (by assumption) | exact so_list | exact so_object | exact so_null | exact so_bool | exact so_int | exact so_text)) | ((with_reducible refine' o_neS ?h ?h2 ?_); (case h => first | assumption | exact SOk.str (by assumption) | exact so_list | exact so_object | exact so_null | exact so_bool | exact so_int | exact so_text); (case h2 => first | assumption | exact SOk.str (by assumption) | exact so_list | exact so_object | exact so_null | exact so_bool | exact so_int | exact so_text)) | ((with_reducible refine' o_ix ?h ?_); (case h => exact rfl)))
local macro_rules | `(tactic| walk_at "ix") => `(tactic| refine w_of (show ixD _ _ = some _ from rfl) ?_)
local macro_rules | `(tactic| walk_at "go") => `(tactic| (repeat walk_at "s"))
local macro_rules | `(tactic| walk_at "e1") => `(tactic| refine w_env (r' := [_]) rfl ?_)
local macro_rules | `(tactic| walk_at "e2") => `(tactic| refine w_env (r' := [_, _]) rfl ?_)
local macro_rules | `(tactic| walk_at "e3") => `(tactic| refine w_env (r' := [_, _, _]) rfl ?_)
local macro_rules | `(tactic| walk_at "e4") => `(tactic| refine w_env (r' := [_, _, _, _]) rfl ?_)
def JS (n s : Nat) (d : D) : Prop := IsJ n d ∧ sz d ≤ s

theorem JS.le {n m s t : Nat} {d : D} (h : JS n s d) (hm : n ≤ m) (ht : s ≤ t) : JS m t d := ⟨h.1.le hm, Nat.le_trans h.2 ht⟩

theorem szs_mul {s : Nat} : ∀ {ds : List D}, (∀ d ∈ ds, sz d ≤ s) → szs ds ≤ ds.length * s
  | [], _ => by rw [szs_nil]; exact Nat.zero_le _
  | d :: ds, h => by
    rw [szs_cons, List.length_cons, Nat.succ_mul]
    have := szs_mul fun e he => h e (List.mem_cons_of_mem _ he)
    have := h d (List.mem_cons_self ..)
    omega

theorem leaf_sz {d : D} (h : IsJ 1 d) : sz d ≤ 3 := by
  rcases h with rfl | ⟨b, rfl⟩ | ⟨i, rfl⟩ | ⟨x, hx, rfl⟩ | ⟨ds, hl, hd, rfl⟩ | ⟨fs, hl, hf, hp, rfl⟩
  · simp only [sz_tup, szs_cons, szs_nil, sz_str]; omega
  · simp only [sz_tup, szs_cons, szs_nil, sz_str, sz_bl]; omega
  · simp only [sz_tup, szs_cons, szs_nil, sz_str, sz_int]; omega
  · simp only [sz_tup, szs_cons, szs_nil, sz_str]; omega
  · cases ds with
    | nil => simp only [sz_tup, szs_cons, szs_nil, sz_str]; omega
    | cons e es => exact (hd e (List.mem_cons_self ..)).elim
  · cases fs with
    | nil => simp only [List.map_nil, sz_tup, szs_cons, szs_nil, sz_str]; omega
    | cons e es => exact (hf e (List.mem_cons_self ..)).2.elim

theorem sz_fD (f : Str × D) : sz (fD f) = 2 + sz f.2 := by
  show sz (.tup [.str f.1, f.2]) = _
  simp only [sz_tup, szs_cons, szs_nil, sz_str]; omega

theorem ins_sz (fs : List (Str × D)) (x : Str) (v : D) : szs ((ins fs x v).map fD) ≤ szs (fs.map fD) + sz (fD (x, v)) := by
  have key : ∀ fs : List (Str × D), szs ((fs.filter (ltX x)).map fD) + szs ((fs.filter (gtX x)).map fD) ≤ szs (fs.map fD) := by
    intro fs
    induction fs with
    | nil => simp [szs_nil]
    | cons f fs ih =>
      rw [List.filter_cons, List.filter_cons, List.map_cons, szs_cons]
      by_cases h : f.1.cps.toList < x.cps.toList
      · rw [if_pos (decide_eq_true h), if_neg (by simpa using fun q => List.lt_irrefl _ (List.lt_trans h q)), List.map_cons, szs_cons]; omega
      · rw [if_neg (by simpa using h)]
        split
        · rw [List.map_cons, szs_cons]; omega
        · omega
  rw [ins_eq, List.map_append, List.map_append, szs_app, szs_app, List.map_cons, List.map_nil, szs_cons, szs_nil]
  have := key fs
  omega

theorem pairs_sz {n s : Nat} {ps : List (Str × D)} (h : ∀ f ∈ ps, SOk f.1 ∧ JS n s f.2) : szs (ps.map fD) ≤ ps.length * (s + 2) := by
  have := szs_mul (s := s + 2) (ds := ps.map fD) fun d hd => by
    obtain ⟨f, hf, rfl⟩ := List.mem_map.mp hd
    rw [sz_fD]; have := (h f hf).2.2; omega
  rwa [List.length_map] at this

def SV : Nat → Nat
  | 0 => 3
  | m + 1 => 3 * SV m + 9

theorem SV_ge : ∀ m, 3 ≤ SV m
  | 0 => Nat.le_refl _
  | m + 1 => by have := SV_ge m; unfold SV; omega

theorem list_sz {n s t c : Nat} {ds : List D} (h : ∀ d ∈ ds, JS n s d) (hl : ds.length ≤ c) (ht : 3 + c * s ≤ t) : sz (lstD ds) ≤ t := by
  show sz (.tup [.str _, .tup ds]) ≤ t
  have h1 := szs_mul fun d hd => (h d hd).2
  have h2 : ds.length * s ≤ c * s := Nat.mul_le_mul_right _ hl
  simp only [sz_tup, szs_cons, szs_nil, sz_str]
  omega

theorem object_okW {N : Nat} (hN : 2 ≤ N) (m : Nat) (ps : List (Str × D)) (h : ∀ f ∈ ps, SOk f.1 ∧ IsJ m f.2) (hl : ps.length ≤ 100) :
    wp (sem N .l_object) (fun d r' => IsJ (m + 1) d ∧ sz d ≤ 3 + szs (ps.map fD) ∧ r' = [some (.d (pD ps))]) [some (.d (pD ps))] := by
  obtain ⟨n, rfl⟩ := lev (by omega) hN
  rw [sem_succ]
  refine w_body (by rfl) ?_
  delta b_l_object
  unfold pD
  walk_at "go"
  refine w_of (show seqOf (.lst (ps.map fD)) = some (ps.map fD) from rfl) ?_
  refine w_for (fun i r => ∃ fs, FOk m fs ∧ szs (fs.map fD) ≤ szs ((ps.map fD).take i) ∧ fs.length ≤ i ∧ ∃ o, r = [some (.d (.lst (ps.map fD))), some (.d (objD fs)), o] ∧ free [some (.d (.lst (ps.map fD))), some (.d (objD fs)), o] 2 = true) ⟨[], ⟨by simp, List.Pairwise.nil⟩, Nat.zero_le _, Nat.le_refl _, none, rfl, rfl⟩ ?_ ?_
  · rintro i d r hd ⟨fs, hf, hfs, hfl, o, rfl, ho⟩
    have hi : i < (ps.map fD).length := (List.getElem?_eq_some_iff.mp hd).1
    rw [List.length_map] at hi
    obtain ⟨f, hfm, rfl⟩ := List.mem_map.mp (List.mem_of_getElem? hd)
    obtain ⟨h1, h2⟩ := h f hfm
    refine ⟨_, by unfold setD; rw [if_pos ho], ?_⟩
    unfold fD
    walk_at "go"
    refine w_call rfl nd0 rfl (w_mono (with_obj (by omega) m fs f.1 f.2 hf (by omega) h1) ?_)
    rintro d r' ⟨rfl, rfl⟩
    walk_at "go"
    refine ⟨ins fs f.1 f.2, ins_ok hf h1 h2, ?_, by have := ins_len fs f.1 f.2; omega, _, rfl, rfl⟩
    show szs ((ins fs f.1 f.2).map fD) ≤ szs ((ps.map fD).take (i + 1))
    have q : szs ((ins fs f.1 f.2).map fD) ≤ szs (fs.map fD) + sz (fD f) := ins_sz fs f.1 f.2
    have e0 : (ps.map fD).take (i + 1) = (ps.map fD).take i ++ [fD f] := by rw [List.take_succ, hd]; rfl
    rw [e0, szs_app, szs_cons, szs_nil]
    omega
  · rintro r ⟨fs, hf, hfs, hfl, o, rfl, ho⟩
    walk_at "go"
    rw [List.length_map] at hfl
    exact ⟨IsJ.obj hf (by omega), by (show sz (.tup [.str _, .tup (fs.map fD)]) ≤ _); rw [List.take_length] at hfs; simp only [sz_tup, szs_cons, szs_nil, sz_str]; omega, rfl⟩

theorem value_okW : ∀ (m : Nat) {N : Nat} (hN : 5 + m ≤ N) (k : Nat) (ds : List D) (hs : Src k ds) (hk : k + V m < 2 ^ 60),
    wp (sem N .l_value) (fun d r' => JS (m + 1) (SV m) d ∧ ∃ ds', Src (k + V m) ds' ∧ r' = [some (.own true ds'), some (.d (.int m))]) [some (.own true ds), some (.d (.int m))] := by
  intro m
  induction m with
  | zero =>
    intro N hN k ds hs hk
    have hV : V 0 = 100 := rfl
    obtain ⟨n, rfl⟩ := lev (by omega) hN
    rw [sem_succ]
    refine w_body (by rfl) ?_
    delta b_l_value
    walk_at "go"
    refine w_call rfl nd1 rfl (w_mono (draw_ok (by omega) k ds hs (by omega) 9 (by decide) (by decide)) ?_)
    rintro d r' ⟨x, ds1, rfl, h0, h1, hs1, rfl⟩
    walk_at "go"
    refine p_ifT (by decide) ?_
    refine w_itT ?_
    walk_at "go"
    refine w_call rfl nd1 rfl (w_mono (leaf_ok (by omega) (k + 1) ds1 hs1 (by omega)) ?_)
    rintro d r' ⟨hd, ds2, hs2, rfl⟩
    exact ⟨⟨hd, leaf_sz hd⟩, ds2, hs2.le (by omega) (by omega), rfl⟩
  | succ m ih =>
    intro N hN k ds hs hk
    have hV : V (m + 1) = 4 * V m := rfl
    have hV2 := V_ge m
    have hSV : SV (m + 1) = 3 * SV m + 9 := rfl
    have hS3 := SV_ge m
    obtain ⟨n, rfl⟩ := lev (by omega) hN
    rw [sem_succ]
    refine w_body (by rfl) ?_
    delta b_l_value
    walk_at "go"
    refine w_call rfl nd1 rfl (w_mono (draw_ok (by omega) k ds hs (by omega) 9 (by decide) (by decide)) ?_)
    rintro d r' ⟨x, ds1, rfl, h0, h1, hs1, rfl⟩
    walk_at "e4"
    walk_at "go"
    have c1 : ((V (m + 1) : Nat) : Int) = 4 * (V m : Nat) := by rw [hV]; omega
    -- a leaf
    have leafWay : ∀ P : Fl → Ro → Prop, (∀ d ds', JS (m + 2) (SV (m + 1)) d → Src (k + V (m + 1)) ds' → P (.rt d) [some (.own true ds'), some (.d (.int ((m + 1 : Nat) : Int))), some (.d (.int x)), none]) →
        wp (retM (bd (bd (own 0) fun _ => bd (rt []) fun xs => rt (Ar.s 0 :: xs)) fun as => callM 1 (sem n .l_leaf) as)) P [some (.own true ds1), some (.d (.int ((m + 1 : Nat) : Int))), some (.d (.int x)), none] := fun P hP => by
      walk_at "go"
      refine w_call rfl nd1 rfl (w_mono (leaf_ok (by omega) (k + 1) ds1 hs1 (by omega)) ?_)
      rintro d r' ⟨hd, ds2, hs2, rfl⟩
      exact hP d ds2 ⟨hd.le (by omega), by have := leaf_sz hd; omega⟩ (hs2.le (by omega) (by omega))
    refine p_it (fun hb => w_itT (leafWay _ fun d ds' h1 h2 => ⟨h1, ds', h2, rfl⟩)) (fun hb => ?_)
    walk_at "go"
    refine w_it (fun hb2 => leafWay _ fun d ds' h1 h2 => ⟨h1, ds', h2, rfl⟩) (fun hb2 => ?_)
    walk_at "go"
    have em : ((m + 1 : Nat) : Int) - 1 = (m : Int) := by omega
    refine w_it (fun hb3 => ?_) (fun hb3 => ?_)
    · walk_at "go"
      refine w_lc ?_
      walk_at "go"
      refine w_call rfl nd1 rfl (w_mono (draw_ok (by omega) (k + 1) ds1 hs1 (by omega) 4 (by decide) (by decide)) ?_)
      rintro d r' ⟨z, ds2, rfl, h2, h3, hs2, rfl⟩
      walk_at "e4"
      walk_at "go"
      refine w_of (w_rng h2 (by omega)) ?_
      refine ⟨rfl, ?_⟩
      refine w_comp (fun i acc r => (∀ e ∈ acc, JS (m + 1) (SV m) e) ∧ acc.length = i ∧ i ≤ 4 ∧ ∃ ds', Src (k + 2 + i * V m) ds' ∧ r = [some (.own true ds'), some (.d (.int ((m + 1 : Nat) : Int))), some (.d (.int x)), none]) ⟨by simp, rfl, by omega, ds2, hs2.le (by omega) (by omega), rfl⟩ ?_ ?_
      · rintro i d acc r hd ⟨ho, hl, hi, ds', hs', rfl⟩
        obtain ⟨hi3, rfl⟩ := rng_at hd
        have hi4 : i ≤ 2 := by omega
        have hmul : i * V m ≤ 2 * V m := Nat.mul_le_mul_right _ hi4
        have hmul2 : (i + 1) * V m = i * V m + V m := Nat.succ_mul _ _
        refine ⟨_, rfl, ?_⟩
        walk_at "go"
        walk_at "go"
        rw [em]
        refine w_call rfl nd1 rfl (w_mono (ih (by omega) (k + 2 + i * V m) ds' hs' (by omega)) ?_)
        rintro d r' ⟨hd', ds4, hs4, rfl⟩
        refine ⟨by have : (4 : Nat) < sizeLine := by decide
                   omega, fun e he => ?_, by simp [hl], by omega, ds4, hs4.le (by omega) (by omega), rfl⟩
        rcases List.mem_append.mp he with h | h
        · exact ho e h
        · simp at h; subst h; exact hd'
      · rintro acc r ⟨ho, hl, hi, ds', hs', rfl⟩
        rw [rng_len] at hl hi hs'
        have hmul : z.toNat * V m ≤ 3 * V m := Nat.mul_le_mul_right _ (by omega)
        walk_at "go"
        exact ⟨⟨IsJ.list (fun e he => (ho e he).1) (by omega), list_sz (c := 3) ho (by omega) (by omega)⟩, ds', hs'.le (by omega) (by omega), rfl⟩
    · walk_at "go"
      refine w_lc ?_
      walk_at "go"
      refine w_call rfl nd1 rfl (w_mono (draw_ok (by omega) (k + 1) ds1 hs1 (by omega) 4 (by decide) (by decide)) ?_)
      rintro d r' ⟨z, ds2, rfl, h2, h3, hs2, rfl⟩
      walk_at "e4"
      walk_at "go"
      refine w_of (w_rng h2 (by omega)) ?_
      refine ⟨rfl, ?_⟩
      refine w_comp (fun i acc r => (∃ ps : List (Str × D), acc = ps.map fD ∧ ∀ f ∈ ps, SOk f.1 ∧ JS (m + 1) (SV m) f.2) ∧ acc.length = i ∧ i ≤ 4 ∧ ∃ ds', Src (k + 2 + i * (V m + 10)) ds' ∧ r = [some (.own true ds'), some (.d (.int ((m + 1 : Nat) : Int))), some (.d (.int x)), none]) ⟨⟨[], rfl, by simp⟩, rfl, by omega, ds2, hs2.le (by omega) (by omega), rfl⟩ ?_ ?_
      · rintro i d acc r hd ⟨⟨ps, rfl, ho⟩, hl, hi, ds', hs', rfl⟩
        obtain ⟨hi3, rfl⟩ := rng_at hd
        have hi4 : i ≤ 2 := by omega
        have hmul : i * (V m + 10) ≤ 2 * (V m + 10) := Nat.mul_le_mul_right _ hi4
        have hmul2 : (i + 1) * (V m + 10) = i * (V m + 10) + (V m + 10) := Nat.succ_mul _ _
        refine ⟨_, rfl, ?_⟩
        walk_at "go"
        walk_at "go"
        refine w_call rfl nd1 rfl (w_mono (name_ok (by omega) (k + 2 + i * (V m + 10)) ds' hs' (by omega)) ?_)
        rintro d r' ⟨⟨y, rfl, yok⟩, ds3, hs3, rfl⟩
        walk_at "e4"
        walk_at "go"
        rw [em]
        refine w_call rfl nd1 rfl (w_mono (ih (by omega) (k + 2 + i * (V m + 10) + 10) ds3 hs3 (by omega)) ?_)
        rintro d r' ⟨hd', ds4, hs4, rfl⟩
        walk_at "go"
        refine ⟨by have : (4 : Nat) < sizeLine := by decide
                   omega, ⟨ps ++ [(y, d)], by rw [List.map_append]; rfl, fun f hf => ?_⟩, by simp at hl ⊢; omega, by omega, ds4, hs4.le (by omega) (by omega), rfl⟩
        rcases List.mem_append.mp hf with h | h
        · exact ho f h
        · simp at h; subst h; exact ⟨yok, hd'⟩
      · rintro acc r ⟨⟨ps, rfl, ho⟩, hl, hi, ds', hs', rfl⟩
        rw [rng_len] at hl hi hs'
        rw [List.length_map] at hl
        have hmul : z.toNat * (V m + 10) ≤ 3 * (V m + 10) := Nat.mul_le_mul_right _ (by omega)
        walk_at "go"
        refine w_call rfl nd0 rfl (w_mono (object_okW (by omega) (m + 1) ps (fun f hf => ⟨(ho f hf).1, (ho f hf).2.1⟩) (by omega)) ?_)
        rintro d r' ⟨hd, hsz, rfl⟩
        exact ⟨⟨hd, by have h1 := pairs_sz ho; have h2 : ps.length * (SV m + 2) ≤ 3 * (SV m + 2) := Nat.mul_le_mul_right _ (by omega); omega⟩, ds', hs'.le (by omega) (by omega), rfl⟩
end Row

set_option maxHeartbeats 1000000
namespace Row
open PySem PySem.Spec PyProof.Rows L2 Pk
local macro_rules | `(tactic| walk_at "s") => `(tactic| first
  | with_reducible refine w_seq ?_ | with_reducible refine w_ret ?_ | with_reducible refine w_if ?_ | with_reducible refine w_and ?_ | with_reducible refine w_or ?_ | with_reducible refine w_bd ?_ | with_reducible refine w_rt ?_ | with_reducible refine w_nil ?_
  | ((with_reducible refine' w_ld ?h ?_); (case h => exact rfl)) | ((with_reducible refine' w_own ?h ?_); (case h => exact rfl)) | ((with_reducible refine' w_ldF ?h ?_); (case h => exact rfl)) | ((with_reducible refine' w_nxt ?h ?_); (case h => exact rfl))
  | with_reducible refine w_chain ?_ | with_reducible refine w_andV ?_ | with_reducible refine w_orV ?_ | with_reducible refine p_itT ?_ | with_reducible refine p_itF ?_ | with_reducible refine w_itT ?_ | with_reducible refine w_itF ?_ | with_reducible refine o_asB ?_ | with_reducible refine o_asI ?_ | with_reducible refine o_asS ?_ | with_reducible refine o_truB ?_ | with_reducible refine o_truN ?_ | with_reducible refine o_truT ?_ | with_reducible refine o_truL ?_
  | with_reducible refine o_intI ?_ | with_reducible refine o_intB ?_ | with_reducible refine o_lenT ?_ | with_reducible refine o_lenL ?_ | with_reducible refine o_lenR ?_ | with_reducible refine o_listT ?_ | with_reducible refine o_listL ?_ | with_reducible refine o_tupleT ?_ | with_reducible refine o_tupleL ?_
  | with_reducible refine o_addI ?_ | with_reducible refine o_subI ?_ | with_reducible refine o_negI ?_ | with_reducible refine o_minI ?_ | with_reducible refine o_maxI ?_ | with_reducible refine o_eqI ?_ | with_reducible refine o_neI ?_
  | with_reducible refine o_ltI ?_ | with_reducible refine o_leI ?_ | with_reducible refine o_gtI ?_ | with_reducible refine o_geI ?_ | with_reducible refine o_ltS ?_ | with_reducible refine o_leS ?_ | with_reducible refine o_gtS ?_ | with_reducible refine o_geS ?_ | with_reducible refine o_isN ?_ | with_reducible refine o_isNotN ?_
  | with_reducible refine o_mkT0 ?_ | with_reducible refine o_mkT1 ?_ | with_reducible refine o_mkT2 ?_ | ((with_reducible refine' o_modI ?h ?_); (case h => decide)) | ((with_reducible refine' o_fdivI ?h ?h2 ?_); (case h => decide); (case h2 => decide)) | ((with_reducible refine' o_powI ?h ?h2 ?h3 ?_); (case h => decide); (case h2 => decide); (case h3 => decide))
  | ((with_reducible refine' o_eqS ?h ?h2 ?_); (case h => first | assumption | exact SOk.str (by assumption) | exact so_list | exact so_object | exact so_null | exact so_bool | exact so_int | exact so_text); (case h2 => first | assumption | exact SOk.str (by assumption) | exact so_list | exact so_object | exact so_null | exact so_bool | exact so_int | exact so_text)) | ((with_reducible refine' o_neS ?h ?h2 ?_); (case h => first | assumption | exact SOk.str (by assumption) | exact so_list | exact so_object | exact so_null | exact so_bool | exact so_int | exact so_text); (case h2 => first | assumption | exact SOk.str (by assumption) | exact so_list | exact so_object | exact so_null | exact so_bool | exact so_int | exact so_text)) | ((with_reducible refine' o_ix ?h ?_); (case h => exact rfl)))
local macro_rules | `(tactic| walk_at "ix") => `(tactic| refine w_of (show ixD _ _ = some _ from rfl) ?_)
local macro_rules | `(tactic| walk_at "go") => `(tactic| (repeat walk_at "s"))
local macro_rules | `(tactic| walk_at "e1") => `(tactic| refine w_env (r' := [_]) rfl ?_)
local macro_rules | `(tactic| walk_at "e2") => `(tactic| refine w_env (r' := [_, _]) rfl ?_)
local macro_rules | `(tactic| walk_at "e3") => `(tactic| refine w_env (r' := [_, _, _]) rfl ?_)
local macro_rules | `(tactic| walk_at "e4") => `(tactic| refine w_env (r' := [_, _, _, _]) rfl ?_)
theorem wide_okW {N : Nat} (hN : 10 ≤ N) (k : Nat) (ds : List D) (hs : Src k ds) (hk : k + 1000000 < 2 ^ 60) :
    wp (sem N .l_wide) (fun d r' => JS 7 1200 d ∧ ∃ ds', Src (k + 1000000) ds' ∧ r' = [some (.own true ds'), some (.d (.int 3))]) [some (.own true ds), some (.d (.int 3))] := by
  obtain ⟨n, rfl⟩ := lev (by omega) hN
  have hV : V 3 = 6400 := rfl
  rw [sem_succ]
  refine w_body (by rfl) ?_
  delta b_l_wide
  walk_at "go"
  refine w_call rfl nd1 rfl (w_mono (value_okW 3 (by omega) k ds hs (by omega)) ?_)
  rintro d r' ⟨hd, ds1, hs1, rfl⟩
  walk_at "go"
  refine o_mkL (by decide) ?_
  walk_at "go"
  refine w_call rfl nd1 rfl (w_mono (draw_ok (by omega) (k + V 3) ds1 hs1 (by omega) 4 (by decide) (by decide)) ?_)
  rintro v r' ⟨x, ds2, rfl, h0, h1, hs2, rfl⟩
  refine w_env (r' := [_, _, _, _, _, _, _]) rfl ?_
  obtain ⟨y, ey, hy0, hy1⟩ := four_ok h0 h1
  walk_at "go"
  refine w_of ey ?_
  walk_at "go"
  refine w_of (w_rng hy0 (by omega)) ?_
  refine w_for (fun i r => i ≤ 3 ∧ ∃ d ds' o3 o4, JS (4 + i) (200 + i * 300) d ∧ Src (k + 6401 + i * 1000) ds' ∧ r = [some (.own true ds'), some (.d (.int 3)), some (.d d), o3, o4, none, none] ∧ (o3 = none ∨ ∃ e, o3 = some (.d e)) ∧ (o4 = none ∨ ∃ e, o4 = some (.d e)))
    ⟨by omega, d, ds2, none, none, hd.le (by decide) (by decide), hs2, rfl, .inl rfl, .inl rfl⟩ ?_ ?_
  · rintro i e r he ⟨hi, d, ds', o3, o4, hd, hs', rfl, ho3, ho4⟩
    obtain ⟨hi3, rfl⟩ := rng_at he
    have f3 : ∀ a b c d' e', free [a, b, c, o3, d', e', e'] 3 = true := fun a b c d' e' => by rcases ho3 with rfl | ⟨_, rfl⟩ <;> rfl
    refine ⟨_, by unfold setD; rw [if_pos (by rcases ho3 with rfl | ⟨_, rfl⟩ <;> rfl)], ?_⟩
    refine w_env (r' := [_, _, _, _, _, _, _]) rfl ?_
    walk_at "go"
    refine w_lc ?_
    walk_at "go"
    refine w_call rfl nd1 rfl (w_mono (draw_ok (by omega) (k + 6401 + i * 1000) ds' hs' (by omega) 2 (by decide) (by decide)) ?_)
    rintro v r' ⟨u1, ds3, rfl, u10, u11, hs3, rfl⟩
    refine w_env (r' := [_, _, _, _, _, _, _]) rfl ?_
    walk_at "go"
    refine w_call rfl nd1 rfl (w_mono (draw_ok (by omega) (k + 6401 + i * 1000 + 1) ds3 hs3 (by omega) 13 (by decide) (by decide)) ?_)
    rintro v r' ⟨u2, ds4, rfl, u20, u21, hs4, rfl⟩
    refine w_env (r' := [_, _, _, _, _, _, _]) rfl ?_
    walk_at "go"
    refine o_mulI ?_ ?_
    · have l1 : u1.natAbs.log2 < 4 := lg (by omega) (by decide)
      have l2 : u2.natAbs.log2 < 5 := lg (by omega) (by decide)
      omega
    have hp : 0 ≤ u1 * u2 ∧ u1 * u2 ≤ 12 := by
      have : u1 = 0 ∨ u1 = 1 := by omega
      rcases this with rfl | rfl
      · rw [Int.zero_mul]; omega
      · rw [Int.one_mul]; omega
    generalize hp0 : u1 * u2 = pr at hp
    walk_at "go"
    refine w_of (w_rng (by omega) (by omega)) ?_
    refine ⟨by rfl, ?_⟩
    refine w_comp (fun j acc r => (∀ e ∈ acc, IsJ 1 e) ∧ acc.length = j ∧ j ≤ 12 ∧ ∃ ds', Src (k + 6403 + i * 1000 + j * 11) ds' ∧ r = [some (.own true ds'), some (.d (.int 3)), some (.d d), some (.d (.int (0 + i))), o4, none, none]) ⟨by simp, rfl, by omega, ds4, hs4.le (by omega) (by omega), rfl⟩ ?_ ?_
    · rintro j e acc r he ⟨ho, hl, hj, ds', hs', rfl⟩
      obtain ⟨hj3, rfl⟩ := rng_at he
      refine ⟨_, rfl, ?_⟩
      walk_at "go"
      walk_at "go"
      refine w_call rfl nd1 rfl (w_mono (leaf_ok (by omega) (k + 6403 + i * 1000 + j * 11) ds' hs' (by omega)) ?_)
      rintro e r' ⟨he, ds5, hs5, rfl⟩
      refine ⟨by have : (13 : Nat) < sizeLine := by decide
                 omega, fun e' he' => ?_, by simp [hl], by omega, ds5, hs5.le (by omega) (by omega), rfl⟩
      rcases List.mem_append.mp he' with h | h
      · exact ho e' h
      · simp at h; subst h; exact he
    · rintro acc r ⟨ho, hl, hj, ds5, hs5, rfl⟩
      rw [rng_len] at hl hj hs5
      refine w_nxt (by unfold setD; rw [if_pos (by rcases ho4 with rfl | ⟨_, rfl⟩ <;> rfl)]) ?_
      refine w_env (r' := [_, _, _, _, _, _, _]) rfl ?_
      walk_at "go"
      refine w_call rfl nd1 rfl (w_mono (draw_ok (by omega) (k + 6403 + i * 1000 + pr.toNat * 11) ds5 hs5 (by omega) 2 (by decide) (by decide)) ?_)
      rintro v r' ⟨u3, ds6, rfl, u30, u31, hs6, rfl⟩
      refine w_env (r' := [_, _, _, _, _, _, _]) rfl ?_
      walk_at "go"
      refine w_it (fun hb => ?_) (fun hb => ?_)
      · walk_at "go"
        refine w_of (addT (by simp; omega)) ?_
        walk_at "go"
        refine ⟨by omega, _, ds6, _, _, ?_, hs6.le (by omega) (by omega), rfl, .inr ⟨_, rfl⟩, .inr ⟨_, rfl⟩⟩
        have hall : ∀ e ∈ acc ++ [d], IsJ (4 + i) e := fun e he => by
          rcases List.mem_append.mp he with h | h
          · exact (ho e h).le (by omega)
          · simp at h; subst h; exact hd.1
        refine ⟨(IsJ.list (n := 4 + i) hall (by simp; omega)).le (by omega), ?_⟩
        show sz (.tup [.str _, .tup (acc ++ [d])]) ≤ _
        have h1 := szs_mul (s := 3) (ds := acc) fun e he => leaf_sz (ho e he)
        have h2 := hd.2
        simp only [sz_tup, szs_cons, szs_nil, sz_str, szs_app]
        omega
      · walk_at "go"
        refine w_lc ?_
        walk_at "go"
        refine w_of (show seqOf (.lst acc) = some acc from rfl) ?_
        refine ⟨by rfl, ?_⟩
        refine w_comp (fun j ac r => (∃ ps : List (Str × D), ac = ps.map fD ∧ ∀ f ∈ ps, SOk f.1 ∧ JS (4 + i) 3 f.2) ∧ ac.length = j ∧ j ≤ 12 ∧ ∃ ds', Src (k + 6600 + i * 1000 + j * 10) ds' ∧ r = [some (.own true ds'), some (.d (.int 3)), some (.d d), some (.d (.int (0 + i))), some (.d (.lst acc)), none, none]) ⟨⟨[], rfl, by simp⟩, rfl, by omega, ds6, hs6.le (by omega) (by omega), rfl⟩ ?_ ?_
        · rintro j e ac r he ⟨⟨ps, rfl, ho2⟩, hl2, hj2, ds', hs', rfl⟩
          have he1 : IsJ 1 e := ho e (List.mem_of_getElem? he)
          have hj4 : j < acc.length := (List.getElem?_eq_some_iff.mp he).1
          refine ⟨_, rfl, ?_⟩
          walk_at "go"
          walk_at "go"
          refine w_call rfl nd1 rfl (w_mono (name_ok (by omega) (k + 6600 + i * 1000 + j * 10) ds' hs' (by omega)) ?_)
          rintro v r' ⟨⟨y', rfl, yok⟩, ds7, hs7, rfl⟩
          refine w_env (r' := [_, _, _, _, _, _, _]) rfl ?_
          walk_at "go"
          refine ⟨by have : (13 : Nat) < sizeLine := by decide
                     omega, ⟨ps ++ [(y', e)], by rw [List.map_append]; rfl, fun f hf => ?_⟩, by simp at hl2 ⊢; omega, by omega, ds7, hs7.le (by omega) (by omega), rfl⟩
          rcases List.mem_append.mp hf with h | h
          · exact ho2 f h
          · simp at h; subst h; exact ⟨yok, he1.le (by omega), leaf_sz he1⟩
        · rintro ac r ⟨⟨ps, rfl, ho2⟩, hl2, hj2, ds7, hs7, rfl⟩
          rw [List.length_map] at hl2
          walk_at "go"
          refine w_call rfl nd1 rfl (w_mono (name_ok (by omega) (k + 6600 + i * 1000 + acc.length * 10) ds7 hs7 (by omega)) ?_)
          rintro v r' ⟨⟨y', rfl, yok⟩, ds8, hs8, rfl⟩
          refine w_env (r' := [_, _, _, _, _, _, _]) rfl ?_
          walk_at "go"
          refine o_mkL (by simp) ?_
          walk_at "go"
          refine w_of (addL (by simp; omega)) ?_
          walk_at "go"
          have hps : ∀ f ∈ ps ++ [(y', d)], SOk f.1 ∧ IsJ (4 + i) f.2 := fun f hf => by
            rcases List.mem_append.mp hf with h | h
            · exact ⟨(ho2 f h).1, (ho2 f h).2.1⟩
            · simp at h; subst h; exact ⟨yok, hd.1⟩
          have epd : (D.lst (ps.map fD ++ [.tup [.str y', d]])) = pD (ps ++ [(y', d)]) := by unfold pD; rw [List.map_append]; rfl
          rw [epd]
          refine w_call rfl nd0 rfl (w_mono (object_okW (by omega) (4 + i) (ps ++ [(y', d)]) hps (by simp; omega)) ?_)
          rintro v r' ⟨hv, hvs, rfl⟩
          walk_at "go"
          have hv2 : JS (4 + (i + 1)) (200 + (i + 1) * 300) v := by
            refine ⟨hv.le (by omega), ?_⟩
            rw [List.map_append, szs_app, List.map_cons, List.map_nil, szs_cons, szs_nil, sz_fD] at hvs
            have h1 := pairs_sz ho2
            have h2 : ps.length * (3 + 2) ≤ 12 * (3 + 2) := Nat.mul_le_mul_right _ (by omega)
            have h3 := hd.2
            dsimp only at hvs
            omega
          exact ⟨by omega, _, ds8, _, _, hv2, hs8.le (by omega) (by omega), rfl, .inr ⟨_, rfl⟩, .inr ⟨_, rfl⟩⟩
  · rintro r ⟨hi, d, ds', o3, o4, hd, hs', rfl, ho3, ho4⟩
    rw [rng_len] at hd hs' hi
    have hmul : y.toNat * 1000 ≤ 3000 := by omega
    walk_at "go"
    exact ⟨hd.le (show 4 + y.toNat ≤ 7 by omega) (show 200 + y.toNat * 300 ≤ 1200 by omega), ds', hs'.le (by omega) (by omega), rfl⟩
end Row

set_option maxHeartbeats 1000000
namespace Row
open PySem PySem.Spec PyProof.Rows L2 Pk
local macro_rules | `(tactic| walk_at "s") => `(tactic| first
  | with_reducible refine w_seq ?_ | with_reducible refine w_ret ?_ | with_reducible refine w_if ?_ | with_reducible refine w_and ?_ | with_reducible refine w_or ?_ | with_reducible refine w_bd ?_ | with_reducible refine w_rt ?_ | with_reducible refine w_nil ?_
  | ((with_reducible refine' w_ld ?h ?_); (case h => exact rfl)) | ((with_reducible refine' w_own ?h ?_); (case h => exact rfl)) | ((with_reducible refine' w_ldF ?h ?_); (case h => exact rfl)) | ((with_reducible refine' w_nxt ?h ?_); (case h => exact rfl))
  | with_reducible refine w_chain ?_ | with_reducible refine w_andV ?_ | with_reducible refine w_orV ?_ | with_reducible refine p_itT ?_ | with_reducible refine p_itF ?_ | with_reducible refine w_itT ?_ | with_reducible refine w_itF ?_ | with_reducible refine o_asB ?_ | with_reducible refine o_asI ?_ | with_reducible refine o_asS ?_ | with_reducible refine o_truB ?_ | with_reducible refine o_truN ?_ | with_reducible refine o_truT ?_ | with_reducible refine o_truL ?_
  | with_reducible refine o_intI ?_ | with_reducible refine o_intB ?_ | with_reducible refine o_lenT ?_ | with_reducible refine o_lenL ?_ | with_reducible refine o_lenR ?_ | with_reducible refine o_listT ?_ | with_reducible refine o_listL ?_ | with_reducible refine o_tupleT ?_ | with_reducible refine o_tupleL ?_
  | with_reducible refine o_addI ?_ | with_reducible refine o_subI ?_ | with_reducible refine o_negI ?_ | with_reducible refine o_minI ?_ | with_reducible refine o_maxI ?_ | with_reducible refine o_eqI ?_ | with_reducible refine o_neI ?_
  | with_reducible refine o_ltI ?_ | with_reducible refine o_leI ?_ | with_reducible refine o_gtI ?_ | with_reducible refine o_geI ?_ | with_reducible refine o_ltS ?_ | with_reducible refine o_leS ?_ | with_reducible refine o_gtS ?_ | with_reducible refine o_geS ?_ | with_reducible refine o_isN ?_ | with_reducible refine o_isNotN ?_
  | with_reducible refine o_mkT0 ?_ | with_reducible refine o_mkT1 ?_ | with_reducible refine o_mkT2 ?_ | with_reducible refine o_mkT3 ?_ | with_reducible refine o_mkT4 ?_ | with_reducible refine o_mkT5 ?_ | with_reducible refine o_mkL0 ?_ | with_reducible refine o_mkL1 ?_ | with_reducible refine o_mkL2 ?_ | with_reducible refine o_mkL3 ?_ | with_reducible refine o_mkL4 ?_ | with_reducible refine o_seqT ?_ | with_reducible refine o_seqL ?_ | with_reducible refine o_seqR ?_ | with_reducible refine w_itN ?_ | with_reducible refine p_itN ?_ | ((with_reducible refine' o_modI ?h ?_); (case h => decide)) | ((with_reducible refine' o_fdivI ?h ?h2 ?_); (case h => decide); (case h2 => decide)) | ((with_reducible refine' o_powI ?h ?h2 ?h3 ?_); (case h => decide); (case h2 => decide); (case h3 => decide))
  | ((with_reducible refine' o_eqS ?h ?h2 ?_); (case h => first | assumption | exact SOk.str (by assumption) | exact so_list | exact so_object | exact so_null | exact so_bool | exact so_int | exact so_text | exact SOk.str (sok_by (by decide +kernel))); (case h2 => first | assumption | exact SOk.str (by assumption) | exact so_list | exact so_object | exact so_null | exact so_bool | exact so_int | exact so_text | exact SOk.str (sok_by (by decide +kernel)))) | ((with_reducible refine' o_neS ?h ?h2 ?_); (case h => first | assumption | exact SOk.str (by assumption) | exact so_list | exact so_object | exact so_null | exact so_bool | exact so_int | exact so_text | exact SOk.str (sok_by (by decide +kernel))); (case h2 => first | assumption | exact SOk.str (by assumption) | exact so_list | exact so_object | exact so_null | exact so_bool | exact so_int | exact so_text | exact SOk.str (sok_by (by decide +kernel)))) | with_reducible refine o_ixh ?_ | ((with_reducible refine' o_ix ?h ?_); (case h => exact rfl)))
local macro_rules | `(tactic| walk_at "ix") => `(tactic| refine w_of (show ixD _ _ = some _ from rfl) ?_)
local macro_rules | `(tactic| walk_at "go") => `(tactic| (repeat walk_at "s"))
local macro_rules | `(tactic| walk_at "e1") => `(tactic| refine w_env (r' := [_]) rfl ?_)
local macro_rules | `(tactic| walk_at "e2") => `(tactic| refine w_env (r' := [_, _]) rfl ?_)
local macro_rules | `(tactic| walk_at "e3") => `(tactic| refine w_env (r' := [_, _, _]) rfl ?_)
local macro_rules | `(tactic| walk_at "e4") => `(tactic| refine w_env (r' := [_, _, _, _]) rfl ?_)
local macro_rules | `(tactic| walk_at "e") => `(tactic| first | refine w_env (r' := [_]) rfl ?_ | refine w_env (r' := [_, _]) rfl ?_ | refine w_env (r' := [_, _, _]) rfl ?_ | refine w_env (r' := [_, _, _, _]) rfl ?_ | refine w_env (r' := [_, _, _, _, _]) rfl ?_ | refine w_env (r' := [_, _, _, _, _, _]) rfl ?_ | refine w_env (r' := [_, _, _, _, _, _, _]) rfl ?_ | refine w_env (r' := [_, _, _, _, _, _, _, _]) rfl ?_ | refine w_env (r' := [_, _, _, _, _, _, _, _, _]) rfl ?_ | refine w_env (r' := [_, _, _, _, _, _, _, _, _, _]) rfl ?_ | refine w_env (r' := [_, _, _, _, _, _, _, _, _, _, _]) rfl ?_ | refine w_env (r' := [_, _, _, _, _, _, _, _, _, _, _, _]) rfl ?_)
local macro_rules | `(tactic| walk_at "br") => `(tactic| first | refine w_itD (fun hb => ?_) (fun hb => ?_) | refine w_itE (fun hb => ?_) (fun hb => ?_) | refine p_itD (fun hb => ?_) (fun hb => ?_) | refine p_itE (fun hb => ?_) (fun hb => ?_))
local macro_rules | `(tactic| walk_at "lit") => `(tactic| first | ((with_reducible refine' w_ifT ?h ?_); (case h => exact rfl)) | ((with_reducible refine' w_ifF ?h ?_); (case h => exact rfl)) | ((with_reducible refine' p_ifT ?h ?_); (case h => exact rfl)) | ((with_reducible refine' p_ifF ?h ?_); (case h => exact rfl)))
local macro_rules | `(tactic| walk_at "gl") => `(tactic| (repeat (first | walk_at "s" | walk_at "lit")))
theorem chg_ok {N : Nat} (hN : 50 ≤ N) (ds : List D) (hs : Src 0 ds) {v : D} (hv : IsJ 7 v) : wp (sem N .l_changed) (fun d r' => IsJ 8 d ∧ ∃ ds', r' = [some (.own true ds'), some (.d v)]) [some (.own true ds), some (.d v)] := by
  obtain ⟨n, rfl⟩ := lev (by omega) (show 1 ≤ N by omega)
  rw [sem_succ]
  refine w_body (by rfl) ?_
  delta b_l_changed
  walk_at "go"
  refine w_cl rfl rfl nd1 (path_ok (by omega) 0 ds hs (by decide) 7 v hv 3 (by decide)) ?_
  rintro _ _ ⟨⟨ts, rfl, hts, htl⟩, ds1, hs1, rfl⟩
  have hp : IsPath (.tup ts) := ⟨ts, rfl, hts, by omega⟩
  walk_at "go"
  refine w_cl rfl rfl nd1 (draw_ok (by omega) (0 + 50) ds1 hs1 (by decide) 3 (by decide) (by decide)) ?_
  rintro _ _ ⟨x, ds2, rfl, x0, x1, hs2, rfl⟩
  walk_at "go"
  have hx : x = 0 ∨ x = 1 ∨ x = 2 := by omega
  rcases hx with rfl | rfl | rfl
  · walk_at "gl"
    refine w_cl rfl rfl nd0 (ltakeF_ok (by omega) hv hp) ?_
    rintro _ _ ⟨rfl, rfl⟩
    walk_at "gl"
    rcases takeF_ok hv hp with e | e
    · rw [e]
      walk_at "gl"
      exact ⟨hv.le (by decide), ds2, rfl⟩
    · refine w_ifF e.some.1 ?_
      walk_at "gl"
      exact ⟨e.le (by decide), ds2, rfl⟩
  · walk_at "gl"
    refine w_cl rfl rfl nd1 (target_ok (by omega) (0 + 50 + 1) ds2 hs2 (by decide) 7 v hv 3 (by decide)) ?_
    rintro _ _ ⟨⟨ts2, rfl, hts2, htl2⟩, ds3, hs3, rfl⟩
    have hp2 : IsPath (.tup ts2) := ⟨ts2, rfl, hts2, by omega⟩
    walk_at "gl"
    refine w_cl rfl rfl nd1 (leaf_ok (by omega) (0 + 50 + 1 + 80) ds3 hs3 (by decide)) ?_
    rintro c _ ⟨hc, ds4, hs4, rfl⟩
    walk_at "gl"
    refine w_cl rfl rfl nd0 (lputF_ok (by omega) hv hp2 hc (by decide)) ?_
    rintro _ _ ⟨rfl, rfl⟩
    walk_at "gl"
    rcases putF_ok hv hp2 hc (by decide) with e | e
    · rw [e]
      walk_at "gl"
      exact ⟨hv.le (by decide), ds4, rfl⟩
    · refine w_ifF e.some.1 ?_
      walk_at "gl"
      exact ⟨e.le (by decide), ds4, rfl⟩
  · walk_at "gl"
    refine w_cl rfl rfl nd1 (leaf_ok (by omega) (0 + 50 + 1) ds2 hs2 (by decide)) ?_
    rintro c _ ⟨hc, ds4, hs4, rfl⟩
    walk_at "gl"
    refine w_cl rfl rfl nd0 (lreplF_ok (by omega) hv hp hc) ?_
    rintro _ _ ⟨rfl, rfl⟩
    walk_at "gl"
    rcases replF_ok hv hp hc with e | e
    · rw [e]
      walk_at "gl"
      exact ⟨hv.le (by decide), ds4, rfl⟩
    · refine w_ifF e.some.1 ?_
      walk_at "gl"
      exact ⟨e.le (by decide), ds4, rfl⟩
end Row

set_option maxHeartbeats 1000000
namespace Row
open PySem PySem.Spec PyProof.Rows L2 Pk
local macro_rules | `(tactic| walk_at "s") => `(tactic| first
  | with_reducible refine w_seq ?_ | with_reducible refine w_ret ?_ | with_reducible refine w_if ?_ | with_reducible refine w_and ?_ | with_reducible refine w_or ?_ | with_reducible refine w_bd ?_ | with_reducible refine w_rt ?_ | with_reducible refine w_nil ?_
  | ((with_reducible refine' w_ld ?h ?_); (case h => exact rfl)) | ((with_reducible refine' w_own ?h ?_); (case h => exact rfl)) | ((with_reducible refine' w_ldF ?h ?_); (case h => exact rfl)) | ((with_reducible refine' w_nxt ?h ?_); (case h => exact rfl))
  | with_reducible refine w_chain ?_ | with_reducible refine w_andV ?_ | with_reducible refine w_orV ?_ | with_reducible refine p_itT ?_ | with_reducible refine p_itF ?_ | with_reducible refine w_itT ?_ | with_reducible refine w_itF ?_ | with_reducible refine o_asB ?_ | with_reducible refine o_asI ?_ | with_reducible refine o_asS ?_ | with_reducible refine o_truB ?_ | with_reducible refine o_truN ?_ | with_reducible refine o_truT ?_ | with_reducible refine o_truL ?_
  | with_reducible refine o_intI ?_ | with_reducible refine o_intB ?_ | with_reducible refine o_lenT ?_ | with_reducible refine o_lenL ?_ | with_reducible refine o_lenR ?_ | with_reducible refine o_listT ?_ | with_reducible refine o_listL ?_ | with_reducible refine o_tupleT ?_ | with_reducible refine o_tupleL ?_
  | with_reducible refine o_addI ?_ | with_reducible refine o_subI ?_ | with_reducible refine o_negI ?_ | with_reducible refine o_minI ?_ | with_reducible refine o_maxI ?_ | with_reducible refine o_eqI ?_ | with_reducible refine o_neI ?_
  | with_reducible refine o_ltI ?_ | with_reducible refine o_leI ?_ | with_reducible refine o_gtI ?_ | with_reducible refine o_geI ?_ | with_reducible refine o_ltS ?_ | with_reducible refine o_leS ?_ | with_reducible refine o_gtS ?_ | with_reducible refine o_geS ?_ | with_reducible refine o_isN ?_ | with_reducible refine o_isNotN ?_
  | with_reducible refine o_mkT0 ?_ | with_reducible refine o_mkT1 ?_ | with_reducible refine o_mkT2 ?_ | with_reducible refine o_mkT3 ?_ | with_reducible refine o_mkT4 ?_ | with_reducible refine o_mkT5 ?_ | with_reducible refine o_mkL0 ?_ | with_reducible refine o_mkL1 ?_ | with_reducible refine o_mkL2 ?_ | with_reducible refine o_mkL3 ?_ | with_reducible refine o_mkL4 ?_ | with_reducible refine o_seqT ?_ | with_reducible refine o_seqL ?_ | with_reducible refine o_seqR ?_ | with_reducible refine w_itN ?_ | with_reducible refine p_itN ?_ | ((with_reducible refine' o_modI ?h ?_); (case h => decide)) | ((with_reducible refine' o_fdivI ?h ?h2 ?_); (case h => decide); (case h2 => decide)) | ((with_reducible refine' o_powI ?h ?h2 ?h3 ?_); (case h => decide); (case h2 => decide); (case h3 => decide))
  | ((with_reducible refine' o_eqS ?h ?h2 ?_); (case h => first | assumption | exact SOk.str (by assumption) | exact so_list | exact so_object | exact so_null | exact so_bool | exact so_int | exact so_text | exact SOk.str (sok_by (by decide +kernel))); (case h2 => first | assumption | exact SOk.str (by assumption) | exact so_list | exact so_object | exact so_null | exact so_bool | exact so_int | exact so_text | exact SOk.str (sok_by (by decide +kernel)))) | ((with_reducible refine' o_neS ?h ?h2 ?_); (case h => first | assumption | exact SOk.str (by assumption) | exact so_list | exact so_object | exact so_null | exact so_bool | exact so_int | exact so_text | exact SOk.str (sok_by (by decide +kernel))); (case h2 => first | assumption | exact SOk.str (by assumption) | exact so_list | exact so_object | exact so_null | exact so_bool | exact so_int | exact so_text | exact SOk.str (sok_by (by decide +kernel)))) | with_reducible refine o_ixh ?_ | ((with_reducible refine' o_ix ?h ?_); (case h => exact rfl)))
local macro_rules | `(tactic| walk_at "ix") => `(tactic| refine w_of (show ixD _ _ = some _ from rfl) ?_)
local macro_rules | `(tactic| walk_at "go") => `(tactic| (repeat walk_at "s"))
local macro_rules | `(tactic| walk_at "e1") => `(tactic| refine w_env (r' := [_]) rfl ?_)
local macro_rules | `(tactic| walk_at "e2") => `(tactic| refine w_env (r' := [_, _]) rfl ?_)
local macro_rules | `(tactic| walk_at "e3") => `(tactic| refine w_env (r' := [_, _, _]) rfl ?_)
local macro_rules | `(tactic| walk_at "e4") => `(tactic| refine w_env (r' := [_, _, _, _]) rfl ?_)
local macro_rules | `(tactic| walk_at "e") => `(tactic| first | refine w_env (r' := [_]) rfl ?_ | refine w_env (r' := [_, _]) rfl ?_ | refine w_env (r' := [_, _, _]) rfl ?_ | refine w_env (r' := [_, _, _, _]) rfl ?_ | refine w_env (r' := [_, _, _, _, _]) rfl ?_ | refine w_env (r' := [_, _, _, _, _, _]) rfl ?_ | refine w_env (r' := [_, _, _, _, _, _, _]) rfl ?_ | refine w_env (r' := [_, _, _, _, _, _, _, _]) rfl ?_ | refine w_env (r' := [_, _, _, _, _, _, _, _, _]) rfl ?_ | refine w_env (r' := [_, _, _, _, _, _, _, _, _, _]) rfl ?_ | refine w_env (r' := [_, _, _, _, _, _, _, _, _, _, _]) rfl ?_ | refine w_env (r' := [_, _, _, _, _, _, _, _, _, _, _, _]) rfl ?_)
local macro_rules | `(tactic| walk_at "br") => `(tactic| first | refine w_itD (fun hb => ?_) (fun hb => ?_) | refine w_itE (fun hb => ?_) (fun hb => ?_) | refine p_itD (fun hb => ?_) (fun hb => ?_) | refine p_itE (fun hb => ?_) (fun hb => ?_))
local macro_rules | `(tactic| walk_at "lit") => `(tactic| first | ((with_reducible refine' w_ifT ?h ?_); (case h => exact rfl)) | ((with_reducible refine' w_ifF ?h ?_); (case h => exact rfl)) | ((with_reducible refine' p_ifT ?h ?_); (case h => exact rfl)) | ((with_reducible refine' p_ifF ?h ?_); (case h => exact rfl)))
local macro_rules | `(tactic| walk_at "gl") => `(tactic| (repeat (first | walk_at "s" | walk_at "lit")))
abbrev DEPTH : Nat := 90

theorem says : Says DEPTH := by
  intro ns hl hb
  have hbig : ∀ z ∈ ns, Big z := fun z hz => Big.of_bits (hb z hz)
  have main : wp (sem DEPTH .law0) (fun d _ => d = .bl true) [some (.d (.ro (ns.map D.int)))] := by
    unfold DEPTH
    rw [sem_succ]
    refine w_body (by rfl) ?_
    delta b_law0
    walk_at "go"
    refine w_cl rfl rfl nd0 (cell_ok (by decide) ns hbig 0) ?_
    rintro _ _ ⟨⟨z, rfl, hz⟩, rfl⟩
    walk_at "e"; walk_at "go"
    refine w_callN rfl nd0 rfl (w_mono (source_ok (by decide) z hz) ?_)
    rintro ds r' ⟨hs, rfl⟩
    walk_at "go"
    refine w_callT rfl nd1 rfl (w_mono (wide_okW (by decide) 0 ds hs (by decide)) ?_)
    rintro v r' ⟨⟨hv, hvs⟩, ds', _, rfl⟩
    walk_at "go"
    walk_at "e"; walk_at "go"
    refine w_cl rfl rfl nd0 (eqf_ok 7 (by decide) v hv) ?_
    rintro _ _ ⟨rfl, rfl⟩
    walk_at "go"
    walk_at "e"; walk_at "go"
    obtain ⟨hef, hes⟩ := eq_ef 7 hv
    refine w_cl rfl rfl nd0 (isf_ok (by decide) (show 2 * 7 + 2 ≤ 300 by decide) hef (by omega)) ?_
    rintro _ _ ⟨rfl, rfl⟩
    walk_at "e"; walk_at "gl"
    refine w_line (by simp) ?_
    walk_at "go"
    refine w_of (show slD (.ro (ns.map D.int)) (some 1) (some 15) = some (.lst (Pk.cutD (ns.map D.int) (some 1) (some 15))) from rfl) ?_
    walk_at "go"
    have hcut : (Pk.cutD (ns.map D.int) (some 1) (some 15)).length ≤ 63 := by
      have := cut_len (ns.map D.int) (some 1) (some 15)
      rw [List.length_map] at this
      omega
    have hcell : ∀ d ∈ (Pk.cutD (ns.map D.int) (some 1) (some 15)), ∃ z, d = .int z ∧ Big z := fun d hd => by
      obtain ⟨z, hz, rfl⟩ := List.mem_map.mp (cut_mem hd)
      exact ⟨z, rfl, hbig z hz⟩
    generalize Pk.cutD (ns.map D.int) (some 1) (some 15) = cells at hcell hcut
    refine w_for (fun i r => ∃ vs o4, (∀ d ∈ vs, IsJ 8 d) ∧ vs.length ≤ i + 1 ∧ i ≤ 63 ∧ Fre o4 ∧ r = [some (.d (.ro (ns.map D.int))), some (.d v), some (.d (eqFm 7 v)), some (.own false vs), o4, none]) ⟨[v], none, by simpa using hv.le (by decide), by simp, by omega, trivial, rfl⟩ ?_ ?_
    · rintro i d r hd ⟨vs, o4, hvs8, hvl, hi63, f4, rfl⟩
      obtain ⟨z, rfl, hz⟩ := hcell d (List.mem_of_getElem? hd)
      have hi : i < 63 := Nat.lt_of_lt_of_le (List.getElem?_eq_some_iff.mp hd).1 hcut
      refine ⟨_, setD_ok (o := o4) rfl f4, ?_⟩
      walk_at "e"; walk_at "go"
      walk_at "br"
      · walk_at "go"
        refine w_callN rfl nd0 rfl (w_mono (source_ok (by decide) _ (hz.fdiv (show (0 : Int) < 4 by decide))) ?_)
        rintro dsv r' ⟨hsv, rfl⟩
        walk_at "go"
        refine w_callT rfl nd1 rfl (w_mono (chg_ok (by decide) dsv hsv hv) ?_)
        rintro c r' ⟨hc, dsv', rfl⟩
        refine w_nxt (appM_ok rfl (by omega)) ?_
        refine ⟨vs ++ [c], some (.d (.int z)), fun d hd => ?_, by simp; omega, by omega, trivial, rfl⟩
        rcases List.mem_append.mp hd with h | h
        · exact hvs8 d h
        · obtain rfl := List.mem_singleton.mp h; exact hc
      · walk_at "go"
        refine w_callN rfl nd0 rfl (w_mono (source_ok (by decide) _ (hz.fdiv (show (0 : Int) < 4 by decide))) ?_)
        rintro dsv r' ⟨hsv, rfl⟩
        walk_at "go"
        refine w_callT rfl nd1 rfl (w_mono (value_ok 2 (by decide) 0 dsv hsv (by decide)) ?_)
        rintro c r' ⟨hc, dsv', _, rfl⟩
        refine w_nxt (appM_ok rfl (by omega)) ?_
        refine ⟨vs ++ [c], some (.d (.int z)), fun d hd => ?_, by simp; omega, by omega, trivial, rfl⟩
        rcases List.mem_append.mp hd with h | h
        · exact hvs8 d h
        · obtain rfl := List.mem_singleton.mp h; exact hc.le (by decide)
    · rintro r ⟨vs, o4, hvs8, hvl, hi63, f4, rfl⟩
      walk_at "go"
      refine w_lcO rfl rfl ?_
      walk_at "e"
      refine w_compM (fun _ => .bl true) (by omega) (fun d hd => ?_) ?_
      · have hj := hvs8 d hd
        refine ⟨_, rfl, ?_⟩
        walk_at "go"
        refine w_cl rfl rfl nd0 (lholds_ok 16 (by decide) false 8 _ d .non hef.fo hj (fun e => by cases e)) ?_
        rintro _ _ ⟨rfl, rfl⟩
        rw [hold_eq 7 hv hj (by decide)]
        walk_at "e"; walk_at "go"
        refine w_of (eq_const hj hv (by decide)) ?_
        walk_at "go"
        refine w_of (show eqD (.bl (eqv d v)) (.bl (eqv d v)) = some (.bl true) by cases eqv d v <;> rfl) ?_
        exact ⟨rfl, rfl⟩
      walk_at "e"; walk_at "go"
      refine w_of (all_true fun e he => by obtain ⟨_, _, rfl⟩ := List.mem_map.mp he; rfl) ?_
      walk_at "go"
      exact rfl
  obtain ⟨d, rr, e, rfl⟩ := main
  exact ⟨rr, e⟩
end Row

open PySem PySem.W PyProof.Rows
set_option maxRecDepth 100000 in
set_option maxHeartbeats 0 in
theorem PySem.Challenge.cw_patchkept_k24_equal_formulas_holds : PySem.Challenge.rw_patchkept_k24_equal_formulas.Holds := by
  w_on; o_law; k_head; (case hw => w_witness2)
  k_fill
  refine Row.walk (l := PySem.Challenge.rw_patchkept_k24_equal_formulas) (N := Row.DEPTH) ⟨rfl, by decide, by decide⟩ Row.says rfl rfl (fun w h Y => PySem.W.kIn_of Y) ?F
  case F =>
    intro w mg fa h KX G hmg
    refine' Row.top_mk KX G hmg
      (Row.ff_p_bounded_formula KX G ?a0 ?l0 ?c0 ?k0)
      (Row.ff_p_items_formula KX G ?a1 ?l1 ?c1 ?k1)
      (Row.ff_p_field_formula KX G ?a2 ?l2 ?c2 ?k2)
      (Row.ff_p_fields_formula KX G ?a3 ?l3 ?c3 ?k3)
      (Row.ff_p_equal_formula KX G ?a4 ?l4 ?c4 ?k4)
      (Row.ff_l_child KX G ?a5 ?l5 ?c5 ?k5)
      (Row.ff_l_lookup KX G ?a6 ?l6 ?c6 ?k6)
      (Row.ff_l_with KX G ?a7 ?l7 ?c7 ?k7)
      (Row.ff_l_replace KX G ?a8 ?l8 ?c8 ?k8)
      (Row.ff_l_put KX G ?a9 ?l9 ?c9 ?k9)
      (Row.ff_l_take KX G ?a10 ?l10 ?c10 ?k10)
      (Row.ff_l_holds KX G ?a11 ?l11 ?c11 ?k11)
      (Row.ff_l_is_integer KX G ?a12 ?l12 ?c12 ?k12)
      (Row.ff_l_is_string KX G ?a13 ?l13 ?c13 ?k13)
      (Row.ff_l_is_token KX G ?a14 ?l14 ?c14 ?k14)
      (Row.ff_l_formula_parts KX G ?a15 ?l15 ?c15 ?k15)
      (Row.ff_l_is_formula KX G ?a16 ?l16 ?c16 ?k16)
      (Row.ff_l_cell KX G ?a17 ?l17 ?c17 ?k17)
      (Row.ff_l_source KX G ?a18 ?l18 ?c18 ?k18)
      (Row.ff_l_draw KX G ?a19 ?l19 ?c19 ?k19)
      (Row.ff_l_char KX G ?a20 ?l20 ?c20 ?k20)
      (Row.ff_l_name KX G ?a21 ?l21 ?c21 ?k21)
      (Row.ff_l_number KX G ?a22 ?l22 ?c22 ?k22)
      (Row.ff_l_leaf KX G ?a23 ?l23 ?c23 ?k23)
      (Row.ff_l_object KX G ?a24 ?l24 ?c24 ?k24)
      (Row.ff_l_value KX G ?a25 ?l25 ?c25 ?k25)
      (Row.ff_l_wide KX G ?a26 ?l26 ?c26 ?k26)
      (Row.ff_l_token KX G ?a27 ?l27 ?c27 ?k27)
      (Row.ff_l_path KX G ?a28 ?l28 ?c28 ?k28)
      (Row.ff_l_target KX G ?a29 ?l29 ?c29 ?k29)
      (Row.ff_l_changed KX G ?a30 ?l30 ?c30 ?k30)
      (Row.ff_law0 KX G ?a31 ?l31 ?c31 ?k31)
      (fun s u => .of_eq rfl) ?z_all ?z_any ?z_bool ?z_enumerate ?z_int ?z_isinstance ?z_len ?z_min ?z_ord ?z_range ?z_str ?z_tuple
    (case a0 => k_is); (case l0 => k_is); (case c0 => k_is); (case k0 => k_is)
    (case a1 => k_is); (case l1 => k_is); (case c1 => k_is); (case k1 => k_is)
    (case a2 => k_is); (case l2 => k_is); (case c2 => k_is); (case k2 => k_is)
    (case a3 => k_is); (case l3 => k_is); (case c3 => k_is); (case k3 => k_is)
    (case a4 => k_is); (case l4 => k_is); (case c4 => k_is); (case k4 => k_is)
    (case a5 => k_is); (case l5 => k_is); (case c5 => k_is); (case k5 => k_is)
    (case a6 => k_is); (case l6 => k_is); (case c6 => k_is); (case k6 => k_is)
    (case a7 => k_is); (case l7 => k_is); (case c7 => k_is); (case k7 => k_is)
    (case a8 => k_is); (case l8 => k_is); (case c8 => k_is); (case k8 => k_is)
    (case a9 => k_is); (case l9 => k_is); (case c9 => k_is); (case k9 => k_is)
    (case a10 => k_is); (case l10 => k_is); (case c10 => k_is); (case k10 => k_is)
    (case a11 => k_is); (case l11 => k_is); (case c11 => k_is); (case k11 => k_is)
    (case a12 => k_is); (case l12 => k_is); (case c12 => k_is); (case k12 => k_is)
    (case a13 => k_is); (case l13 => k_is); (case c13 => k_is); (case k13 => k_is)
    (case a14 => k_is); (case l14 => k_is); (case c14 => k_is); (case k14 => k_is)
    (case a15 => k_is); (case l15 => k_is); (case c15 => k_is); (case k15 => k_is)
    (case a16 => k_is); (case l16 => k_is); (case c16 => k_is); (case k16 => k_is)
    (case a17 => k_is); (case l17 => k_is); (case c17 => k_is); (case k17 => k_is)
    (case a18 => k_is); (case l18 => k_is); (case c18 => k_is); (case k18 => k_is)
    (case a19 => k_is); (case l19 => k_is); (case c19 => k_is); (case k19 => k_is)
    (case a20 => k_is); (case l20 => k_is); (case c20 => k_is); (case k20 => k_is)
    (case a21 => k_is); (case l21 => k_is); (case c21 => k_is); (case k21 => k_is)
    (case a22 => k_is); (case l22 => k_is); (case c22 => k_is); (case k22 => k_is)
    (case a23 => k_is); (case l23 => k_is); (case c23 => k_is); (case k23 => k_is)
    (case a24 => k_is); (case l24 => k_is); (case c24 => k_is); (case k24 => k_is)
    (case a25 => k_is); (case l25 => k_is); (case c25 => k_is); (case k25 => k_is)
    (case a26 => k_is); (case l26 => k_is); (case c26 => k_is); (case k26 => k_is)
    (case a27 => k_is); (case l27 => k_is); (case c27 => k_is); (case k27 => k_is)
    (case a28 => k_is); (case l28 => k_is); (case c28 => k_is); (case k28 => k_is)
    (case a29 => k_is); (case l29 => k_is); (case c29 => k_is); (case k29 => k_is)
    (case a30 => k_is); (case l30 => k_is); (case c30 => k_is); (case k30 => k_is)
    (case a31 => k_is); (case l31 => k_is); (case c31 => k_is); (case k31 => k_is)
    (case z_all => k_is)
    (case z_any => k_is)
    (case z_bool => k_is)
    (case z_enumerate => k_is)
    (case z_int => k_is)
    (case z_isinstance => k_is)
    (case z_len => k_is)
    (case z_min => k_is)
    (case z_ord => k_is)
    (case z_range => k_is)
    (case z_str => k_is)
    (case z_tuple => k_is)
