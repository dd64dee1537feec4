import PyProof.Rows.All
import Wide.All
import OpenK.AllK
import Wide.FinOn
import HandS.ForMost
import HandS.IsInst
import HandS.TupAny
import HandS.Wide
import HandS.EndBits
import HandS.Lambda
import HandS.EndTab
import HandS.SetKeys
import HandS.Deep
import HandS.Rev
import HandS.SortKw
import KE.SortKeyHeap
import KE.KSortKey
import KE.KLam
import HandS.CallLocal
import HandS.More
import HandS.GenList
import HandS.AnyAll
import HandS.DictComp
import HandS.Zip
import KE.KDictPairs
import HandS.EndOwn
import HandS.RevTup
import HandS.MapObj
import KE.KItemsList
import HandS.ExcValue
import HandS.WrittenGet
import HandS.Style
import HandS.TupMul
import HandS.Nested
import HandS.FStr
import HandS.Replace
import HandS.ReplaceLit
import HandS.ReplaceDef
import HandS.ReplaceList
import PyProof.AutoSeq1
import HandS.Strs
import HandS.MapJoin
import PySem.Challenge.RW_patchkept_k44_pick_text
set_option Elab.async false
set_option linter.all false
set_option maxRecDepth 100000
namespace Pk
open PySem L2

/-! ### data -/
/-- what stands still before the run, with the program and the world that sets are laid by -/
structure KP where
  K : PySem.W.Frag
  P : Program
  w : World
instance : Coe KP PySem.W.Frag := ⟨KP.K⟩
@[reducible] def _root_.L2.Cx.kp (X : L2.Cx) : KP := ⟨X.K, X.prog, X.w⟩
inductive D where
  | non | bl (b : Bool) | int (i : Int) | str (x : Str) | tup (ds : List D) | lst (ds : List D) | ro (ds : List D)
  /-- a dict of texts that stands still -/
  | dct (ks : List Str) (ds : List D)
  /-- a tuple of which it is not said that it has no dict of its own -/
  | tq (ds : List D)
  /-- a function, and what it captured: nothing is asked of it but that it is called -/
  | fn (a : Addr) (vs : List V) (cs : List D)
  /-- a set of texts that stands still: its members, each once -/
  | st (ks : List Str)
/-- the object of a plain tuple -/
def PlO (o : Obj) : Prop := o.cls = .type "tuple" ∧ o.dict = none ∧ ∃ (its : Array Value) (n : Nat), o.data = .seq its n
def TpT (K : PySem.W.Frag) (G : Hp) (a : Addr) (vs : List V) : Prop := (∃ o, G a = some (.frz o (.tup vs)) ∧ PlO o) ∨
  ∃ (o : Obj) (its : Array Value) (n : Nat), K.lookup a = some o ∧ o.cls = .type "tuple" ∧ o.dict = none ∧ o.data = .seq its n ∧ its.size ≤ sizeLine ∧ Vals vs its.toList
theorem TpT.sq {K : PySem.W.Frag} {G : Hp} {a : Addr} {vs : List V} (h : TpT K G a vs) : SqT K G a vs := by
  rcases h with ⟨o, h, _⟩ | ⟨o, its, n, h1, h2, _, h3, h4, h5⟩
  · exact .inl (.inr ⟨o, h⟩)
  · exact .inr ⟨o, its, n, h1, h2, h3, h4, h5⟩
theorem TpT.mono {K : PySem.W.Frag} {G G' : Hp} (g : Same G G') {a : Addr} {vs : List V} (h : TpT K G a vs) : TpT K G' a vs := by
  rcases h with ⟨o, h, p⟩ | h
  · exact .inl ⟨o, g _ _ h, p⟩
  · exact .inr h
/-- its pairs -/
def dkv : List Str → List V → List (Key × V)
  | k :: ks, v :: vs => (.inr k, v) :: dkv ks vs
  | _, _ => []

def memK (ks : List Str) : Key → Bool
  | .inr x => decide (x ∈ ks)
  | _ => false
mutual
def Rep (K : KP) (G : Hp) : D → V → Prop
  | .non, v => v = .non
  | .bl b, v => v = .bl b
  | .int i, v => v = .int i
  | .str x, v => v = .str x
  | .tup ds, v => ∃ a vs, v = .ref a ∧ TpT K G a vs ∧ Reps K G ds vs
  | .tq ds, v => ∃ a vs, v = .ref a ∧ SqT K G a vs ∧ Reps K G ds vs
  | .lst ds, v => ∃ a vs, v = .ref a ∧ G a = some (.lst vs) ∧ Reps K G ds vs
  | .ro ds, v => ∃ a vs, v = .ref a ∧ SqL K G a vs ∧ Reps K G ds vs
  | .dct ks ds, v => ∃ a vs, v = .ref a ∧ Rd G a (.dK (dkv ks vs)) ∧ ks.length = vs.length ∧ Reps K G ds vs
  | .fn a vs cs, v => v = .ref a ∧ Reps K G cs vs
  | .st ks, v => ∃ a, v = .ref a ∧ G a = some (SetK K.P K.w a (memK ks) ks.length) ∧ ks.Nodup
def Reps (K : KP) (G : Hp) : List D → List V → Prop
  | [], vs => vs = []
  | d :: ds, vs => ∃ v r, vs = v :: r ∧ Rep K G d v ∧ Reps K G ds r
end

section
variable {K : KP} {G G' : Hp}
theorem sqT_mono (g : Same G G') {a : Addr} {vs : List V} (h : SqT K G a vs) : SqT K G' a vs := by
  rcases h with (h | ⟨o, h⟩) | h
  · exact .inl (.inl (g _ _ h))
  · exact .inl (.inr ⟨o, g _ _ h⟩)
  · exact .inr h
theorem sqL_mono (g : Same G G') {a : Addr} {vs : List V} (h : SqL K G a vs) : SqL K G' a vs := by
  rcases h with (h | ⟨o, h⟩) | h
  · exact .inl (.inl (g _ _ h))
  · exact .inl (.inr ⟨o, g _ _ h⟩)
  · exact .inr h
theorem rd_mono (g : Same G G') {a : Addr} {u : HO} (h : Rd G a u) : Rd G' a u := by
  rcases h with h | ⟨o, h⟩
  · exact .inl (g _ _ h)
  · exact .inr ⟨o, g _ _ h⟩
mutual
theorem Rep.mono (g : Same G G') : ∀ (d : D) (v : V), Rep K G d v → Rep K G' d v
  | .non, _, h => h
  | .bl _, _, h => h
  | .int _, _, h => h
  | .str _, _, h => h
  | .tup ds, v, h => by
    rw [Rep] at h ⊢
    obtain ⟨a, vs, e, q, r⟩ := h
    exact ⟨a, vs, e, q.mono g, Reps.mono g ds vs r⟩
  | .tq ds, v, h => by
    rw [Rep] at h ⊢
    obtain ⟨a, vs, e, q, r⟩ := h
    exact ⟨a, vs, e, sqT_mono g q, Reps.mono g ds vs r⟩
  | .lst ds, v, h => by
    rw [Rep] at h ⊢
    obtain ⟨a, vs, e, q, r⟩ := h
    exact ⟨a, vs, e, g _ _ q, Reps.mono g ds vs r⟩
  | .ro ds, v, h => by
    rw [Rep] at h ⊢
    obtain ⟨a, vs, e, q, r⟩ := h
    exact ⟨a, vs, e, sqL_mono g q, Reps.mono g ds vs r⟩
  | .dct ks ds, v, h => by
    rw [Rep] at h ⊢
    obtain ⟨a, vs, e, q, l, r⟩ := h
    exact ⟨a, vs, e, rd_mono g q, l, Reps.mono g ds vs r⟩
  | .fn a vs cs, _, h => by
    rw [Rep] at h ⊢
    exact ⟨h.1, Reps.mono g cs vs h.2⟩
  | .st ks, v, h => by
    rw [Rep] at h ⊢
    obtain ⟨a, e, q, r⟩ := h
    exact ⟨a, e, g _ _ q, r⟩
theorem Reps.mono (g : Same G G') : ∀ (ds : List D) (vs : List V), Reps K G ds vs → Reps K G' ds vs
  | [], _, h => h
  | d :: ds, vs, h => by
    rw [Reps] at h ⊢
    obtain ⟨v, r, e, h1, h2⟩ := h
    exact ⟨v, r, e, Rep.mono g d v h1, Reps.mono g ds r h2⟩
end
theorem Reps.nil : Reps K G [] [] := by rw [Reps]
theorem Reps.cons {d : D} {ds : List D} {v : V} {vs : List V} (h : Rep K G d v) (t : Reps K G ds vs) : Reps K G (d :: ds) (v :: vs) := by
  rw [Reps]; exact ⟨v, vs, rfl, h, t⟩
theorem Reps.nil_inv {vs : List V} (h : Reps K G [] vs) : vs = [] := by rw [Reps] at h; exact h
theorem Reps.cons_inv {d : D} {ds : List D} {vs : List V} (h : Reps K G (d :: ds) vs) : ∃ v r, vs = v :: r ∧ Rep K G d v ∧ Reps K G ds r := by rw [Reps] at h; exact h
theorem Reps.length : ∀ {ds : List D} {vs : List V}, Reps K G ds vs → vs.length = ds.length
  | [], _, h => by rw [h.nil_inv]; rfl
  | d :: ds, _, h => by
    obtain ⟨v, r, rfl, _, t⟩ := h.cons_inv
    rw [List.length_cons, List.length_cons, t.length]
theorem Reps.get : ∀ {ds : List D} {vs : List V} {i : Nat} {d : D}, Reps K G ds vs → ds[i]? = some d → ∃ v, vs[i]? = some v ∧ Rep K G d v
  | [], _, _, _, _, e => by simp at e
  | d :: ds, _, 0, _, h, e => by
    obtain ⟨v, r, rfl, q, t⟩ := h.cons_inv
    simp at e; subst e
    exact ⟨v, rfl, q⟩
  | d :: ds, _, i + 1, _, h, e => by
    obtain ⟨v, r, rfl, q, t⟩ := h.cons_inv
    obtain ⟨u, h1, h2⟩ := t.get (i := i) (by simpa using e)
    exact ⟨u, by simpa using h1, h2⟩
theorem Reps.get' : ∀ {ds : List D} {vs : List V} {i : Nat} {v : V}, Reps K G ds vs → vs[i]? = some v → ∃ d, ds[i]? = some d ∧ Rep K G d v
  | [], _, _, _, h, e => by rw [h.nil_inv] at e; simp at e
  | d :: ds, _, 0, _, h, e => by
    obtain ⟨v, r, rfl, q, t⟩ := h.cons_inv
    simp at e; subst e
    exact ⟨d, rfl, q⟩
  | d :: ds, _, i + 1, _, h, e => by
    obtain ⟨v, r, rfl, q, t⟩ := h.cons_inv
    obtain ⟨u, h1, h2⟩ := t.get' (i := i) (by simpa using e)
    exact ⟨u, by simpa using h1, h2⟩
theorem Reps.app : ∀ {ds es : List D} {vs us : List V}, Reps K G ds vs → Reps K G es us → Reps K G (ds ++ es) (vs ++ us)
  | [], _, _, _, h, q => by rw [h.nil_inv]; exact q
  | d :: ds, _, _, _, h, q => by
    obtain ⟨v, r, rfl, q1, t⟩ := h.cons_inv
    exact .cons q1 (t.app q)
theorem Reps.take : ∀ {ds : List D} {vs : List V} (n : Nat), Reps K G ds vs → Reps K G (ds.take n) (vs.take n)
  | _, _, 0, _ => by rw [List.take_zero, List.take_zero]; exact .nil
  | [], _, n + 1, h => by rw [h.nil_inv]; exact .nil
  | d :: ds, _, n + 1, h => by
    obtain ⟨v, r, rfl, q, t⟩ := h.cons_inv
    exact .cons q (t.take n)
theorem Reps.drop : ∀ {ds : List D} {vs : List V} (n : Nat), Reps K G ds vs → Reps K G (ds.drop n) (vs.drop n)
  | _, _, 0, h => h
  | [], _, n + 1, h => by rw [h.nil_inv]; exact .nil
  | d :: ds, _, n + 1, h => by
    obtain ⟨v, r, rfl, q, t⟩ := h.cons_inv
    exact t.drop n
theorem Reps.set : ∀ {ds : List D} {vs : List V} {d : D} {v : V} (n : Nat), Reps K G ds vs → Rep K G d v → Reps K G (ds.set n d) (vs.set n v)
  | [], _, _, _, n, h, _ => by rw [h.nil_inv]; exact .nil
  | d :: ds, _, _, _, 0, h, q => by
    obtain ⟨v, r, rfl, q', t⟩ := h.cons_inv
    exact .cons q t
  | d :: ds, _, _, _, n + 1, h, q => by
    obtain ⟨v, r, rfl, q', t⟩ := h.cons_inv
    exact .cons q' (t.set n q)
theorem Reps.snoc {ds : List D} {vs : List V} {d : D} {v : V} (h : Reps K G ds vs) (q : Rep K G d v) : Reps K G (ds ++ [d]) (vs ++ [v]) := h.app (.cons q .nil)
theorem Reps.rev : ∀ {ds : List D} {vs : List V}, Reps K G ds vs → Reps K G ds.reverse vs.reverse
  | [], _, h => by rw [h.nil_inv]; exact .nil
  | d :: ds, _, h => by
    obtain ⟨v, r, rfl, q, t⟩ := h.cons_inv
    rw [List.reverse_cons, List.reverse_cons]
    exact t.rev.snoc q
theorem Rep.non_of : Rep K G .non .non := by rw [Rep]
theorem Rep.bl_of {b : Bool} : Rep K G (.bl b) (.bl b) := by rw [Rep]
theorem Rep.int_of {i : Int} : Rep K G (.int i) (.int i) := by rw [Rep]
theorem Rep.fn_of {a : Addr} {vs : List V} {cs : List D} (h : Reps K G cs vs) : Rep K G (.fn a vs cs) (.ref a) := by rw [Rep]; exact ⟨rfl, h⟩
theorem Rep.fn_inv {a : Addr} {vs : List V} {cs : List D} {v : V} (h : Rep K G (.fn a vs cs) v) : v = .ref a ∧ Reps K G cs vs := by rw [Rep] at h; exact h
theorem Rep.str_of {x : Str} : Rep K G (.str x) (.str x) := by rw [Rep]
theorem Rep.tup_of {ds : List D} {a : Addr} {vs : List V} (h : TpT K G a vs) (r : Reps K G ds vs) : Rep K G (.tup ds) (.ref a) := by rw [Rep]; exact ⟨a, vs, rfl, h, r⟩
theorem Rep.tq_of {ds : List D} {a : Addr} {vs : List V} (h : SqT K G a vs) (r : Reps K G ds vs) : Rep K G (.tq ds) (.ref a) := by rw [Rep]; exact ⟨a, vs, rfl, h, r⟩
theorem Rep.st_of {ks : List Str} {a : Addr} (h : G a = some (SetK K.P K.w a (memK ks) ks.length)) (n : ks.Nodup) : Rep K G (.st ks) (.ref a) := by rw [Rep]; exact ⟨a, rfl, h, n⟩
theorem Rep.st_inv {ks : List Str} {v : V} (h : Rep K G (.st ks) v) : ∃ a, v = .ref a ∧ G a = some (SetK K.P K.w a (memK ks) ks.length) ∧ ks.Nodup := by rw [Rep] at h; exact h
theorem Rep.tq_inv {ds : List D} {v : V} (h : Rep K G (.tq ds) v) : ∃ a vs, v = .ref a ∧ SqT K G a vs ∧ Reps K G ds vs := by rw [Rep] at h; exact h
theorem Rep.tup_pl {ds : List D} {v : V} (h : Rep K G (.tup ds) v) : ∃ a vs, v = .ref a ∧ TpT K G a vs ∧ Reps K G ds vs := by rw [Rep] at h; exact h
theorem Rep.lst_of {ds : List D} {a : Addr} {vs : List V} (h : G a = some (.lst vs)) (r : Reps K G ds vs) : Rep K G (.lst ds) (.ref a) := by rw [Rep]; exact ⟨a, vs, rfl, h, r⟩
theorem Rep.non_inv {v : V} (h : Rep K G .non v) : v = .non := by rw [Rep] at h; exact h
theorem Rep.bl_inv {b : Bool} {v : V} (h : Rep K G (.bl b) v) : v = .bl b := by rw [Rep] at h; exact h
theorem Rep.int_inv {i : Int} {v : V} (h : Rep K G (.int i) v) : v = .int i := by rw [Rep] at h; exact h
theorem Rep.str_inv {x : Str} {v : V} (h : Rep K G (.str x) v) : v = .str x := by rw [Rep] at h; exact h
theorem Rep.tup_inv {ds : List D} {v : V} (h : Rep K G (.tup ds) v) : ∃ a vs, v = .ref a ∧ SqT K G a vs ∧ Reps K G ds vs := by rw [Rep] at h; obtain ⟨a, vs, e, q, r⟩ := h; exact ⟨a, vs, e, q.sq, r⟩
theorem Rep.ro_of {ds : List D} {a : Addr} {vs : List V} (h : SqL K G a vs) (r : Reps K G ds vs) : Rep K G (.ro ds) (.ref a) := by rw [Rep]; exact ⟨a, vs, rfl, h, r⟩
theorem Rep.ro_inv {ds : List D} {v : V} (h : Rep K G (.ro ds) v) : ∃ a vs, v = .ref a ∧ SqL K G a vs ∧ Reps K G ds vs := by rw [Rep] at h; exact h
theorem Rep.dct_of {ks : List Str} {ds : List D} {a : Addr} {vs : List V} (h : Rd G a (.dK (dkv ks vs))) (l : ks.length = vs.length) (r : Reps K G ds vs) : Rep K G (.dct ks ds) (.ref a) := by rw [Rep]; exact ⟨a, vs, rfl, h, l, r⟩
theorem Rep.dct_inv {ks : List Str} {ds : List D} {v : V} (h : Rep K G (.dct ks ds) v) : ∃ a vs, v = .ref a ∧ Rd G a (.dK (dkv ks vs)) ∧ ks.length = vs.length ∧ Reps K G ds vs := by rw [Rep] at h; exact h
theorem Rep.lst_inv {ds : List D} {v : V} (h : Rep K G (.lst ds) v) : ∃ a vs, v = .ref a ∧ Rd G a (.lst vs) ∧ Reps K G ds vs := by rw [Rep] at h; obtain ⟨a, vs, e, q, r⟩ := h; exact ⟨a, vs, e, .inl q, r⟩
theorem Rep.lst_eq {ds : List D} {v : V} (h : Rep K G (.lst ds) v) : ∃ a vs, v = .ref a ∧ G a = some (.lst vs) ∧ Reps K G ds vs := by rw [Rep] at h; exact h
end

/-! ### slots: what a def's name holds -/
inductive S where
  /-- a value that stands still -/
  | d (d : D)
  /-- a list of one's own (pinned: a parameter that the caller lends) -/
  | own (pin : Bool) (ds : List D)
  /-- lent to a loop that walks it -/
  | lock
abbrev Ro := List (Option S)

/-- the tables of code that lambdas fill: known, and never frozen -/
structure Tb (Θ : List (Addr × Str)) (G H : Hp) : Prop where
  ok : ∀ e ∈ Θ, LamX.TabS H e.1 e.2
  out : ∀ e ∈ Θ, G e.1 = none
  cl : ∀ b ts, G b ≠ some (.tbl ts)
theorem Tb.upd {Θ : List (Addr × Str)} {G H : Hp} (t : Tb Θ G H) {p : Addr} {o : HO} (h1 : ∀ ts, H p ≠ some (.tbl ts)) (h2 : ∀ c q, H p ≠ some (LamX.CodeO c q)) : Tb Θ G (L2.upd H p o) := by
  refine ⟨fun e he => ?_, t.out, t.cl⟩
  obtain ⟨ps, a1, a2, a3⟩ := t.ok e he
  refine ⟨ps, by rw [upd_ne (fun z => by rw [z] at a1; exact h1 _ a1)]; exact a1, a2, fun pos cv hc => ?_⟩
  obtain ⟨c, e1, e2⟩ := a3 pos cv hc
  exact ⟨c, e1, by rw [upd_ne (fun z => by rw [z] at e2; exact h2 _ _ e2)]; exact e2⟩
theorem Tb.new {Θ : List (Addr × Str)} {G H : Hp} (t : Tb Θ G H) {p : Addr} {o : HO} (h : H p = none) : Tb Θ G (L2.upd H p o) :=
  t.upd (fun ts z => by rw [h] at z; cases z) (fun c q z => by rw [h] at z; cases z)
theorem Tb.lst {Θ : List (Addr × Str)} {G H : Hp} (t : Tb Θ G H) {p : Addr} {o : HO} {vs : List V} (h : H p = some (.lst vs)) : Tb Θ G (L2.upd H p o) :=
  t.upd (fun ts z => by rw [h] at z; cases z) (fun c q z => by rw [h] at z; unfold LamX.CodeO at z; cases z)
theorem Tb.frz {Θ : List (Addr × Str)} {G G' H : Hp} (t : Tb Θ G H) (le : Same G G') (h : ∀ b u, G' b = some u → G b = none → ∃ vs, u = .lst vs ∧ H b = some (.lst vs)) : Tb Θ G' H := by
  refine ⟨t.ok, fun e he => ?_, fun b ts z => ?_⟩
  · obtain ⟨ps, a1, _⟩ := t.ok e he
    cases z : G' e.1 with
    | none => rfl
    | some u =>
      obtain ⟨vs, _, hv⟩ := h _ _ z (t.out e he)
      rw [a1] at hv; cases hv
  · cases q : G b with
    | none =>
      obtain ⟨vs, e, _⟩ := h _ _ z q
      cases e
    | some w =>
      have := le _ _ q
      rw [z] at this
      cases this
      exact t.cl _ _ q
theorem Tb.same {Θ : List (Addr × Str)} {G H G' H' : Hp} (t : Tb Θ G H) (h : Same H H') (o : ∀ b u, H b = some u → G b = none → G' b = none) (c : (∀ b ts, G b ≠ some (.tbl ts)) → ∀ b ts, G' b ≠ some (.tbl ts)) : Tb Θ G' H' :=
  ⟨fun e he => (t.ok e he).ext h, fun e he => by
    obtain ⟨ps, a1, _⟩ := t.ok e he
    exact o _ _ a1 (t.out e he), c t.cl⟩
def tf : HO → Bool
  | .tbl _ => false
  | _ => true
/-- nothing there but, maybe, a table -/
def nw (H : Hp) (b : Addr) : Prop := ∀ u, H b = some u → tf u = false
theorem nw_none {H : Hp} {b : Addr} (h : H b = none) : nw H b := fun u e => by rw [h] at e; cases e
theorem same_nw {H H' : Hp} {b : Addr} (s : Same H H') (h : nw H' b) : nw H b := fun u e => h u (s _ _ e)
theorem nw_ne {H : Hp} {b p : Addr} {u : HO} (h : nw H p) (e : H b = some u) (t : tf u = true) : b ≠ p := fun z => by
  subst z; rw [h u e] at t; cases t
structure Rel (Θ : List (Addr × Str)) (K : KP) (G H : Hp) (r : Ro) (σ : St) : Prop where
  len : r.length = σ.length
  sub : Same G H
  get : ∀ (i : Nat) (d : D), r[i]? = some (some (.d d)) → ∃ v, σ[i]? = some (some v) ∧ Rep K G d v
  own : ∀ (i : Nat) (p : Bool) (ds : List D), r[i]? = some (some (.own p ds)) → ∃ a vs, σ[i]? = some (some (.ref a)) ∧ H a = some (.lst vs) ∧ G a = none ∧ Reps K G ds vs
  sep : ∀ (i j : Nat) (p : Bool) (ds : List D) (q : Bool) (es : List D) (a : Addr), r[i]? = some (some (.own p ds)) → r[j]? = some (some (.own q es)) → σ[i]? = some (some (.ref a)) → σ[j]? = some (some (.ref a)) → i = j
  tab : Tb Θ G H

def Owned (r : Ro) (σ : St) (b : Addr) : Prop := ∃ (i : Nat) (p : Bool) (ds : List D), r[i]? = some (some (.own p ds)) ∧ σ[i]? = some (some (.ref b))

structure Fr (G H : Hp) (r : Ro) (σ : St) (G' H' : Hp) (r' : Ro) (σ' : St) : Prop where
  le : Same G G'
  keep : ∀ (b : Addr) (u : HO), H b = some u → tf u = true → ¬ Owned r σ b → H' b = some u ∧ ¬ Owned r' σ' b ∧ (G b = none → G' b = none)
  pin : ∀ (i : Nat) (ds : List D), r[i]? = some (some (.own true ds)) → (∃ ds', r'[i]? = some (some (.own true ds'))) ∧ σ'[i]? = σ[i]?
  lck : ∀ (i : Nat), r[i]? = some (some .lock) → r'[i]? = some (some .lock) ∧ σ'[i]? = σ[i]?
  mono : ∀ (b : Addr), nw H' b → nw H b

theorem Fr.refl (G H : Hp) (r : Ro) (σ : St) : Fr G H r σ G H r σ :=
  ⟨Same.refl _, fun _ _ e _ n => ⟨e, n, fun z => z⟩, fun i ds e => ⟨⟨ds, e⟩, rfl⟩, fun i e => ⟨e, rfl⟩, fun _ h => h⟩
theorem Fr.trans {G H G1 H1 G2 H2 : Hp} {r r1 r2 : Ro} {σ σ1 σ2 : St} (a : Fr G H r σ G1 H1 r1 σ1) (b : Fr G1 H1 r1 σ1 G2 H2 r2 σ2) : Fr G H r σ G2 H2 r2 σ2 := by
  refine ⟨a.le.trans b.le, fun c u e t n => ?_, fun i ds e => ?_, fun i e => ?_, fun c h => a.mono c (b.mono c h)⟩
  · obtain ⟨h1, n1, g1⟩ := a.keep c u e t n
    obtain ⟨h2, n2, g2⟩ := b.keep c u h1 t n1
    exact ⟨h2, n2, fun z => g2 (g1 z)⟩
  · obtain ⟨⟨ds', e1⟩, s1⟩ := a.pin i ds e
    obtain ⟨e2, s2⟩ := b.pin i ds' e1
    exact ⟨e2, s2.trans s1⟩
  · obtain ⟨e1, s1⟩ := a.lck i e
    obtain ⟨e2, s2⟩ := b.lck i e1
    exact ⟨e2, s2.trans s1⟩

/-- something new and still -/
structure Ext (G H G' H' : Hp) : Prop where
  le : Same G G'
  same : Same H H'
  sub : Same G H → Same G' H'
  out : ∀ b u, H b = some u → G b = none → G' b = none
  cl : (∀ b ts, G b ≠ some (.tbl ts)) → ∀ b ts, G' b ≠ some (.tbl ts)
theorem Ext.refl (G H : Hp) : Ext G H G H := ⟨Same.refl _, Same.refl _, fun z => z, fun _ _ _ z => z, fun z => z⟩
theorem same_new {H : Hp} {p : Addr} (h : H p = none) (o : HO) : Same H (upd H p o) := fun b u q => by rw [upd_ne (ne_of_none q h)]; exact q
theorem free_of {G H : Hp} (s : Same G H) {p : Addr} (h : H p = none) : G p = none := by
  cases e : G p with
  | none => rfl
  | some u => rw [s _ _ e] at h; cases h
theorem Ext.new {G H : Hp} (s : Same G H) {p : Addr} (h : H p = none) (o : HO) (ho : tf o = true := by rfl) : Ext G H (upd G p o) (upd H p o) := by
  refine ⟨same_new (free_of s h) o, same_new h o, fun _ b u e => ?_, fun b u e z => ?_, fun c b ts z => ?_⟩
  · by_cases q : b = p
    · subst q; rw [upd_same] at e ⊢; exact e
    · rw [upd_ne q] at e ⊢; exact s _ _ e
  · rw [upd_ne (ne_of_none e h)]; exact z
  · by_cases q : b = p
    · subst q; rw [upd_same] at z; cases z; cases ho
    · rw [upd_ne q] at z; exact c b ts z
theorem Ext.trans {G H G1 H1 G2 H2 : Hp} (a : Ext G H G1 H1) (b : Ext G1 H1 G2 H2) : Ext G H G2 H2 :=
  ⟨a.le.trans b.le, a.same.trans b.same, fun z => b.sub (a.sub z), fun c u e z => b.out c u (a.same _ _ e) (a.out c u e z), fun z => b.cl (a.cl z)⟩
theorem Ext.fr {G H G' H' : Hp} (e : Ext G H G' H') (r : Ro) (σ : St) : Fr G H r σ G' H' r σ :=
  ⟨e.le, fun b u h _ n => ⟨e.same _ _ h, n, e.out b u h⟩, fun i ds z => ⟨⟨ds, z⟩, rfl⟩, fun i z => ⟨z, rfl⟩, fun b h => same_nw e.same h⟩
theorem Ext.rel {K : KP} {G H G' H' : Hp} (e : Ext G H G' H') {r : Ro} {σ : St} (R : Rel Θ K G H r σ) : Rel Θ K G' H' r σ := by
  refine ⟨R.len, e.sub R.sub, fun i d z => ?_, fun i p ds z => ?_, R.sep, R.tab.same e.same e.out e.cl⟩
  · obtain ⟨v, h1, h2⟩ := R.get i d z
    exact ⟨v, h1, h2.mono e.le⟩
  · obtain ⟨a, vs, h1, h2, h3, h4⟩ := R.own i p ds z
    exact ⟨a, vs, h1, e.same _ _ h2, e.out _ _ h2 h3, Reps.mono e.le _ _ h4⟩

/-! ### what code does, over slots -/
abbrev M (α : Type) := Ro → Option (α × Ro)
/-- one behind the other -/
def bd {α β : Type} (m : M α) (k : α → M β) : M β := fun r => match m r with
  | none => none
  | some (x, r1) => k x r1
def rt {α : Type} (x : α) : M α := fun r => some (x, r)
def of {α : Type} (o : Option α) : M α := fun r => match o with
  | none => none
  | some x => some (x, r)
theorem bd_some {α β : Type} {m : M α} {k : α → M β} {r : Ro} {y : β × Ro} (h : bd m k r = some y) : ∃ x r1, m r = some (x, r1) ∧ k x r1 = some y := by
  unfold bd at h
  cases e : m r with
  | none => rw [e] at h; cases h
  | some p =>
    obtain ⟨x, r1⟩ := p
    rw [e] at h
    exact ⟨x, r1, rfl, h⟩
theorem of_some {α : Type} {o : Option α} {r : Ro} {x : α} {r' : Ro} (h : of o r = some (x, r')) : o = some x ∧ r' = r := by
  unfold of at h
  cases o with
  | none => cases h
  | some y => cases h; exact ⟨rfl, rfl⟩
theorem rt_some {α : Type} {y : α} {r : Ro} {x : α} {r' : Ro} (h : rt y r = some (x, r')) : x = y ∧ r' = r := by
  unfold rt at h
  cases h
  exact ⟨rfl, rfl⟩

/-- o comes, and P holds behind it -/
def Cn (Θ : List (Addr × Str)) {α : Type} (K : KP) (G H : Hp) (r : Ro) (σ : St) (o : Option (α × Ro)) (P : α → Hp → Hp → Prop) : Prop :=
  ∃ d r', o = some (d, r') ∧ ∀ G' H', Rel Θ K G' H' r' σ → Fr G H r σ G' H' r' σ → P d G' H'
section
variable {K : KP} {G H : Hp} {r : Ro} {σ : St} {α β : Type}
theorem Cn.mono {o : Option (α × Ro)} {P P' : α → Hp → Hp → Prop} (c : Cn Θ K G H r σ o P) (h : ∀ d G' H', P d G' H' → P' d G' H') : Cn Θ K G H r σ o P' := by
  obtain ⟨d, r', e, k⟩ := c
  exact ⟨d, r', e, fun G' H' R F => h _ _ _ (k G' H' R F)⟩
theorem cn_bd {m : M α} {k : α → M β} {P : β → Hp → Hp → Prop} (c : Cn Θ K G H r σ (bd m k r) P) :
    Cn Θ K G H r σ (m r) fun x G1 H1 => ∃ r1, Rel Θ K G1 H1 r1 σ ∧ Same G G1 ∧ Cn Θ K G1 H1 r1 σ (k x r1) P := by
  obtain ⟨d, r', e, q⟩ := c
  obtain ⟨x, r1, e1, e2⟩ := bd_some e
  exact ⟨x, r1, e1, fun G1 H1 R1 F1 => ⟨r1, R1, F1.le, d, r', e2, fun G' H' R F => q G' H' R (F1.trans F)⟩⟩
theorem cn_of {o : Option α} {P : α → Hp → Hp → Prop} (R : Rel Θ K G H r σ) (c : Cn Θ K G H r σ (of o r) P) : ∃ z, o = some z ∧ ∀ G' H', Ext G H G' H' → P z G' H' := by
  obtain ⟨z, r', e, k⟩ := c
  obtain ⟨e1, rfl⟩ := of_some e
  exact ⟨z, e1, fun G' H' x => k G' H' (x.rel R) (x.fr _ _)⟩
theorem cn_rt {x : α} {P : α → Hp → Hp → Prop} (R : Rel Θ K G H r σ) (c : Cn Θ K G H r σ (rt x r) P) : ∀ G' H', Ext G H G' H' → P x G' H' := by
  obtain ⟨z, r', e, k⟩ := c
  obtain ⟨rfl, rfl⟩ := rt_some e
  exact fun G' H' x => k G' H' (x.rel R) (x.fr _ _)
end
def rdE (Θ : List (Addr × Str)) (K : KP) (m : M D) : TE := fun σ H Q => ∃ G r, Rel Θ K G H r σ ∧ Cn Θ K G H r σ (m r) fun d G' H' => ∀ v, Rep K G' d v → Q v H'
def rdT (Θ : List (Addr × Str)) (K : KP) (m : M Bool) : TT := fun σ H Q => ∃ G r, Rel Θ K G H r σ ∧ Cn Θ K G H r σ (m r) fun b _ H' => Q b H'
def rdA (Θ : List (Addr × Str)) (K : KP) (m : M (List D)) : TA := fun σ H Q => ∃ G r, Rel Θ K G H r σ ∧ Cn Θ K G H r σ (m r) fun ds G' H' => ∀ vs, Reps K G' ds vs → Q vs H'
inductive Fl where
  | nx | rt (d : D) | bk | ct
  /-- a new list, given out -/
  | rf (ds : List D)
def EndP (K : KP) (E : Ends) (f : Fl) (H0 G : Hp) (r : Ro) (σ : St) (H : Hp) : Prop := match f with
  | .nx => E.nx σ H
  | .rt d => ∀ v, Rep K G d v → E.rt v H
  | .bk => E.bk σ H
  | .ct => E.ct σ H
  | .rf ds => ∀ p vs, nw H0 p → H p = some (.lst vs) → G p = none → ¬ Owned r σ p → Reps K G ds vs → E.rt (.ref p) H
theorem EndP.shift {K : KP} {E : Ends} {f : Fl} {H0 H1 G H : Hp} {r : Ro} {σ : St} (h : ∀ b, nw H1 b → nw H0 b) (q : EndP K E f H0 G r σ H) : EndP K E f H1 G r σ H := by
  cases f with
  | rf ds => exact fun p vs h1 h2 h3 h4 h5 => q p vs (h p h1) h2 h3 h4 h5
  | _ => exact q
def CS (Θ : List (Addr × Str)) (K : KP) (G H : Hp) (r : Ro) (σ : St) (o : Option (Fl × Ro)) (E : Ends) : Prop :=
  ∃ f r', o = some (f, r') ∧ ∀ G' H' σ', Rel Θ K G' H' r' σ' → Fr G H r σ G' H' r' σ' → EndP K E f H G' r' σ' H'
def rdS (Θ : List (Addr × Str)) (K : KP) (m : M Fl) : TS := fun E σ H => ∃ G r, Rel Θ K G H r σ ∧ CS Θ K G H r σ (m r) E
theorem CS.shift {K : KP} {G H G1 H1 : Hp} {r r1 : Ro} {σ σ1 : St} {o : Option (Fl × Ro)} {E : Ends} (c : CS Θ K G H r σ o E) (F : Fr G H r σ G1 H1 r1 σ1) : CS Θ K G1 H1 r1 σ1 o E := by
  obtain ⟨f, r', e, k⟩ := c
  exact ⟨f, r', e, fun G' H' σ' R F2 => (k G' H' σ' R (F.trans F2)).shift F.mono⟩
theorem cs_bd {K : KP} {G H : Hp} {r : Ro} {σ : St} {α : Type} {m : M α} {k : α → M Fl} {E : Ends} (c : CS Θ K G H r σ (bd m k r) E) :
    Cn Θ K G H r σ (m r) fun x G1 H1 => ∃ r1, Rel Θ K G1 H1 r1 σ ∧ Same G G1 ∧ CS Θ K G1 H1 r1 σ (k x r1) E := by
  obtain ⟨d, r', e, q⟩ := c
  obtain ⟨x, r1, e1, e2⟩ := bd_some e
  exact ⟨x, r1, e1, fun G1 H1 R1 F1 => ⟨r1, R1, F1.le, d, r', e2, fun G' H' σ' R F => (q G' H' σ' R (F1.trans F)).shift F1.mono⟩⟩

abbrev SE (Θ : List (Addr × Str)) (X : Cx) (e : Expr) (m : M D) : Prop := PE X e (rdE Θ X.kp m)
abbrev STs (Θ : List (Addr × Str)) (X : Cx) (e : Expr) (m : M Bool) : Prop := PT X e (rdT Θ X.kp m)
abbrev SA (Θ : List (Addr × Str)) (X : Cx) (es : List Expr) (m : M (List D)) : Prop := PA X es (rdA Θ X.kp m)
abbrev SS (Θ : List (Addr × Str)) (X : Cx) (st : Stmt) (m : M Fl) : Prop := PS X st (rdS Θ X.kp m)
abbrev SB (Θ : List (Addr × Str)) (X : Cx) (st : List Stmt) (m : M Fl) : Prop := PSs X st (rdS Θ X.kp m)

section
variable {X : Cx} {e a b c : Expr} {es : List Expr}
theorem pe_imp {t t' : TE} (h : PE X e t) (i : ∀ σ H Q, t' σ H Q → t σ H Q) : PE X e t' := ⟨fun pins s σ H Q I q => h.run pins s σ H Q I (i _ _ _ q)⟩
theorem pt_imp {t t' : TT} (h : PT X e t) (i : ∀ σ H Q, t' σ H Q → t σ H Q) : PT X e t' := ⟨fun pins s σ H Q I q => h.run pins s σ H Q I (i _ _ _ q)⟩
theorem pa_imp {t t' : TA} (h : PA X es t) (i : ∀ σ H Q, t' σ H Q → t σ H Q) : PA X es t' := ⟨fun pos pins s σ H Q I q => h.run pos pins s σ H Q I (i _ _ _ q)⟩
theorem ps_imp {st : Stmt} {t t' : TS} (h : PS X st t) (i : ∀ σ H Q, t' Q σ H → t Q σ H) : PS X st t' := ⟨fun pins s σ H Q I q => h.run pins s σ H Q I (i _ _ _ q)⟩
theorem pss_imp {st : List Stmt} {t t' : TS} (h : PSs X st t) (i : ∀ σ H Q, t' Q σ H → t Q σ H) : PSs X st t' := ⟨fun pins s σ H Q I q => h.run pins s σ H Q I (i _ _ _ q)⟩

/-! ### constants, names -/
theorem se_const {d : D} {v : V} (h : PE X e (tC v)) (r : ∀ G, Rep X.kp G d v) : SE Θ X e (Pk.rt d) := pe_imp h fun σ H Q q => by
  obtain ⟨G, r0, R, c⟩ := q
  exact cn_rt R c G H (Ext.refl _ _) v (r G)
theorem se_int {i : Int} {j pos} : SE Θ X (.Constant (.int i) j pos) (Pk.rt (.int i)) := se_const pe_int fun _ => .int_of
theorem se_bl {i : Bool} {j pos} : SE Θ X (.Constant (.bool i) j pos) (Pk.rt (.bl i)) := se_const pe_bl fun _ => .bl_of
theorem se_non {j pos} : SE Θ X (.Constant .none j pos) (Pk.rt .non) := se_const pe_non fun _ => .non_of
theorem se_str {x j pos} : SE Θ X (.Constant (.str x) j pos) (Pk.rt (.str x)) := se_const pe_str fun _ => .str_of
/-- the value of a name -/
def ld (i : Nat) : M D := fun r => match r[i]? with
  | some (some (.d d)) => some (d, r)
  | _ => none
theorem ld_some {i : Nat} {r r' : Ro} {d : D} (h : ld i r = some (d, r')) : r[i]? = some (some (.d d)) ∧ r' = r := by
  unfold ld at h
  split at h
  · cases h; exact ⟨by assumption, rfl⟩
  · cases h
theorem se_ld {i : Nat} (h : PE X e (tVar i)) : SE Θ X e (ld i) := pe_imp h fun σ H Q q => by
  obtain ⟨G, r0, R, d', r', hm, k⟩ := q
  obtain ⟨hi, rfl⟩ := ld_some hm
  obtain ⟨v, h1, h2⟩ := R.get i _ hi
  exact ⟨v, h1, k G H R (Fr.refl _ _ _ _) v h2⟩
end
end Pk

/-! tuples of which the object is known: it has no dict of its own -/
namespace Pk
open PySem PySem.Spec PyProof.Rows L2
section
variable {X : Cx} {e a b c : Expr} {es : List Expr} {pos : Pos} {t : TA}
/-- a new plain tuple -/
def NwT (xs : List V) (H : Hp) (Q : VK) : Prop := ∀ p o, H p = none → PlO o → Q (.ref p) (upd H p (.frz o (.tup xs)))
theorem laidT {pins : List (Addr × Obj)} {σ : L2.St} {H : Hp} {s : Shared} {Q : VK} {xs : List V} {its : Array Value} {h' : Heap} {k n : Nat} (I : Inv X pins σ H s) (hk : ∀ b o, s.heap.get? b = some o → h'.get? b = some o) (hz : xs.length ≤ sizeLine) (r : Vals xs its.toList) (q : NwT xs H Q) :
    EP X pins σ Q (.ref h'.objs.size) { s with heap := h'.push { cls := .type "tuple", data := .seq its n }, toks := k } := by
  have I1 : Inv X pins σ H { s with heap := h', toks := k } := I.kept hk
  have g : (h'.push ({ cls := .type "tuple", data := .seq its n } : Obj)).get? h'.objs.size = some { cls := .type "tuple", data := .seq its n } := Heap.get?_push_size _ rfl
  exact ⟨.ref h'.objs.size, _, I1.laid (t' := k) (o := .frz { cls := .type "tuple", data := .seq its n } (.tup xs)) (fun b u e => Heap.get?_push_of_some _ e) (Nat.le_refl _) ⟨g, hz, its.toList, r, ⟨_, g, rfl, n, rfl⟩⟩, rfl, q _ _ (I1.hok.fresh (Nat.le_refl _)) ⟨rfl, rfl, _, _, rfl⟩⟩
def tTupX (t : TA) : TE := fun σ H Q => t σ H fun xs H1 => xs.length ≤ sizeLine ∧ NwT xs H1 Q
theorem pe_tupX {x1} (h : PA X es t) : PE X (.Tuple es x1 pos) (tTupX t) := by
  refine ⟨fun pins s σ H Q I hq => ?_⟩
  refine wpAny_Tuple_spliced (thn (h.run pos pins s σ H _ I hq) fun us s1 ⟨xs, H1, I1, r, z, q⟩ => ⟨by rw [← r.length]; exact z, ?_⟩)
  exact laidT (h' := s1.heap) (k := s1.toks) I1 (fun _ _ e => e) z (by simpa using r) q
def rSlX (K : KP) : V → Option Int → Option Int → Hp → VK → Prop := fun x lo hi H Q => ∃ a xs, x = .ref a ∧ SqT K H a xs ∧
  (HT.sIx xs.length 0 lo = 0 ∧ HT.sIx xs.length xs.length hi = xs.length → Q (.ref a) H) ∧ (¬ (HT.sIx xs.length 0 lo = 0 ∧ HT.sIx xs.length xs.length hi = xs.length) → NwT (cutV xs lo hi) H Q)
theorem sl_tupX : SlR X (rSlX X.kp) := by
  intro pins s σ H x v vl vu lo hi sl Q I rx hs pl pu h
  obtain ⟨a, xs, rfl, hx, q1, q2⟩ := h
  cases rx
  obtain ⟨its, r, ht, hz⟩ := I.tuple hx
  have hlen : its.toArray.size = xs.length := by rw [List.size_toArray]; exact r.length.symm
  refine ⟨"tuple", _, PyProof.Rows.slot_tuple_getitem.lookup, ht.typeIs, ?_⟩
  by_cases hw : HT.sIx xs.length 0 lo = 0 ∧ HT.sIx xs.length xs.length hi = xs.length
  · exact getItem_tuple_whole ht hs pl pu (by rw [hlen]; exact hw) ⟨.ref a, H, I, rfl, q1 hw⟩
  · refine HT.getItem_tuple_cut ht hs pl pu (by rw [hlen]; exact hw) ?_ (by rw [hlen]; exact hz)
    rw [hlen]
    refine laidT (h' := s.heap) (k := s.toks) I (fun _ _ e => e) (Nat.le_trans (cutV_length xs lo hi) hz) ?_ (q2 hw)
    unfold cutV
    simpa using (r.drop (HT.sIx xs.length 0 lo)).take (HT.sIx xs.length xs.length hi - HT.sIx xs.length 0 lo)
def rCatX (K : KP) : R2 := fun x y H Q => ∃ a b xs ys, x = .ref a ∧ y = .ref b ∧ SqT K H a xs ∧ SqT K H b ys ∧ xs.length + ys.length ≤ sizeLine ∧
  (xs = [] → Q (.ref b) H) ∧ (xs ≠ [] → ys = [] → Q (.ref a) H) ∧ (xs ≠ [] → ys ≠ [] → NwT (xs ++ ys) H Q)
theorem op_catX : OpR X (binaryOp .Add) (rCatX X.kp) := by
  intro pins s σ H x y v u Q I rx ry h
  obtain ⟨a, b, xs, ys, rfl, rfl, ha, hb, hz, q0, q1, q2⟩ := h
  cases rx
  cases ry
  obtain ⟨its, r1, p1, _⟩ := I.tuple ha
  obtain ⟨its2, r2, p2, _⟩ := I.tuple hb
  by_cases hx : xs = []
  · subst hx
    cases r1
    exact cat_tup0 p1 p2 ⟨.ref b, H, I, rfl, q0 rfl⟩
  · refine HT.cat_tup p1 p2 (fun z => hx (r1.nil_iff.mp z)) (fun z => ⟨.ref a, H, I, rfl, q1 hx (r2.nil_iff.mp z)⟩) (fun z => ?_) (by rw [← r1.length, ← r2.length]; exact hz)
    refine laidT (h' := s.heap) (k := s.toks) I (fun _ _ e => e) (by rw [List.length_append]; exact hz) ?_ (q2 hx fun w => z (r2.nil_iff.mpr w))
    simpa using r1.append r2
theorem call_tupleX : CallR X (.type "tuple") (fun xs H Q => ∃ p ys, xs = [.ref p] ∧ ((SqL X.kp H p ys ∧ NwT ys H Q) ∨ (SqT X.kp H p ys ∧ Q (.ref p) H))) := by
  intro pins s σ H xs us Q I r h
  obtain ⟨p, ys, rfl, h⟩ := h
  obtain ⟨u, rfl, rx⟩ := vals1 r
  cases rx
  rcases h with ⟨hq, q⟩ | ⟨hq, q⟩
  · obtain ⟨its, r', pl, hz⟩ := I.list hq
    have hlen := r'.length
    refine call_tuple_list pl.isList (fun h' kp => ?_) (by simp only [List.size_toArray] <;> omega)
    exact laidT (h' := h') (k := s.toks) I kp hz (by simpa using r') q
  · obtain ⟨its, r', pl, hz⟩ := I.tuple hq
    exact call_tuple_same pl ⟨.ref p, H, I, rfl, q⟩
end
end Pk

namespace Pk
open PySem PySem.Spec PyProof.Rows L2

/-! ### operators by values -/
/-- f does g on data -/
def OpG (X : Cx) (f : Value → Value → Sem Value) (g : D → D → Option D) : Prop :=
  ∃ r, OpR X f r ∧ ∀ x y z, g x y = some z → ∀ (G H : Hp) (vx vy : V) (Q : VK), Same G H → Rep X.kp G x vx → Rep X.kp G y vy →
    (∀ G' H' v, Ext G H G' H' → Rep X.kp G' z v → Q v H') → r vx vy H Q
theorem OpG.or {X : Cx} {f : Value → Value → Sem Value} {g g1 g2 : D → D → Option D} (a : OpG X f g1) (b : OpG X f g2) (h : ∀ x y z, g x y = some z → g1 x y = some z ∨ g2 x y = some z) : OpG X f g := by
  obtain ⟨r1, o1, i1⟩ := a
  obtain ⟨r2, o2, i2⟩ := b
  refine ⟨fun x y H Q => r1 x y H Q ∨ r2 x y H Q, fun pins s σ H x y v u Q I rx ry q => ?_, fun x y z e G H vx vy Q s rx ry k => ?_⟩
  · rcases q with q | q
    · exact o1 pins s σ H x y v u Q I rx ry q
    · exact o2 pins s σ H x y v u Q I rx ry q
  · rcases h x y z e with e | e
    · exact .inl (i1 x y z e G H vx vy Q s rx ry k)
    · exact .inr (i2 x y z e G H vx vy Q s rx ry k)

/-- a value that is flat: no heap -/
theorem fin_flat {X : Cx} {G H : Hp} {Q : VK} {z : D} {v : V} (k : ∀ G' H' v, Ext G H G' H' → Rep X.kp G' z v → Q v H') (r : Rep X.kp G z v) : Q v H := k G H v (Ext.refl _ _) r
theorem fin_tup {X : Cx} {G H : Hp} {Q : VK} {ds : List D} {vs : List V} (s : Same G H) (k : ∀ G' H' v, Ext G H G' H' → Rep X.kp G' (.tup ds) v → Q v H') (r : Reps X.kp G ds vs) :
    NwT vs H Q := fun p o hp po =>
  k (upd G p (.frz o (.tup vs))) _ _ (Ext.new s hp _) (.tup_of (.inl ⟨o, upd_same, po⟩) (Reps.mono (Ext.new s hp _).le _ _ r))
theorem fin_lst {X : Cx} {G H : Hp} {Q : VK} {ds : List D} {vs : List V} (s : Same G H) (k : ∀ G' H' v, Ext G H G' H' → Rep X.kp G' (.lst ds) v → Q v H') (r : Reps X.kp G ds vs) :
    ∀ p, H p = none → Q (.ref p) (upd H p (.lst vs)) := fun p hp =>
  k (upd G p (.lst vs)) _ _ (Ext.new s hp _) (.lst_of upd_same (Reps.mono (Ext.new s hp _).le _ _ r))

section
variable {X : Cx}
/-- ints to a flat value -/
def onI (C : Int → Int → Bool) (g : Int → Int → D) : D → D → Option D
  | .int i, .int j => if C i j then some (g i j) else none
  | _, _ => none
theorem opg_int {f : Value → Value → Sem Value} {C : Int → Int → Prop} {B : Int → Int → Bool} {g : Int → Int → V} {g' : Int → Int → D} (o : OpR X f (rI C g)) (hC : ∀ i j, B i j = true → C i j) (hg : ∀ i j G, Rep X.kp G (g' i j) (g i j)) : OpG X f (onI B g') := by
  refine ⟨_, o, fun x y z e G H vx vy Q s rx ry k => ?_⟩
  unfold onI at e
  split at e
  · rename_i i j
    split at e
    · rename_i hc
      cases e
      obtain rfl := rx.int_inv
      obtain rfl := ry.int_inv
      exact ⟨i, j, rfl, rfl, hC i j hc, fin_flat (z := g' i j) k (hg i j G)⟩
    · cases e
  · cases e
theorem opg_int0 {f : Value → Value → Sem Value} {g : Int → Int → V} {g' : Int → Int → D} (o : OpR X f (rI0 g)) (hg : ∀ i j G, Rep X.kp G (g' i j) (g i j)) : OpG X f (onI (fun _ _ => true) g') := by
  refine ⟨_, o, fun x y z e G H vx vy Q s rx ry k => ?_⟩
  unfold onI at e
  split at e
  · rename_i i j
    simp only [if_true] at e
    cases e
    obtain rfl := rx.int_inv
    obtain rfl := ry.int_inv
    exact ⟨i, j, rfl, rfl, fin_flat (z := g' i j) k (hg i j G)⟩
  · cases e
def catS : D → D → Option D
  | .str x, .str y => if x.length + y.length ≤ sizeLine then some (.str (x ++ y)) else none
  | _, _ => none
def catT : D → D → Option D
  | .tup x, .tup y => if x.length + y.length ≤ sizeLine then some (.tup (x ++ y)) else none
  | _, _ => none
def catL : D → D → Option D
  | .lst x, .lst y => if x.length + y.length ≤ sizeLine then some (.lst (x ++ y)) else none
  | _, _ => none
theorem opg_catS : OpG X (binaryOp .Add) catS := by
  refine ⟨_, op_add_str, fun x y z e G H vx vy Q s rx ry k => ?_⟩
  unfold catS at e
  split at e
  · rename_i i j
    split at e
    · rename_i hc
      cases e
      obtain rfl := rx.str_inv
      obtain rfl := ry.str_inv
      exact ⟨i, j, rfl, rfl, hc, fin_flat (z := .str (i ++ j)) k .str_of⟩
    · cases e
  · cases e
theorem opg_catT : OpG X (binaryOp .Add) catT := by
  refine ⟨_, op_catX, fun x y z e G H vx vy Q s rx ry k => ?_⟩
  unfold catT at e
  split at e
  · rename_i i j
    split at e
    · rename_i hc
      cases e
      obtain ⟨a, xs, rfl, h1, r1⟩ := rx.tup_pl
      obtain ⟨b, ys, rfl, h2, r2⟩ := ry.tup_pl
      refine ⟨a, b, xs, ys, rfl, rfl, sqT_mono s h1.sq, sqT_mono s h2.sq, by rw [r1.length, r2.length]; exact hc, fun z => ?_, fun _ z => ?_, fun _ _ => fin_tup s k (r1.app r2)⟩
      · have e : i = [] := List.eq_nil_of_length_eq_zero (by rw [← r1.length, z]; rfl)
        subst e
        exact k G H _ (Ext.refl _ _) (.tup_of h2 r2)
      · have e : j = [] := List.eq_nil_of_length_eq_zero (by rw [← r2.length, z]; rfl)
        subst e
        rw [List.append_nil] at k
        exact k G H _ (Ext.refl _ _) (.tup_of h1 r1)
    · cases e
  · cases e
def rCatL' : R2 := fun x y H Q => ∃ l b xs zs, x = .ref l ∧ y = .ref b ∧ Rd H l (.lst xs) ∧ Rd H b (.lst zs) ∧ xs.length + zs.length ≤ sizeLine ∧ ∀ p, H p = none → Q (.ref p) (upd H p (.lst (xs ++ zs)))
theorem op_catL' : OpR X (binaryOp .Add) rCatL' := by
  intro pins s σ H x y v u Q I rx ry h
  obtain ⟨l, b, xs, zs, rfl, rfl, hH, hB, hz, q⟩ := h
  cases rx
  cases ry
  obtain ⟨hl, its, n, r, e⟩ := hH.ok I.hok
  obtain ⟨hl2, its2, n2, r2, e2⟩ := hB.ok I.hok
  have l1 := r.length
  have l2 := r2.length
  refine PySem.P.add_list e e2 ?_ (by rw [List.size_toArray, List.size_toArray]; omega)
  have ea : its.toArray ++ its2.toArray = (its ++ its2).toArray := by simp
  rw [ea]
  exact ⟨.ref _, _, I.lnew (t' := s.toks) (r.append r2) (by rw [List.length_append]; omega), rfl, q _ I.fresh⟩
theorem opg_catL : OpG X (binaryOp .Add) catL := by
  refine ⟨_, op_catL', fun x y z e G H vx vy Q s rx ry k => ?_⟩
  unfold catL at e
  split at e
  · rename_i i j
    split at e
    · rename_i hc
      cases e
      obtain ⟨a, xs, rfl, h1, r1⟩ := rx.lst_inv
      obtain ⟨b, ys, rfl, h2, r2⟩ := ry.lst_inv
      exact ⟨a, b, xs, ys, rfl, rfl, rd_mono s h1, rd_mono s h2, by rw [r1.length, r2.length]; exact hc, fin_lst s k (r1.app r2)⟩
    · cases e
  · cases e
/-- + -/
def addD : D → D → Option D
  | .int i, .int j => some (.int (i + j))
  | .str x, .str y => if x.length + y.length ≤ sizeLine then some (.str (x ++ y)) else none
  | .tup x, .tup y => if x.length + y.length ≤ sizeLine then some (.tup (x ++ y)) else none
  | .lst x, .lst y => if x.length + y.length ≤ sizeLine then some (.lst (x ++ y)) else none
  | _, _ => none
theorem opg_add : OpG X (binaryOp .Add) addD := by
  refine OpG.or (opg_int0 (g' := fun i j => .int (i + j)) op_add fun _ _ _ => .int_of) (OpG.or opg_catS (OpG.or opg_catT opg_catL (g := fun x y => match catT x y with | some z => some z | none => catL x y) fun x y z h => ?_)
    (g := fun x y => match catS x y with | some z => some z | none => match catT x y with | some z => some z | none => catL x y) fun x y z h => ?_) fun x y z h => ?_
  · cases e : catT x y <;> simp only [e] at h <;> simp [h]
  · cases e : catS x y <;> simp only [e] at h
    · cases e2 : catT x y <;> simp only [e2] at h ⊢ <;> simp [h]
    · simp [h]
  · cases x <;> cases y <;> simp only [addD] at h <;> first | (cases h) | skip
    all_goals simp only [onI, catS, catT, catL] at *
    all_goals first | (left; simpa using h) | (right; split at h <;> simp_all)
def subD : D → D → Option D := onI (fun _ _ => true) fun i j => .int (i - j)
theorem opg_sub : OpG X (binaryOp .Sub) subD := opg_int0 op_sub fun _ _ _ => .int_of
/-- * of two ints of together less than 2^26 bits -/
def CMulY (i j : Int) : Prop := i.natAbs.log2 + j.natAbs.log2 < 67108864
theorem CMulY.ok {i j : Int} (h : CMulY i j) : IntMulOk i j := by
  have b : ∀ x : Int, Builtin.Int.intBits x ≤ x.natAbs.log2 + 1 := fun x => by
    unfold Builtin.Int.intBits
    split <;> omega
  have h1 := b i
  have h2 := b j
  have h3 : i.natAbs.log2 + j.natAbs.log2 < 67108864 := h
  have e : bitsLine = 134217728 := by decide
  unfold IntMulOk
  intro z
  rw [Bool.and_eq_true] at z
  have z2 := z.2
  unfold Builtin.Int.intTooBig at z2
  have z3 := of_decide_eq_true z2
  rw [e] at z3
  omega
theorem op_mulY : OpR X (binaryOp .Mult) (rI CMulY fun i j => .int (i * j)) := opI fun _ _ _ _ _ _ _ hc q => PyProof.Rows.mul_int q hc.ok
def mulI : D → D → Option D := onI (fun i j => decide (i.natAbs.log2 + j.natAbs.log2 < 67108864)) fun i j => .int (i * j)
theorem opg_mulI : OpG X (binaryOp .Mult) mulI := opg_int (C := CMulY) op_mulY (fun i j h => by unfold CMulY; exact of_decide_eq_true h) fun _ _ _ => .int_of
def mulS : D → D → Option D
  | .str x, .int n => if -(2 ^ 63) ≤ n ∧ n ≤ 1048576 ∧ x.length ≤ 16 then some (.str (Txt.mul x n)) else none
  | _, _ => none
theorem op_mulS : OpR X (binaryOp .Mult) (fun x y H Q => ∃ z n, x = .str z ∧ y = .int n ∧ (-(2 ^ 63) ≤ n ∧ n ≤ 1048576 ∧ z.length ≤ 16) ∧ Q (.str (Txt.mul z n)) H) := by
  intro pins s σ H x y v u Q I rx ry h
  obtain ⟨z, n, rfl, rfl, ⟨h1, h2, h3⟩, q⟩ := h
  obtain ⟨t, rfl⟩ := rx
  obtain ⟨t', rfl⟩ := ry
  exact PySem.W.KXi.mul rfl h3 h1 (by omega) fun t' k _ _ => ⟨.str _, H, I.tok _, ⟨_, rfl⟩, q⟩
theorem opg_mulS : OpG X (binaryOp .Mult) mulS := by
  refine ⟨_, op_mulS, fun x y z e G H vx vy Q s rx ry k => ?_⟩
  unfold mulS at e
  split at e
  · rename_i i j
    split at e
    · rename_i hc
      cases e
      obtain rfl := rx.str_inv
      obtain rfl := ry.int_inv
      exact ⟨i, j, rfl, rfl, hc, fin_flat (z := .str (Txt.mul i j)) k .str_of⟩
    · cases e
  · cases e
/-- * -/
def mulD : D → D → Option D
  | .int i, .int j => if i.natAbs.log2 + j.natAbs.log2 < 67108864 then some (.int (i * j)) else none
  | .str x, .int n => if -(2 ^ 63) ≤ n ∧ n ≤ 1048576 ∧ x.length ≤ 16 then some (.str (Txt.mul x n)) else none
  | _, _ => none
theorem opg_mul : OpG X (binaryOp .Mult) mulD := OpG.or opg_mulI opg_mulS fun x y z h => by
  cases x <;> cases y <;> simp only [mulD, mulI, mulS, onI, decide_eq_true_eq] at h ⊢ <;> simp_all
def modD : D → D → Option D := onI (fun _ j => decide (j ≠ 0)) fun i j => .int (i.fmod j)
theorem opg_mod : OpG X (binaryOp .Mod) modD := opg_int op_modN (fun _ _ h => of_decide_eq_true h) fun _ _ _ => .int_of
/-- // by a divisor below 2^9000 -/
def CDivY (_ j : Int) : Prop := j ≠ 0 ∧ j.natAbs.log2 < 9000
theorem op_fdivY : OpR X (binaryOp .FloorDiv) (rI CDivY fun i j => .int (i.fdiv j)) := opI fun _ _ _ _ _ _ _ hc q => PyProof.Rows.floordiv_int hc.1 q (.inl (PyProof.noPylong_of_log2 hc.2))
def fdivD : D → D → Option D := onI (fun _ j => decide (j ≠ 0 ∧ j.natAbs.log2 < 9000)) fun i j => .int (i.fdiv j)
theorem opg_fdiv : OpG X (binaryOp .FloorDiv) fdivD := opg_int op_fdivY (fun _ _ h => by unfold CDivY; exact of_decide_eq_true h) fun _ _ _ => .int_of
def powD : D → D → Option D := onI (fun i j => decide (0 ≤ j ∧ j ≤ 1000000 ∧ i.natAbs < 2 ^ 64)) fun i j => .int (i ^ j.toNat)
theorem opg_pow : OpG X (binaryOp .Pow) powD := opg_int op_pow (fun _ _ h => by unfold CPow; exact of_decide_eq_true h) fun _ _ _ => .int_of
end
end Pk

namespace Pk
open PySem PySem.Spec PyProof.Rows L2

mutual
def D.py : D → PyData
  | .non => .none
  | .bl b => .bool b
  | .int i => .int i
  | .str x => .str x
  | .tup ds => .tuple (pys ds)
  | .tq ds => .tuple (pys ds)
  | .lst ds => .list (pys ds)
  | .ro ds => .list (pys ds)
  | .dct _ _ => .dict []
  | .fn _ _ _ => .dict []
  | .st _ => .dict []
def pys : List D → List PyData
  | [] => []
  | d :: ds => D.py d :: pys ds
end
theorem pys_map : ∀ ds : List D, pys ds = ds.map D.py
  | [] => by rw [pys]; rfl
  | d :: ds => by rw [pys, pys_map ds]; rfl
section
variable {K : KP} {G H : Hp}
mutual
theorem Rep.dp (s : Same G H) : ∀ (d : D) (v : V), Rep K G d v → d.py.canLay0 = true → Dp K H v d.py
  | .non, v, h, _ => by rw [h.non_inv, D.py]; exact .non
  | .bl b, v, h, _ => by rw [h.bl_inv, D.py]; exact .bl b
  | .int i, v, h, _ => by rw [h.int_inv, D.py]; exact .int i
  | .str x, v, h, _ => by rw [h.str_inv, D.py]; exact .str x
  | .tup ds, v, h, c => by
    obtain ⟨a, vs, rfl, q, r⟩ := h.tup_inv
    rw [D.py] at c ⊢; exact .tup (sqT_mono s q) (Reps.dp s ds vs r (by simpa only [PyData.canLay0] using c))
  | .tq ds, v, h, c => by
    obtain ⟨a, vs, rfl, q, r⟩ := h.tq_inv
    rw [D.py] at c ⊢; exact .tup (sqT_mono s q) (Reps.dp s ds vs r (by simpa only [PyData.canLay0] using c))
  | .lst ds, v, h, c => by
    obtain ⟨a, vs, rfl, q, r⟩ := h.lst_inv
    rw [D.py] at c ⊢; exact .lst (.inl (rd_mono s q)) (Reps.dp s ds vs r (by simpa only [PyData.canLay0] using c))
  | .ro ds, v, h, c => by
    obtain ⟨a, vs, rfl, q, r⟩ := h.ro_inv
    rw [D.py] at c ⊢; exact .lst (sqL_mono s q) (Reps.dp s ds vs r (by simpa only [PyData.canLay0] using c))
  | .dct ks ds, v, h, c => by
    rw [D.py] at c; simp only [PyData.canLay0] at c; cases c
  | .fn a vs cs, v, h, c => by
    rw [D.py] at c; simp only [PyData.canLay0] at c; cases c
  | .st ks, v, h, c => by
    rw [D.py] at c; simp only [PyData.canLay0] at c; cases c
theorem Reps.dp (s : Same G H) : ∀ (ds : List D) (vs : List V), Reps K G ds vs → PyData.canLayAll0 (pys ds) = true → DpAll K H vs (pys ds)
  | [], vs, h, _ => by rw [h.nil_inv, pys]; exact .nil
  | d :: ds, vs, h, c => by
    obtain ⟨v, r, rfl, q, t⟩ := h.cons_inv
    rw [pys] at c ⊢
    simp only [PyData.canLayAll0, Bool.and_eq_true] at c
    exact .cons (Rep.dp s d v q c.1) (Reps.dp s ds r t c.2)
end
end
/-- Python's == on data -/
def eqv (x y : D) : Bool := PyData.eqv x.py y.py
def okEq (x y : D) : Bool := x.py.canLay0 && y.py.canLay0 && decide (min x.py.depth y.py.depth ≤ 200)
def eqD (x y : D) : Option D := if okEq x y then some (.bl (eqv x y)) else none
def neD (x y : D) : Option D := if okEq x y then some (.bl (!eqv x y)) else none
section
variable {X : Cx}
theorem okEq_out {x y : D} (h : okEq x y = true) (hu : X.A.units + 200 < cLine) : x.py.canLay0 = true ∧ y.py.canLay0 = true ∧ X.A.units + min x.py.depth y.py.depth < cLine := by
  unfold okEq at h
  simp only [Bool.and_eq_true, decide_eq_true_eq] at h
  exact ⟨h.1.1, h.1.2, by omega⟩
def rEqY (K : KP) (A : Around) (neg : Bool) : R2 := fun x y H Q => ∃ d e, Dp K H x d ∧ Dp K H y e ∧ d.canLay0 = true ∧ e.canLay0 = true ∧ A.units + min d.depth e.depth < cLine ∧ Q (.bl (if neg then !PyData.eqv d e else PyData.eqv d e)) H
theorem op_eqY : OpR X (compareOp .Eq) (rEqY X.kp X.A false) := by
  intro pins s σ H x y v u Q I rx ry h
  obtain ⟨d, e, hd, he, sd, se, hm, q⟩ := h
  obtain ⟨as, r1⟩ := Dp.reads I d x v hd rx
  obtain ⟨bs, r2⟩ := Dp.reads I e y u he ry
  exact SeqAt.compareEq_reads r1 r2 sd se hm ⟨.bl _, H, I, rfl, q⟩
theorem op_neY : OpR X (compareOp .NotEq) (rEqY X.kp X.A true) := by
  intro pins s σ H x y v u Q I rx ry h
  obtain ⟨d, e, hd, he, sd, se, hm, q⟩ := h
  obtain ⟨as, r1⟩ := Dp.reads I d x v hd rx
  obtain ⟨bs, r2⟩ := Dp.reads I e y u he ry
  exact SeqAt.compareNe_reads r1 r2 sd se hm ⟨.bl _, H, I, rfl, q⟩
theorem opg_eq (hu : X.A.units + 200 < cLine) : OpG X (compareOp .Eq) eqD := by
  refine ⟨_, op_eqY, fun x y z e G H vx vy Q s rx ry k => ?_⟩
  unfold eqD at e
  split at e
  · rename_i hc
    cases e
    obtain ⟨h1, h2, h3⟩ := okEq_out hc hu
    exact ⟨_, _, Rep.dp s x vx rx h1, Rep.dp s y vy ry h2, h1, h2, h3, fin_flat (z := .bl (eqv x y)) k .bl_of⟩
  · cases e
theorem opg_ne (hu : X.A.units + 200 < cLine) : OpG X (compareOp .NotEq) neD := by
  refine ⟨_, op_neY, fun x y z e G H vx vy Q s rx ry k => ?_⟩
  unfold neD at e
  split at e
  · rename_i hc
    cases e
    obtain ⟨h1, h2, h3⟩ := okEq_out hc hu
    exact ⟨_, _, Rep.dp s x vx rx h1, Rep.dp s y vy ry h2, h1, h2, h3, fin_flat (z := .bl (!eqv x y)) k .bl_of⟩
  · cases e
/-- an order of ints and texts -/
def ordD (f : Int → Int → Bool) (g : List Nat → List Nat → Bool) : D → D → Option D
  | .int i, .int j => some (.bl (f i j))
  | .str x, .str y => some (.bl (g x.cps.toList y.cps.toList))
  | _, _ => none
theorem opg_ord {op : CmpOp} {f : Int → Int → Bool} {g : List Nat → List Nat → Bool} (oi : OpR X (compareOp op) (rI0 fun i j => .bl (f i j)))
    (os : OpR X (compareOp op) (fun x y H Q => ∃ i j : Str, x = .str i ∧ y = .str j ∧ Q (.bl (g i.cps.toList j.cps.toList)) H)) : OpG X (compareOp op) (ordD f g) := by
  refine OpG.or (opg_int0 (g' := fun i j => .bl (f i j)) oi fun _ _ _ => .bl_of) (g2 := fun x y => match x, y with | .str x, .str y => some (.bl (g x.cps.toList y.cps.toList)) | _, _ => none) ⟨_, os, fun x y z e G H vx vy Q s rx ry k => ?_⟩ fun x y z h => ?_
  · dsimp only at e
    split at e
    · rename_i i j
      cases e
      obtain rfl := rx.str_inv
      obtain rfl := ry.str_inv
      exact ⟨i, j, rfl, rfl, fin_flat (z := .bl (g i.cps.toList j.cps.toList)) k .bl_of⟩
    · cases e
  · cases x <;> cases y <;> simp_all [ordD, onI]
def ltD := ordD (fun i j => decide (i < j)) fun x y => decide (x < y)
def gtD := ordD (fun i j => decide (j < i)) fun x y => decide (y < x)
def leD := ordD (fun i j => decide (i ≤ j)) fun x y => !decide (y < x)
def geD := ordD (fun i j => decide (j ≤ i)) fun x y => !decide (x < y)
theorem opg_lt : OpG X (compareOp .Lt) ltD := opg_ord op_lt op_lt_str
theorem opg_gt : OpG X (compareOp .Gt) gtD := opg_ord op_gt op_gt_str
theorem opg_le : OpG X (compareOp .LtE) leD := opg_ord op_le op_le_str
theorem opg_ge : OpG X (compareOp .GtE) geD := opg_ord op_ge op_ge_str
def D.isNon : D → Bool
  | .non => true
  | _ => false
theorem Rep.isNon {K : KP} {G : Hp} {d : D} {v : V} (h : Rep K G d v) : decide (v = .non) = d.isNon := by
  cases d with
  | non => rw [h.non_inv]; rfl
  | bl b => rw [h.bl_inv]; rfl
  | int i => rw [h.int_inv]; rfl
  | str x => rw [h.str_inv]; rfl
  | tup ds => obtain ⟨a, vs, rfl, _⟩ := h.tup_inv; rfl
  | tq ds => obtain ⟨a, vs, rfl, _⟩ := h.tq_inv; rfl
  | lst ds => obtain ⟨a, vs, rfl, _⟩ := h.lst_inv; rfl
  | ro ds => obtain ⟨a, vs, rfl, _⟩ := h.ro_inv; rfl
  | dct ks ds => obtain ⟨a, vs, rfl, _⟩ := h.dct_inv; rfl
  | fn a vs cs => rw [h.fn_inv.1]; rfl
  | st ks => obtain ⟨a, rfl, _⟩ := h.st_inv; rfl
def isD : D → D → Option D
  | x, .non => some (.bl x.isNon)
  | _, _ => none
def isNotD : D → D → Option D
  | x, .non => some (.bl (!x.isNon))
  | _, _ => none
theorem opg_is : OpG X (compareOp .Is) isD := by
  refine ⟨_, op_isN, fun x y z e G H vx vy Q s rx ry k => ?_⟩
  unfold isD at e
  split at e
  · cases e
    refine ⟨ry.non_inv, ?_⟩
    rw [rx.isNon]
    exact fin_flat (z := .bl x.isNon) k .bl_of
  · cases e
theorem opg_isNot : OpG X (compareOp .IsNot) isNotD := by
  refine ⟨_, op_notN, fun x y z e G H vx vy Q s rx ry k => ?_⟩
  unfold isNotD at e
  split at e
  · cases e
    refine ⟨ry.non_inv, ?_⟩
    rw [rx.isNon]
    exact fin_flat (z := .bl (!x.isNon)) k .bl_of
  · cases e
/-- x in a list of data -/
def inD : D → D → Option D
  | x, .lst ds => if SeqAt.shaped x.py && SeqAt.shaped (D.lst ds).py then some (.bl (ds.any fun z => eqv z x)) else none
  | _, _ => none
def notInD : D → D → Option D
  | x, .lst ds => if SeqAt.shaped x.py && SeqAt.shaped (D.lst ds).py then some (.bl (!ds.any fun z => eqv z x)) else none
  | _, _ => none
theorem any_pys (ds : List D) (x : D) : ((pys ds).any fun z => PyData.eqv z x.py) = ds.any fun z => eqv z x := by
  rw [pys_map, List.any_map]; rfl
theorem opg_in (hu : X.A.units + 200 < cLine) : OpG X (compareOp .In) inD := by
  refine ⟨_, op_inD (by omega), fun x y z e G H vx vy Q s rx ry k => ?_⟩
  unfold inD at e
  split at e
  · rename_i ds
    split at e
    · rename_i hc
      cases e
      rw [Bool.and_eq_true] at hc
      have hy := Rep.dp s _ vy ry (SeqAt.canLay_of_shaped hc.2)
      rw [D.py] at hy hc
      refine ⟨_, _, Rep.dp s x vx rx (SeqAt.canLay_of_shaped hc.1), hy, hc.1, hc.2, ?_⟩
      rw [any_pys]
      exact fin_flat (z := .bl (ds.any fun z => eqv z x)) k .bl_of
    · cases e
  · cases e
theorem opg_notIn (hu : X.A.units + 200 < cLine) : OpG X (compareOp .NotIn) notInD := by
  refine ⟨_, op_notInD (by omega), fun x y z e G H vx vy Q s rx ry k => ?_⟩
  unfold notInD at e
  split at e
  · rename_i ds
    split at e
    · rename_i hc
      cases e
      rw [Bool.and_eq_true] at hc
      have hy := Rep.dp s _ vy ry (SeqAt.canLay_of_shaped hc.2)
      rw [D.py] at hy hc
      refine ⟨_, _, Rep.dp s x vx rx (SeqAt.canLay_of_shaped hc.1), hy, hc.1, hc.2, ?_⟩
      rw [any_pys]
      exact fin_flat (z := .bl (!ds.any fun z => eqv z x)) k .bl_of
    · cases e
  · cases e

/-! ### unary -/
def UnG (X : Cx) (f : Value → Sem Value) (g : D → Option D) : Prop :=
  ∃ r, UnR X f r ∧ ∀ x z, g x = some z → ∀ (G H : Hp) (vx : V) (Q : VK), Same G H → Rep X.kp G x vx → (∀ G' H' v, Ext G H G' H' → Rep X.kp G' z v → Q v H') → r vx H Q
def negD : D → Option D
  | .int i => some (.int (-i))
  | _ => none
theorem ung_neg : UnG X (unaryOp .USub) negD := by
  refine ⟨_, un_neg, fun x z e G H vx Q s rx k => ?_⟩
  cases x <;> simp only [negD] at e <;> first | (cases e) | skip
  rename_i i
  obtain rfl := rx.int_inv
  exact ⟨i, rfl, fin_flat (z := .int (-i)) k .int_of⟩

/-! ### subscripts -/
theorem Reps.atI {K : KP} {G : Hp} {ds : List D} {vs : List V} {i : Int} {d : D} (r : Reps K G ds vs) (h : L2.atI ds i = some d) : ∃ v, L2.atI vs i = some v ∧ Rep K G d v := by
  unfold L2.atI at h ⊢
  rw [r.length]
  cases e : ixN ds.length i with
  | none => rw [e] at h; cases h
  | some j =>
    rw [e] at h
    exact r.get h
def IxG (X : Cx) (g : D → D → Option D) : Prop :=
  ∃ r, IxR X r ∧ ∀ x y z, g x y = some z → ∀ (G H : Hp) (vx vy : V) (Q : VK), Same G H → Rep X.kp G x vx → Rep X.kp G y vy →
    (∀ G' H' v, Ext G H G' H' → Rep X.kp G' z v → Q v H') → r vx vy H Q
/-- x[i] -/
def ixD : D → D → Option D
  | .tup ds, .int i => L2.atI ds i
  | .lst ds, .int i => L2.atI ds i
  | .ro ds, .int i => L2.atI ds i
  | .str z, .int i => if z.length ≤ sizeLine then (L2.atI z.cps.toList i).map fun c => .str ⟨#[c]⟩ else none
  | _, _ => none
theorem ixg : IxG X ixD := by
  refine ⟨_, ix_seq, fun x y z e G H vx vy Q s rx ry k => ?_⟩
  unfold ixD at e
  split at e
  · rename_i ds i
    obtain rfl := ry.int_inv
    obtain ⟨a, xs, rfl, h1, r1⟩ := rx.tup_inv
    obtain ⟨v, hv, rv⟩ := r1.atI e
    exact .inr (.inl ⟨a, xs, i, v, rfl, rfl, sqT_mono s h1, hv, k G H v (Ext.refl _ _) rv⟩)
  · rename_i ds i
    obtain rfl := ry.int_inv
    obtain ⟨a, xs, rfl, h1, r1⟩ := rx.lst_inv
    obtain ⟨v, hv, rv⟩ := r1.atI e
    exact .inl ⟨a, xs, i, v, rfl, rfl, .inl (rd_mono s h1), hv, k G H v (Ext.refl _ _) rv⟩
  · rename_i ds i
    obtain rfl := ry.int_inv
    obtain ⟨a, xs, rfl, h1, r1⟩ := rx.ro_inv
    obtain ⟨v, hv, rv⟩ := r1.atI e
    exact .inl ⟨a, xs, i, v, rfl, rfl, sqL_mono s h1, hv, k G H v (Ext.refl _ _) rv⟩
  · rename_i w i
    split at e
    · rename_i hc
      obtain rfl := ry.int_inv
      obtain rfl := rx.str_inv
      cases e2 : L2.atI w.cps.toList i with
      | none => rw [e2] at e; cases e
      | some c =>
        rw [e2] at e
        cases e
        exact .inr (.inr ⟨w, i, c, rfl, rfl, hc, e2, k G H _ (Ext.refl _ _) .str_of⟩)
    · cases e
  · cases e

/-! ### slices -/
def cutD (ds : List D) (lo hi : Option Int) : List D := (ds.drop (HT.sIx ds.length 0 lo)).take (HT.sIx ds.length ds.length hi - HT.sIx ds.length 0 lo)
theorem Reps.cut {K : KP} {G : Hp} {ds : List D} {vs : List V} (r : Reps K G ds vs) (lo hi : Option Int) : Reps K G (cutD ds lo hi) (cutV vs lo hi) := by
  unfold cutD cutV
  rw [r.length]
  exact (r.drop _).take _
theorem cut_whole {ds : List D} {lo hi : Option Int} (h : HT.sIx ds.length 0 lo = 0 ∧ HT.sIx ds.length ds.length hi = ds.length) : cutD ds lo hi = ds := by
  unfold cutD
  rw [h.1, h.2, List.drop_zero, Nat.sub_zero, List.take_length]
def slD : D → Option Int → Option Int → Option D
  | .tup ds, lo, hi => some (.tup (cutD ds lo hi))
  | .lst ds, lo, hi => some (.lst (cutD ds lo hi))
  | .ro ds, lo, hi => some (.lst (cutD ds lo hi))
  | .str z, lo, hi => if z.length ≤ sizeLine then some (.str (cutS z lo hi)) else none
  | _, _, _ => none
theorem slg : ∃ r, SlR X r ∧ ∀ x lo hi z, slD x lo hi = some z → ∀ (G H : Hp) (vx : V) (Q : VK), Same G H → Rep X.kp G x vx → (∀ G' H' v, Ext G H G' H' → Rep X.kp G' z v → Q v H') → r vx lo hi H Q := by
  refine ⟨_, SlR.or sl_tupX (SlR.or sl_list sl_str), fun x lo hi z e G H vx Q s rx k => ?_⟩
  cases x with
  | tup ds =>
    simp only [slD] at e
    cases e
    obtain ⟨a, xs, rfl, h1, r1⟩ := rx.tup_inv
    refine .inl ⟨a, xs, rfl, sqT_mono s h1, fun w => ?_, fun w => fin_tup s k (r1.cut lo hi)⟩
    rw [r1.length] at w
    rw [cut_whole w] at k
    exact k G H _ (Ext.refl _ _) rx
  | lst ds =>
    simp only [slD] at e
    cases e
    obtain ⟨a, xs, rfl, h1, r1⟩ := rx.lst_inv
    exact .inr (.inl ⟨a, xs, rfl, .inl (rd_mono s h1), fin_lst s k (r1.cut lo hi)⟩)
  | ro ds =>
    simp only [slD] at e
    cases e
    obtain ⟨a, xs, rfl, h1, r1⟩ := rx.ro_inv
    exact .inr (.inl ⟨a, xs, rfl, sqL_mono s h1, fin_lst s k (r1.cut lo hi)⟩)
  | str w =>
    simp only [slD] at e
    split at e
    · rename_i hc
      cases e
      obtain rfl := rx.str_inv
      exact .inr (.inr ⟨w, rfl, hc, k G H _ (Ext.refl _ _) .str_of⟩)
    · cases e
  | _ => simp only [slD] at e; cases e
end
end Pk

namespace Pk
open PySem PySem.Spec PyProof.Rows L2
section
variable {X : Cx} {e a b c : Expr} {es : List Expr} {pos : Pos} {ma mb mc m : M D}
theorem op_read {r : R2} {g : D → D → Option D} (hg : ∀ x y z, g x y = some z → ∀ (G H : Hp) (vx vy : V) (Q : VK), Same G H → Rep X.kp G x vx → Rep X.kp G y vy →
    (∀ G' H' v, Ext G H G' H' → Rep X.kp G' z v → Q v H') → r vx vy H Q) {σ : L2.St} {H : Hp} {Q : VK} (q : rdE Θ X.kp (bd ma fun x => bd mb fun y => of (g x y)) σ H Q) : tOp r (rdE Θ X.kp ma) (rdE Θ X.kp mb) σ H Q := by
  obtain ⟨G, r0, R, c⟩ := q
  refine ⟨G, r0, R, (cn_bd c).mono fun x G1 H1 ⟨r1, R1, s1, c1⟩ vx rx => ⟨G1, r1, R1, (cn_bd c1).mono fun y G2 H2 ⟨r2, R2, s2, c2⟩ vy ry => ?_⟩⟩
  obtain ⟨z, hz, k⟩ := cn_of R2 c2
  exact hg x y z hz G2 H2 vx vy Q R2.sub (Rep.mono s2 _ _ rx) ry fun G' H' v ex rz => k G' H' ex v rz
theorem se_bin {op : Operator} {g : D → D → Option D} (ho : OpG X (binaryOp op) g) (ha : SE Θ X a ma) (hb : SE Θ X b mb) : SE Θ X (.BinOp a op b pos) (bd ma fun x => bd mb fun y => of (g x y)) := by
  obtain ⟨r, o, hg⟩ := ho
  exact pe_imp (pe_op o ha hb) fun σ H Q q => op_read hg q
theorem se_cmp {op : CmpOp} {g : D → D → Option D} (ho : OpG X (compareOp op) g) (ha : SE Θ X a ma) (hb : SE Θ X b mb) (hm : behindInMarks op b = false) : SE Θ X (.Compare a [op] [b] pos) (bd ma fun x => bd mb fun y => of (g x y)) := by
  obtain ⟨r, o, hg⟩ := ho
  exact pe_imp (pe_cmpR o ha hb hm) fun σ H Q q => op_read hg q
theorem se_un {op : UnaryOp} {g : D → Option D} (ho : UnG X (unaryOp op) g) (ha : SE Θ X a ma) : SE Θ X (.UnaryOp op a pos) (bd ma fun x => of (g x)) := by
  obtain ⟨r, o, hg⟩ := ho
  refine pe_imp (pe_un o ha) fun σ H Q q => ?_
  obtain ⟨G, r0, R, c⟩ := q
  refine ⟨G, r0, R, (cn_bd c).mono fun x G1 H1 ⟨r1, R1, s1, c1⟩ vx rx => ?_⟩
  obtain ⟨z, hz, k⟩ := cn_of R1 c1
  exact hg x z hz G1 H1 vx Q R1.sub rx fun G' H' v ex rz => k G' H' ex v rz
theorem se_ix (ha : SE Θ X a ma) (hb : SE Θ X b mb) (hs : PlainIx b) : SE Θ X (.Subscript a b pos) (bd ma fun x => bd mb fun y => of (ixD x y)) := by
  obtain ⟨r, o, hg⟩ := ixg (X := X)
  exact pe_imp (pe_ix o ha hb hs) fun σ H Q q => op_read hg q

/-! ### slices -/
def rdO (Θ : List (Addr × Str)) (K : KP) (m : M (Option Int)) : TO := fun σ H Q => ∃ G r, Rel Θ K G H r σ ∧ Cn Θ K G H r σ (m r) fun o _ H' => Q o H'
abbrev SO (Θ : List (Addr × Str)) (X : Cx) (e : Option Expr) (m : M (Option Int)) : Prop := PO X e (rdO Θ X.kp m)
theorem po_imp {oe : Option Expr} {t t' : TO} (h : PO X oe t) (i : ∀ σ H Q, t' σ H Q → t σ H Q) : PO X oe t' := ⟨fun pins s σ H Q I q => h.run pins s σ H Q I (i _ _ _ q)⟩
theorem so_none : SO Θ X none (rt none) := po_imp po_none fun σ H Q q => by
  obtain ⟨G, r0, R, c⟩ := q
  exact cn_rt R c G H (Ext.refl _ _)
def asI : D → Option (Option Int)
  | .int i => some (some i)
  | _ => none
theorem so_some (h : SE Θ X e m) : SO Θ X (some e) (bd m fun x => of (asI x)) := po_imp (po_some h) fun σ H Q q => by
  obtain ⟨G, r0, R, c⟩ := q
  refine ⟨G, r0, R, (cn_bd c).mono fun x G1 H1 ⟨r1, R1, s1, c1⟩ vx rx => ?_⟩
  obtain ⟨z, hz, k⟩ := cn_of R1 c1
  cases x with
  | int i =>
    cases hz
    exact ⟨i, rx.int_inv, k G1 H1 (Ext.refl _ _)⟩
  | _ => cases hz
theorem se_slice {lo hi : Option Expr} {p2 : Pos} {ml mh : M (Option Int)} (ha : SE Θ X a ma) (hl : SO Θ X lo ml) (hh : SO Θ X hi mh) : SE Θ X (.Subscript a (.Slice lo hi none p2) pos) (bd ma fun x => bd ml fun l => bd mh fun h => of (slD x l h)) := by
  obtain ⟨r, o, hg⟩ := slg (X := X)
  refine pe_imp (pe_slice o ha hl hh) fun σ H Q q => ?_
  obtain ⟨G, r0, R, c⟩ := q
  refine ⟨G, r0, R, (cn_bd c).mono fun x G1 H1 ⟨r1, R1, s1, c1⟩ vx rx => ⟨G1, r1, R1, (cn_bd c1).mono fun l G2 H2 ⟨r2, R2, s2, c2⟩ => ⟨G2, r2, R2, (cn_bd c2).mono fun h G3 H3 ⟨r3, R3, s3, c3⟩ => ?_⟩⟩⟩
  obtain ⟨z, hz, k⟩ := cn_of R3 c3
  exact hg x l h z hz G3 H3 vx Q R3.sub (Rep.mono (s2.trans s3) _ _ rx) fun G' H' v ex rz => k G' H' ex v rz

/-! ### arguments, displays -/
theorem sa_nil : SA Θ X [] (rt []) := pa_imp pa_nil fun σ H Q q => by
  obtain ⟨G, r0, R, c⟩ := q
  exact cn_rt R c G H (Ext.refl _ _) [] .nil
theorem sa_cons {ml : M (List D)} (ha : SE Θ X e m) (hr : SA Θ X es ml) (hs : starEach (e :: es) X.env = (false, eval e X.env) :: starEach es X.env := by rfl) : SA Θ X (e :: es) (bd m fun x => bd ml fun xs => rt (x :: xs)) := pa_imp (pa_cons ha hr hs) fun σ H Q q => by
  obtain ⟨G, r0, R, c⟩ := q
  refine ⟨G, r0, R, (cn_bd c).mono fun x G1 H1 ⟨r1, R1, s1, c1⟩ vx rx => ⟨G1, r1, R1, (cn_bd c1).mono fun xs G2 H2 ⟨r2, R2, s2, c2⟩ vs rs => ?_⟩⟩
  exact cn_rt R2 c2 G2 H2 (Ext.refl _ _) _ (.cons (Rep.mono s2 _ _ rx) rs)
def mkT (ds : List D) : Option D := if ds.length ≤ sizeLine then some (.tup ds) else none
def mkL (ds : List D) : Option D := if ds.length ≤ sizeLine then some (.lst ds) else none
theorem se_tup {ml : M (List D)} {x1} (h : SA Θ X es ml) : SE Θ X (.Tuple es x1 pos) (bd ml fun ds => of (mkT ds)) := pe_imp (pe_tupX h) fun σ H Q q => by
  obtain ⟨G, r0, R, c⟩ := q
  refine ⟨G, r0, R, (cn_bd c).mono fun ds G1 H1 ⟨r1, R1, s1, c1⟩ vs rs => ?_⟩
  obtain ⟨z, hz, k⟩ := cn_of R1 c1
  unfold mkT at hz
  split at hz
  · rename_i hl
    cases hz
    exact ⟨by rw [rs.length]; exact hl, fin_tup R1.sub (fun G' H' v ex rv => k G' H' ex v rv) rs⟩
  · cases hz
theorem se_lst {ml : M (List D)} (h : SA Θ X es ml) : SE Θ X (.List es pos) (bd ml fun ds => of (mkL ds)) := pe_imp (pe_lst h) fun σ H Q q => by
  obtain ⟨G, r0, R, c⟩ := q
  refine ⟨G, r0, R, (cn_bd c).mono fun ds G1 H1 ⟨r1, R1, s1, c1⟩ vs rs => ?_⟩
  obtain ⟨z, hz, k⟩ := cn_of R1 c1
  unfold mkL at hz
  split at hz
  · rename_i hl
    cases hz
    exact ⟨by rw [rs.length]; exact hl, fin_lst R1.sub (fun G' H' v ex rv => k G' H' ex v rv) rs⟩
  · cases hz

/-! ### tests -/
def asB : D → Option Bool
  | .bl b => some b
  | _ => none
theorem tb_read {σ : L2.St} {H : Hp} {Q : Bool → Hp → Prop} (q : rdT Θ X.kp (bd m fun x => of (asB x)) σ H Q) : tB (rdE Θ X.kp m) σ H Q := by
  obtain ⟨G, r0, R, c⟩ := q
  refine ⟨G, r0, R, (cn_bd c).mono fun x G1 H1 ⟨r1, R1, s1, c1⟩ vx rx => ?_⟩
  obtain ⟨z, hz, k⟩ := cn_of R1 c1
  cases x with
  | bl b =>
    cases hz
    exact ⟨_, rx.bl_inv, k G1 H1 (Ext.refl _ _)⟩
  | _ => cases hz
/-- a comparison as a test -/
theorem st_cmp {op : CmpOp} {g : D → D → Option D} (ho : OpG X (compareOp op) g) (ha : SE Θ X a ma) (hb : SE Θ X b mb) (hm : behindInMarks op b = false) : STs Θ X (.Compare a [op] [b] pos) (bd (bd ma fun x => bd mb fun y => of (g x y)) fun x => of (asB x)) := by
  obtain ⟨r, o, hg⟩ := ho
  refine pt_imp (pt_cmpR o ha hb hm) fun σ H Q q => ?_
  exact op_read hg (tb_read q)
/-- any expression that gives a bool -/
theorem st_val (h : SE Θ X e m) (he : ∀ whole, isTrue e X.env whole = (do let v ← whole; standAt e.pos; holding [v] (truthy v)) := by intro _; rfl) : STs Θ X e (bd m fun x => of (asB x)) :=
  pt_imp (pt_val h he) fun σ H Q q => tb_read q
/-- truth -/
def truD : D → Option Bool
  | .dct _ _ => none
  | .tq _ => none
  | .fn _ _ _ => none
  | .st _ => none
  | .non => some false
  | .bl b => some b
  | .int i => some (i != 0)
  | .str x => if x.length ≤ sizeLine then some ((x.length : Int) != 0) else none
  | .tup ds => some (!ds.isEmpty)
  | .lst ds => some (!ds.isEmpty)
  | .ro ds => some (!ds.isEmpty)
theorem reps_empty {K : KP} {G : Hp} {ds : List D} {vs : List V} (r : Reps K G ds vs) : (!ds.isEmpty) = !vs.isEmpty := by
  have := r.length
  cases ds <;> cases vs <;> simp_all
theorem truV {K : KP} {G H : Hp} (s : Same G H) {d : D} {v : V} {k : Bool} (r : Rep K G d v) (h : truD d = some k) : TruV K v H k := by
  cases d with
  | non => rw [r.non_inv]; cases h; rfl
  | bl b => rw [r.bl_inv]; cases h; rfl
  | int i => rw [r.int_inv]; cases h; rfl
  | str x =>
    rw [r.str_inv]
    simp only [truD] at h
    split at h
    · cases h; exact ⟨by assumption, rfl⟩
    · cases h
  | tup ds =>
    obtain ⟨a, vs, rfl, q, rs⟩ := r.tup_inv
    cases h
    exact .inr (.inl ⟨vs, sqT_mono s q, reps_empty rs⟩)
  | lst ds =>
    obtain ⟨a, vs, rfl, q, rs⟩ := r.lst_inv
    cases h
    exact .inl ⟨vs, .inl (rd_mono s q), reps_empty rs⟩
  | ro ds =>
    obtain ⟨a, vs, rfl, q, rs⟩ := r.ro_inv
    cases h
    exact .inl ⟨vs, sqL_mono s q, reps_empty rs⟩
  | dct ks ds => cases h
  | tq ds => cases h
  | fn a vs cs => cases h
  | st ks => cases h
theorem st_tru (h : SE Θ X e m) (he : ∀ whole, isTrue e X.env whole = (do let v ← whole; standAt e.pos; holding [v] (truthy v)) := by intro _; rfl) : STs Θ X e (bd m fun x => of (truD x)) :=
  pt_imp (pt_truth h he) fun σ H Q q => by
    obtain ⟨G, r0, R, c⟩ := q
    refine ⟨G, r0, R, (cn_bd c).mono fun x G1 H1 ⟨r1, R1, s1, c1⟩ vx rx => ?_⟩
    obtain ⟨z, hz, k⟩ := cn_of R1 c1
    exact ⟨z, truV R1.sub rx hz, k G1 H1 (Ext.refl _ _)⟩
variable {ta tb : M Bool} {rest : List Expr}
abbrev SW (Θ : List (Addr × Str)) (X : Cx) (e : Expr) (m : M Bool) : Prop := PW X e (rdT Θ X.kp m)
theorem pw_imp {t t' : TT} (h : PW X e t) (i : ∀ σ H Q, t' σ H Q → t σ H Q) : PW X e t' := ⟨fun wh pins s σ H Q I q => h.run wh pins s σ H Q I (i _ _ _ q)⟩
def andM (a b : M Bool) : M Bool := bd a fun x => if x = true then b else rt false
def orM (a b : M Bool) : M Bool := bd a fun x => if x = true then rt true else b
theorem and_read {σ : L2.St} {H : Hp} {Q : Bool → Hp → Prop} (q : rdT Θ X.kp (andM ta tb) σ H Q) : tAnd (rdT Θ X.kp ta) (rdT Θ X.kp tb) σ H Q := by
  obtain ⟨G, r0, R, c⟩ := q
  refine ⟨G, r0, R, (cn_bd c).mono fun x G1 H1 ⟨r1, R1, s1, c1⟩ => ?_⟩
  cases x with
  | true => exact ⟨G1, r1, R1, c1⟩
  | false => exact cn_rt R1 c1 G1 H1 (Ext.refl _ _)
theorem or_read {σ : L2.St} {H : Hp} {Q : Bool → Hp → Prop} (q : rdT Θ X.kp (orM ta tb) σ H Q) : tOr (rdT Θ X.kp ta) (rdT Θ X.kp tb) σ H Q := by
  obtain ⟨G, r0, R, c⟩ := q
  refine ⟨G, r0, R, (cn_bd c).mono fun x G1 H1 ⟨r1, R1, s1, c1⟩ => ?_⟩
  cases x with
  | false => exact ⟨G1, r1, R1, c1⟩
  | true => exact cn_rt R1 c1 G1 H1 (Ext.refl _ _)
theorem sw_and1 (ha : STs Θ X a ta) : SW Θ X (.BoolOp .And [a] pos) ta := pw_and1 ha
theorem sw_or1 (ha : STs Θ X a ta) : SW Θ X (.BoolOp .Or [a] pos) ta := pw_or1 ha
theorem sw_and (ha : STs Θ X a ta) (hb : SW Θ X (.BoolOp .And (b :: rest) pos) tb) : SW Θ X (.BoolOp .And (a :: b :: rest) pos) (andM ta tb) := pw_imp (pw_and ha hb) fun σ H Q q => and_read q
theorem sw_or (ha : STs Θ X a ta) (hb : SW Θ X (.BoolOp .Or (b :: rest) pos) tb) : SW Θ X (.BoolOp .Or (a :: b :: rest) pos) (orM ta tb) := pw_imp (pw_or ha hb) fun σ H Q q => or_read q
theorem st_not (ha : STs Θ X a ta) : STs Θ X (.UnaryOp .Not a pos) (bd ta fun x => rt (!x)) := pt_imp (pt_not ha) fun σ H Q q => by
  obtain ⟨G, r0, R, c⟩ := q
  refine ⟨G, r0, R, (cn_bd c).mono fun x G1 H1 ⟨r1, R1, s1, c1⟩ => ?_⟩
  exact cn_rt R1 c1 G1 H1 (Ext.refl _ _)
/-- and, or, not as values: all bools -/
def andV (a b : M D) : M D := bd a fun x => bd (of (asB x)) fun k => if k = true then b else rt (.bl false)
def orV (a b : M D) : M D := bd a fun x => bd (of (asB x)) fun k => if k = true then rt (.bl true) else b
theorem se_one {op} (h : SE Θ X a m) : SE Θ X (.BoolOp op [a] pos) m := pe_one h
theorem asB_some {x : D} {k : Bool} (h : asB x = some k) : x = .bl k := by cases x <;> simp_all [asB]
theorem se_and (ha : SE Θ X a ma) (hb : SE Θ X (.BoolOp .And (b :: rest) pos) mb) : SE Θ X (.BoolOp .And (a :: b :: rest) pos) (andV ma mb) := pe_imp (pe_and ha hb) fun σ H Q q => by
  obtain ⟨G, r0, R, c⟩ := q
  refine ⟨G, r0, R, (cn_bd c).mono fun x G1 H1 ⟨r1, R1, s1, c1⟩ vx rx => ?_⟩
  obtain ⟨k, r2, e2, q2⟩ := cn_bd c1
  obtain ⟨e3, rfl⟩ := of_some e2
  obtain rfl := asB_some e3
  obtain ⟨r3, R3, s3, c3⟩ := q2 G1 H1 R1 (Fr.refl _ _ _ _)
  refine ⟨k, rx.bl_inv, ?_⟩
  cases k with
  | true => exact ⟨G1, r3, R3, c3⟩
  | false => exact cn_rt R3 c3 G1 H1 (Ext.refl _ _) _ .bl_of
theorem se_or (ha : SE Θ X a ma) (hb : SE Θ X (.BoolOp .Or (b :: rest) pos) mb) : SE Θ X (.BoolOp .Or (a :: b :: rest) pos) (orV ma mb) := pe_imp (pe_or ha hb) fun σ H Q q => by
  obtain ⟨G, r0, R, c⟩ := q
  refine ⟨G, r0, R, (cn_bd c).mono fun x G1 H1 ⟨r1, R1, s1, c1⟩ vx rx => ?_⟩
  obtain ⟨k, r2, e2, q2⟩ := cn_bd c1
  obtain ⟨e3, rfl⟩ := of_some e2
  obtain rfl := asB_some e3
  obtain ⟨r3, R3, s3, c3⟩ := q2 G1 H1 R1 (Fr.refl _ _ _ _)
  refine ⟨k, rx.bl_inv, ?_⟩
  cases k with
  | false => exact ⟨G1, r3, R3, c3⟩
  | true => exact cn_rt R3 c3 G1 H1 (Ext.refl _ _) _ .bl_of
theorem se_not (ha : SE Θ X a m) : SE Θ X (.UnaryOp .Not a pos) (bd m fun x => bd (of (asB x)) fun k => rt (.bl (!k))) := pe_imp (pe_not ha) fun σ H Q q => by
  obtain ⟨G, r0, R, c⟩ := q
  refine ⟨G, r0, R, (cn_bd c).mono fun x G1 H1 ⟨r1, R1, s1, c1⟩ vx rx => ?_⟩
  obtain ⟨k, r2, e2, q2⟩ := cn_bd c1
  obtain ⟨e3, rfl⟩ := of_some e2
  obtain rfl := asB_some e3
  obtain ⟨r3, R3, s3, c3⟩ := q2 G1 H1 R1 (Fr.refl _ _ _ _)
  exact ⟨k, rx.bl_inv, cn_rt R3 c3 G1 H1 (Ext.refl _ _) _ .bl_of⟩
/-- a if t else b -/
def ifM {α : Type} (t : M Bool) (a b : M α) : M α := bd t fun x => if x = true then a else b
theorem se_if (hc : STs Θ X c ta) (ha : SE Θ X a ma) (hb : SE Θ X b mb) : SE Θ X (.IfExp c a b pos) (ifM ta ma mb) := pe_imp (pe_ifExp hc ha hb) fun σ H Q q => by
  obtain ⟨G, r0, R, c⟩ := q
  refine ⟨G, r0, R, (cn_bd c).mono fun x G1 H1 ⟨r1, R1, s1, c1⟩ => ?_⟩
  cases x with
  | true => exact ⟨G1, r1, R1, c1⟩
  | false => exact ⟨G1, r1, R1, c1⟩
end
end Pk

namespace Pk
open PySem PySem.Spec PyProof.Rows L2
/-! ### built-ins -/
theorem bo_len : bootBuiltins "len" = some (.builtin "len") := by decide +kernel
theorem bo_list : bootBuiltins "list" = some (.type "list") := by decide +kernel
theorem bo_tuple : bootBuiltins "tuple" = some (.type "tuple") := by decide +kernel
theorem bo_int : bootBuiltins "int" = some (.type "int") := by decide +kernel
theorem bo_str : bootBuiltins "str" = some (.type "str") := by decide +kernel
theorem bo_bool : bootBuiltins "bool" = some (.type "bool") := by decide +kernel
theorem bo_ord : bootBuiltins "ord" = some (.builtin "ord") := by decide +kernel
theorem bo_min : bootBuiltins "min" = some (.builtin "min") := by decide +kernel
theorem bo_max : bootBuiltins "max" = some (.builtin "max") := by decide +kernel
theorem bo_abs : bootBuiltins "abs" = some (.builtin "abs") := by decide +kernel
theorem bo_all : bootBuiltins "all" = some (.builtin "all") := by decide +kernel
theorem bo_any : bootBuiltins "any" = some (.builtin "any") := by decide +kernel
theorem bo_isinstance : bootBuiltins "isinstance" = some (.builtin "isinstance") := by decide +kernel
section
variable {X : Cx} {e : Expr} {es : List Expr} {pos p : Pos} {m : M D} {ml : M (List D)} {x : Str}
def CallG (X : Cx) (f : Value) (g : List D → Option D) : Prop :=
  ∃ r, CallR X f r ∧ ∀ xs z, g xs = some z → ∀ (G H : Hp) (vs : List V) (Q : VK), Same G H → Reps X.kp G xs vs → (∀ G' H' v, Ext G H G' H' → Rep X.kp G' z v → Q v H') → r vs H Q
theorem call_read {r : List V → Hp → VK → Prop} {g : List D → Option D} (hg : ∀ xs z, g xs = some z → ∀ (G H : Hp) (vs : List V) (Q : VK), Same G H → Reps X.kp G xs vs → (∀ G' H' v, Ext G H G' H' → Rep X.kp G' z v → Q v H') → r vs H Q)
    {σ : L2.St} {H : Hp} {Q : VK} (q : rdE Θ X.kp (bd ml fun xs => of (g xs)) σ H Q) : tCB r (rdA Θ X.kp ml) σ H Q := by
  obtain ⟨G, r0, R, c⟩ := q
  refine ⟨G, r0, R, (cn_bd c).mono fun xs G1 H1 ⟨r1, R1, s1, c1⟩ vs rs => ?_⟩
  obtain ⟨z, hz, k⟩ := cn_of R1 c1
  exact hg xs z hz G1 H1 vs Q R1.sub rs fun G' H' v ex rz => k G' H' ex v rz
theorem se_callB {id : String} {g : List D → Option D} (hc : CallG X (.builtin id) g) (hg : Gl X x) (hm : X.mg x = none) (hv : bootBuiltins x = some (.builtin id)) (ha : SA Θ X (e :: es) ml) (hn : x ≠ "__name__" := by decide) (hdb : (x == ("__debug__" : Str)) = false := by decide)
    (he : starEach (e :: es) X.env = (false, eval e X.env) :: starEach es X.env := by rfl) (hpl : (backTo pos (starEach es X.env)).any (·.1) = false := by rfl) : SE Θ X (.Call (.Name x p) (e :: es) [] pos) (bd ml fun xs => of (g xs)) := by
  obtain ⟨r, o, h⟩ := hc
  exact pe_imp (pe_callB o hg hm hv ha hn hdb he hpl) fun σ H Q q => call_read h q
theorem se_callTy {T : String} {g : List D → Option D} (hc : CallG X (.type T) g) (hg : Gl X x) (hm : X.mg x = none) (hv : bootBuiltins x = some (.type T)) (ha : SA Θ X (e :: es) ml) (hn : x ≠ "__name__" := by decide) (hdb : (x == ("__debug__" : Str)) = false := by decide)
    (he : starEach (e :: es) X.env = (false, eval e X.env) :: starEach es X.env := by rfl) (hpl : (backTo pos (starEach es X.env)).any (·.1) = false := by rfl) : SE Θ X (.Call (.Name x p) (e :: es) [] pos) (bd ml fun xs => of (g xs)) := by
  obtain ⟨r, o, h⟩ := hc
  exact pe_imp (pe_callTy o hg hm hv ha hn hdb he hpl) fun σ H Q q => call_read h q
theorem Reps.one {K : KP} {G : Hp} {d : D} {vs : List V} (h : Reps K G [d] vs) : ∃ v, vs = [v] ∧ Rep K G d v := by
  obtain ⟨v, r, rfl, q, t⟩ := h.cons_inv
  rw [t.nil_inv]
  exact ⟨v, rfl, q⟩
theorem Reps.two {K : KP} {G : Hp} {d e : D} {vs : List V} (h : Reps K G [d, e] vs) : ∃ v u, vs = [v, u] ∧ Rep K G d v ∧ Rep K G e u := by
  obtain ⟨v, r, rfl, q, t⟩ := h.cons_inv
  obtain ⟨u, rfl, q2⟩ := t.one
  exact ⟨v, u, rfl, q, q2⟩
def lenD : List D → Option D
  | [.str x] => if x.length ≤ sizeLine then some (.int x.length) else none
  | [.tup ds] => some (.int ds.length)
  | [.lst ds] => some (.int ds.length)
  | [.ro ds] => some (.int ds.length)
  | _ => none
theorem cg_len : CallG X (.builtin "len") lenD := by
  refine ⟨_, call_len, fun xs z e G H vs Q s rs k => ?_⟩
  unfold lenD at e
  split at e
  · split at e
    · rename_i y hc
      cases e
      obtain ⟨v, rfl, r⟩ := rs.one
      obtain rfl := r.str_inv
      exact ⟨_, _, rfl, ⟨hc, rfl⟩, fin_flat k .int_of⟩
    · cases e
  · rename_i ds
    cases e
    obtain ⟨v, rfl, r⟩ := rs.one
    obtain ⟨a, us, rfl, q, rr⟩ := r.tup_inv
    exact ⟨_, _, rfl, .inr ⟨us, sqT_mono s q, rfl⟩, by rw [rr.length]; exact fin_flat k .int_of⟩
  · rename_i ds
    cases e
    obtain ⟨v, rfl, r⟩ := rs.one
    obtain ⟨a, us, rfl, q, rr⟩ := r.lst_inv
    exact ⟨_, _, rfl, .inl ⟨us, .inl (rd_mono s q), rfl⟩, by rw [rr.length]; exact fin_flat k .int_of⟩
  · rename_i ds
    cases e
    obtain ⟨v, rfl, r⟩ := rs.one
    obtain ⟨a, us, rfl, q, rr⟩ := r.ro_inv
    exact ⟨_, _, rfl, .inl ⟨us, sqL_mono s q, rfl⟩, by rw [rr.length]; exact fin_flat k .int_of⟩
  · cases e
def listD : List D → Option D
  | [.tup ds] => some (.lst ds)
  | [.lst ds] => some (.lst ds)
  | [.ro ds] => some (.lst ds)
  | _ => none
theorem cg_list : CallG X (.type "list") listD := by
  refine ⟨_, call_list_of, fun xs z e G H vs Q s rs k => ?_⟩
  unfold listD at e
  split at e
  · rename_i ds
    cases e
    obtain ⟨v, rfl, r⟩ := rs.one
    obtain ⟨a, us, rfl, q, rr⟩ := r.tup_inv
    exact ⟨a, us, rfl, .inr (sqT_mono s q), fin_lst s k rr⟩
  · rename_i ds
    cases e
    obtain ⟨v, rfl, r⟩ := rs.one
    obtain ⟨a, us, rfl, q, rr⟩ := r.lst_inv
    exact ⟨a, us, rfl, .inl (.inl (rd_mono s q)), fin_lst s k rr⟩
  · rename_i ds
    cases e
    obtain ⟨v, rfl, r⟩ := rs.one
    obtain ⟨a, us, rfl, q, rr⟩ := r.ro_inv
    exact ⟨a, us, rfl, .inl (sqL_mono s q), fin_lst s k rr⟩
  · cases e
def tupleD : List D → Option D
  | [.tup ds] => some (.tup ds)
  | [.lst ds] => some (.tup ds)
  | _ => none
theorem cg_tuple : CallG X (.type "tuple") tupleD := by
  refine ⟨_, call_tupleX, fun xs z e G H vs Q s rs k => ?_⟩
  unfold tupleD at e
  split at e
  · rename_i ds
    cases e
    obtain ⟨v, rfl, r⟩ := rs.one
    obtain ⟨a, us, rfl, q, rr⟩ := r.tup_inv
    exact ⟨a, us, rfl, .inr ⟨sqT_mono s q, k G H _ (Ext.refl _ _) r⟩⟩
  · rename_i ds
    cases e
    obtain ⟨v, rfl, r⟩ := rs.one
    obtain ⟨a, us, rfl, q, rr⟩ := r.lst_inv
    exact ⟨a, us, rfl, .inl ⟨.inl (rd_mono s q), fin_tup s k rr⟩⟩
  · cases e
def intD : List D → Option D
  | [.int i] => some (.int i)
  | [.bl b] => some (.int (if b then 1 else 0))
  | _ => none
theorem cg_int : CallG X (.type "int") intD := by
  refine ⟨_, call_int1, fun xs z e G H vs Q s rs k => ?_⟩
  unfold intD at e
  split at e
  · rename_i i
    cases e
    obtain ⟨v, rfl, r⟩ := rs.one
    obtain rfl := r.int_inv
    exact .inl ⟨i, rfl, fin_flat k .int_of⟩
  · rename_i b
    cases e
    obtain ⟨v, rfl, r⟩ := rs.one
    obtain rfl := r.bl_inv
    exact .inr ⟨b, rfl, fin_flat k .int_of⟩
  · cases e
def ordC : List D → Option D
  | [.str x] => if x.length = 1 then some (.int (x.cps.getD 0 0 : Nat)) else none
  | _ => none
theorem cg_ord : CallG X (.builtin "ord") ordC := by
  refine ⟨_, call_ord, fun xs z e G H vs Q s rs k => ?_⟩
  unfold ordC at e
  split at e
  · split at e
    · rename_i y hc
      cases e
      obtain ⟨v, rfl, r⟩ := rs.one
      obtain rfl := r.str_inv
      exact ⟨y, rfl, hc, fin_flat k .int_of⟩
    · cases e
  · cases e
def minD : List D → Option D
  | [.int i, .int j] => some (.int (if j < i then j else i))
  | _ => none
theorem cg_min (hc : X.calm = true) : CallG X (.builtin "min") minD := by
  refine ⟨_, call_min2 hc, fun xs z e G H vs Q s rs k => ?_⟩
  unfold minD at e
  split at e
  · rename_i i j
    cases e
    obtain ⟨v, u, rfl, r1, r2⟩ := rs.two
    obtain rfl := r1.int_inv
    obtain rfl := r2.int_inv
    exact ⟨i, j, rfl, fin_flat k .int_of⟩
  · cases e
def maxD : List D → Option D
  | [.int i, .int j] => some (.int (if j > i then j else i))
  | _ => none
theorem cg_max (hc : X.calm = true) : CallG X (.builtin "max") maxD := by
  refine ⟨_, call_max2 hc, fun xs z e G H vs Q s rs k => ?_⟩
  unfold maxD at e
  split at e
  · rename_i i j
    cases e
    obtain ⟨v, u, rfl, r1, r2⟩ := rs.two
    obtain rfl := r1.int_inv
    obtain rfl := r2.int_inv
    exact ⟨i, j, rfl, fin_flat k .int_of⟩
  · cases e
def absD : List D → Option D
  | [.int i] => some (.int (if i < 0 then -i else i))
  | _ => none
theorem cg_abs : CallG X (.builtin "abs") absD := by
  refine ⟨_, call_abs, fun xs z e G H vs Q s rs k => ?_⟩
  unfold absD at e
  split at e
  · rename_i i
    cases e
    obtain ⟨v, rfl, r⟩ := rs.one
    obtain rfl := r.int_inv
    exact ⟨i, rfl, fin_flat k .int_of⟩
  · cases e
def strI : List D → Option D
  | [.int i] => if i.natAbs.log2 < 1920 then some (.str (toString i)) else none
  | _ => none
theorem cg_str : CallG X (.type "str") strI := by
  refine ⟨_, call_str_int, fun xs z e G H vs Q s rs k => ?_⟩
  unfold strI at e
  split at e
  · split at e
    · rename_i i hc
      cases e
      obtain ⟨v, rfl, r⟩ := rs.one
      obtain rfl := r.int_inv
      exact ⟨i, rfl, hc, fin_flat k .str_of⟩
    · cases e
  · cases e
def bools : List D → Option (List Bool)
  | [] => some []
  | .bl b :: ds => (bools ds).map fun bs => b :: bs
  | _ :: _ => none
theorem bools_reps {K : KP} {G : Hp} : ∀ {ds : List D} {bs : List Bool} {vs : List V}, bools ds = some bs → Reps K G ds vs → vs = bs.map V.bl
  | [], bs, vs, h, r => by cases h; rw [r.nil_inv]; rfl
  | d :: ds, bs, vs, h, r => by
    cases d with
    | bl b =>
      simp only [bools] at h
      cases e : bools ds with
      | none => rw [e] at h; cases h
      | some cs =>
        rw [e] at h
        cases h
        obtain ⟨v, us, rfl, q, t⟩ := r.cons_inv
        rw [q.bl_inv, bools_reps e t]
        rfl
    | _ => simp [bools] at h
def allD : List D → Option D
  | [.lst ds] => (bools ds).map fun bs => .bl (bs.all _root_.id)
  | _ => none
theorem cg_all (hc : X.calm = true) : CallG X (.builtin "all") allD := by
  refine ⟨_, cr_all hc, fun xs z e G H vs Q s rs k => ?_⟩
  unfold allD at e
  split at e
  · rename_i ds
    cases e2 : bools ds with
    | none => rw [e2] at e; cases e
    | some bs =>
      rw [e2] at e
      cases e
      obtain ⟨v, rfl, r⟩ := rs.one
      obtain ⟨a, us, rfl, q, rr⟩ := r.lst_inv
      obtain rfl := bools_reps e2 rr
      exact ⟨a, bs, rfl, .inl (rd_mono s q), fin_flat k .bl_of⟩
  · cases e
def anyD : List D → Option D
  | [.lst ds] => (bools ds).map fun bs => .bl (bs.any _root_.id)
  | _ => none
theorem cg_any (hc : X.calm = true) : CallG X (.builtin "any") anyD := by
  refine ⟨_, cr_any hc, fun xs z e G H vs Q s rs k => ?_⟩
  unfold anyD at e
  split at e
  · rename_i ds
    cases e2 : bools ds with
    | none => rw [e2] at e; cases e
    | some bs =>
      rw [e2] at e
      cases e
      obtain ⟨v, rfl, r⟩ := rs.one
      obtain ⟨a, us, rfl, q, rr⟩ := r.lst_inv
      obtain rfl := bools_reps e2 rr
      exact ⟨a, bs, rfl, .inl (rd_mono s q), fin_flat k .bl_of⟩
  · cases e
/-! ### isinstance(e, T) -/
def D.ty : D → String
  | .non => "NoneType"
  | .bl _ => "bool"
  | .int _ => "int"
  | .str _ => "str"
  | .tup _ => "tuple"
  | .lst _ => "list"
  | .ro _ => "list"
  | .dct _ _ => "dict"
  | .tq _ => "tuple"
  | .fn _ _ _ => "function"
  | .st _ => "set"
theorem Rep.tyx {K : KP} {G H : Hp} (s : Same G H) {d : D} {v : V} (r : Rep K G d v) (nf : ∀ a vs cs, d ≠ .fn a vs cs) (ns : ∀ ks, d ≠ .st ks) : TyX K H v (.type d.ty) := by
  cases d with
  | fn a vs cs => exact absurd rfl (nf a vs cs)
  | st ks => exact absurd rfl (ns ks)
  | non => rw [r.non_inv]; exact .base .non
  | bl b => rw [r.bl_inv]; exact .base (.bl b)
  | int i => rw [r.int_inv]; exact .base (.int i)
  | str x => rw [r.str_inv]; exact .base (.str x)
  | tup ds =>
    obtain ⟨a, vs, rfl, q, rs⟩ := r.tup_inv
    rcases q with (q | ⟨o, q⟩) | ⟨o, its, n, q, c, _⟩
    · exact .base (.tup (s _ _ q))
    · exact .fTuple (s _ _ q)
    · exact .kTuple q c
  | lst ds =>
    obtain ⟨a, vs, rfl, q, rs⟩ := r.lst_inv
    rcases q with q | ⟨o, q⟩
    · exact .base (.lst (s _ _ q))
    · exact .base (.frz (s _ _ q))
  | ro ds =>
    obtain ⟨a, vs, rfl, q, rs⟩ := r.ro_inv
    rcases q with (q | ⟨o, q⟩) | ⟨o, its, n, q, c, _⟩
    · exact .base (.lst (s _ _ q))
    · exact .base (.frz (s _ _ q))
    · exact .kList q c
  | tq ds =>
    obtain ⟨a, vs, rfl, q, rs⟩ := r.tq_inv
    rcases q with (q | ⟨o, q⟩) | ⟨o, its, n, q, c, _⟩
    · exact .base (.tup (s _ _ q))
    · exact .fTuple (s _ _ q)
    · exact .kTuple q c
  | dct ks ds =>
    obtain ⟨a, vs, rfl, q, l, rs⟩ := r.dct_inv
    rcases q with q | ⟨o, q⟩
    · exact .base (.dK (s _ _ q))
    · exact .fDict (s _ _ q)
def isiD (T : String) (d : D) : Option D := match d with
  | .fn _ _ _ => none
  | .st _ => none
  | d => (kitB d.ty T).map .bl
theorem se_isi {T : String} {px p : Pos} {y : Str} (he : SE Θ X e m) (hg : Gl X "isinstance") (hm : X.mg "isinstance" = none) (gy : Gl X y) (my : X.mg y = none) (vy : bootBuiltins y = some (.type T)) (hy : y ≠ "__name__" := by decide) (hyd : (y == ("__debug__" : Str)) = false := by decide)
    (he2 : starEach (e :: [.Name y px]) X.env = (false, eval e X.env) :: starEach [.Name y px] X.env := by rfl) (he3 : starEach (.Name y px :: []) X.env = (false, eval (.Name y px) X.env) :: starEach [] X.env := by rfl) (hpl : (backTo pos (starEach [.Name y px] X.env)).any (·.1) = false := by rfl) :
    SE Θ X (.Call (.Name "isinstance" p) [e, .Name y px] [] pos) (bd m fun x => of (isiD T x)) := by
  refine pe_imp (pe_callB call_isi hg hm bo_isinstance (pa_cons he (pa_cons (pe_bltn (v := .ty T) gy my vy rfl hy hyd) pa_nil he3) he2) (by decide) (by decide) he2 hpl) fun σ H Q q => ?_
  obtain ⟨G, r0, R, c⟩ := q
  refine ⟨G, r0, R, (cn_bd c).mono fun x G1 H1 ⟨r1, R1, s1, c1⟩ vx rx => ?_⟩
  obtain ⟨z, hz, k⟩ := cn_of R1 c1
  have nf : ∀ a vs cs, x ≠ .fn a vs cs := fun a vs cs y => by subst y; cases hz
  have ns : ∀ ks, x ≠ .st ks := fun ks y => by subst y; cases hz
  have hz : (kitB x.ty T).map D.bl = some z := by
    unfold isiD at hz
    split at hz
    · cases hz
    · cases hz
    · exact hz
  cases e2 : kitB x.ty T with
  | none => rw [e2] at hz; cases hz
  | some b =>
    rw [e2] at hz
    cases hz
    exact ⟨vx, .ty T, _, _, b, rfl, .ty T, rx.tyx R1.sub nf ns, kit_ty e2, fin_flat (X := X) (fun G' H' v ex rv => k G' H' ex v rv) .bl_of⟩
/-! ### sep.join(list) -/
def texts : List D → Option (List Str)
  | [] => some []
  | .str b :: ds => (texts ds).map fun bs => b :: bs
  | _ :: _ => none
theorem texts_reps {K : KP} {G : Hp} : ∀ {ds : List D} {bs : List Str} {vs : List V}, texts ds = some bs → Reps K G ds vs → vs = bs.map V.str
  | [], bs, vs, h, r => by cases h; rw [r.nil_inv]; rfl
  | d :: ds, bs, vs, h, r => by
    cases d with
    | str b =>
      simp only [texts] at h
      cases e : texts ds with
      | none => rw [e] at h; cases h
      | some cs =>
        rw [e] at h
        cases h
        obtain ⟨v, us, rfl, q, t⟩ := r.cons_inv
        rw [q.str_inv, texts_reps e t]
        rfl
    | _ => simp [texts] at h
def joinL (a : Str) (ds : List D) : Option D := match texts ds with
  | some ys => if (ys.map (·.length)).sum + ys.length * a.length ≤ 16777216 then some (.str (Txt.join a ys)) else none
  | none => none
def joinD : D → D → Option D
  | .str a, .lst ds => joinL a ds
  | .str a, .tup ds => joinL a ds
  | _, _ => none
theorem joinL_some {a : Str} {ds : List D} {z : D} (h : joinL a ds = some z) : ∃ ys, texts ds = some ys ∧ (ys.map (·.length)).sum + ys.length * a.length ≤ 16777216 ∧ z = .str (Txt.join a ys) := by
  unfold joinL at h
  split at h
  · rename_i ys e
    split at h
    · rename_i hc
      cases h
      exact ⟨ys, e, hc, rfl⟩
    · cases h
  · cases h
def asS : D → Option Str
  | .str z => some z
  | _ => none
theorem se_join {o : Expr} {mo : M D} {apos : Pos} (ho : SE Θ X o mo) (he : SE Θ X e m) (hs : starEach [e] X.env = [(false, eval e X.env)] := by rfl) (hbase : attributeBase o "join" X.env (eval o X.env) = eval o X.env := by rfl) (hline : (apos.endLine == pos.line) = true := by rfl) :
    SE Θ X (.Call (.Attribute o "join" apos) [e] [] pos) (bd mo fun a => bd (of (asS a)) fun z => bd m fun x => of (joinD (.str z) x)) := by
  refine pe_imp (pe_join ho he hs hbase hline) fun σ H Q q => ?_
  obtain ⟨G, r0, R, c⟩ := q
  refine ⟨G, r0, R, (cn_bd c).mono fun a G1 H1 ⟨r1, R1, s1, c1⟩ va ra => ?_⟩
  obtain ⟨y, r2, e2, q2⟩ := cn_bd c1
  obtain ⟨e3, rfl⟩ := of_some e2
  obtain ⟨r3, R3, s3, c3⟩ := q2 G1 H1 R1 (Fr.refl _ _ _ _)
  cases a with
  | str w =>
    obtain rfl : w = y := Option.some.inj e3
    obtain rfl := ra.str_inv
    refine ⟨⟨w, rfl⟩, G1, r3, R3, (cn_bd c3).mono fun x G2 H2 ⟨r4, R4, s4, c4⟩ vx rx => ?_⟩
    obtain ⟨z, hz, k⟩ := cn_of R4 c4
    cases x with
    | lst ds =>
      obtain ⟨ys, h1, h2, rfl⟩ := joinL_some (show joinL w ds = some z from hz)
      obtain ⟨p, us, rfl, q, rr⟩ := rx.lst_inv
      obtain rfl := texts_reps h1 rr
      exact ⟨w, p, ys, rfl, rfl, .inl (.inl (rd_mono R4.sub q)), h2, fin_flat (X := X) (fun G' H' v ex rv => k G' H' ex v rv) .str_of⟩
    | tup ds =>
      obtain ⟨ys, h1, h2, rfl⟩ := joinL_some (show joinL w ds = some z from hz)
      obtain ⟨p, us, rfl, q, rr⟩ := rx.tup_inv
      obtain rfl := texts_reps h1 rr
      exact ⟨w, p, ys, rfl, rfl, .inr (sqT_mono R4.sub q), h2, fin_flat (X := X) (fun G' H' v ex rv => k G' H' ex v rv) .str_of⟩
    | _ => cases hz
  | _ => cases e3
end
end Pk

namespace Pk
open PySem PySem.Spec PyProof.Rows L2

/-! ### stores to slots -/
section
variable {K : KP} {G H : Hp} {r r' : Ro} {σ : L2.St} {i : Nat}
theorem set_get {α : Type} {l : List α} {i j : Nat} {a b : α} (h : (l.set i a)[j]? = some b) : (j = i ∧ b = a) ∨ (j ≠ i ∧ l[j]? = some b) := by
  by_cases e : i = j
  · subst e
    by_cases hl : i < l.length
    · rw [List.getElem?_set_self hl] at h
      exact .inl ⟨rfl, (Option.some.inj h).symm⟩
    · rw [List.getElem?_eq_none (by simpa using hl)] at h; cases h
  · rw [List.getElem?_set_ne e] at h
    exact .inr ⟨fun z => e z.symm, h⟩
/-- may be stored to -/
def free (r : Ro) (i : Nat) : Bool := match r[i]? with
  | none => false
  | some (some (.own true _)) => false
  | some (some .lock) => false
  | some _ => true
theorem free_lt (h : free r i = true) : i < r.length := by
  unfold free at h
  cases e : r[i]? with
  | none => rw [e] at h; cases h
  | some x => exact (List.getElem?_eq_some_iff.mp e).1
theorem free_pin (h : free r i = true) {ds : List D} : r[i]? ≠ some (some (.own true ds)) := fun z => by
  unfold free at h
  rw [z] at h
  cases h
theorem free_lock (h : free r i = true) : r[i]? ≠ some (some .lock) := fun z => by
  unfold free at h
  rw [z] at h
  cases h
def setD (i : Nat) (d : D) : Ro → Option Ro := fun r => if free r i then some (r.set i (some (.d d))) else none
def setO (i : Nat) (ds : List D) : Ro → Option Ro := fun r => if free r i then some (r.set i (some (.own false ds))) else none
theorem setD_some {d : D} (h : setD i d r = some r') : free r i = true ∧ r' = r.set i (some (.d d)) := by
  unfold setD at h
  split at h
  · cases h; exact ⟨by assumption, rfl⟩
  · cases h
theorem setO_some {ds : List D} (h : setO i ds r = some r') : free r i = true ∧ r' = r.set i (some (.own false ds)) := by
  unfold setO at h
  split at h
  · cases h; exact ⟨by assumption, rfl⟩
  · cases h
theorem setD_rel (R : Rel Θ K G H r σ) {d : D} (h : setD i d r = some r') {v : V} (rv : Rep K G d v) : Rel Θ K G H r' (σ.set i (some v)) ∧ Fr G H r σ G H r' (σ.set i (some v)) := by
  obtain ⟨hf, rfl⟩ := setD_some h
  have hl := free_lt hf
  have hs : i < σ.length := by rw [← R.len]; exact hl
  have own : ∀ (j : Nat) (p : Bool) (ds : List D), (r.set i (some (.d d)))[j]? = some (some (.own p ds)) → j ≠ i ∧ r[j]? = some (some (.own p ds)) := fun j p ds z => by
    rcases set_get z with ⟨_, e⟩ | ⟨n, e⟩
    · cases e
    · exact ⟨n, e⟩
  have sig : ∀ j, j ≠ i → (σ.set i (some v))[j]? = σ[j]? := fun j n => List.getElem?_set_ne (fun z => n z.symm)
  refine ⟨⟨by rw [List.length_set, List.length_set]; exact R.len, R.sub, fun j d' z => ?_, fun j p ds z => ?_, fun j k p ds q es a z1 z2 e1 e2 => ?_, R.tab⟩, ⟨Same.refl _, fun b u e _ n => ⟨e, ?_, fun z => z⟩, fun j ds z => ?_, fun j z => ?_, fun _ h => h⟩⟩
  · rcases set_get z with ⟨rfl, e⟩ | ⟨n, e⟩
    · cases e
      exact ⟨v, List.getElem?_set_self hs, rv⟩
    · rw [sig j n]; exact R.get j d' e
  · obtain ⟨n, e⟩ := own j p ds z
    rw [sig j n]; exact R.own j p ds e
  · obtain ⟨n1, z1⟩ := own j p ds z1
    obtain ⟨n2, z2⟩ := own k q es z2
    rw [sig j n1] at e1
    rw [sig k n2] at e2
    exact R.sep j k p ds q es a z1 z2 e1 e2
  · rintro ⟨j, p, ds, z, e2⟩
    obtain ⟨n1, z⟩ := own j p ds z
    rw [sig j n1] at e2
    exact n ⟨j, p, ds, z, e2⟩
  · have n : j ≠ i := fun e => by subst e; exact free_pin hf z
    rw [sig j n]
    exact ⟨⟨ds, by rw [List.getElem?_set_ne (fun e => n e.symm)]; exact z⟩, rfl⟩
  · have n : j ≠ i := fun e => by subst e; exact free_lock hf z
    rw [sig j n]
    exact ⟨by rw [List.getElem?_set_ne (fun e => n e.symm)]; exact z, rfl⟩
theorem setO_rel (R : Rel Θ K G H r σ) {ds : List D} (h : setO i ds r = some r') {vs : List V} (rv : Reps K G ds vs) {p : Addr} (hp : H p = none) :
    Rel Θ K G (upd H p (.lst vs)) r' (σ.set i (some (.ref p))) ∧ Fr G H r σ G (upd H p (.lst vs)) r' (σ.set i (some (.ref p))) := by
  obtain ⟨hf, rfl⟩ := setO_some h
  have hl := free_lt hf
  have hs : i < σ.length := by rw [← R.len]; exact hl
  have own : ∀ (j : Nat) (q : Bool) (es : List D), (r.set i (some (.own false ds)))[j]? = some (some (.own q es)) → (j = i ∧ q = false ∧ es = ds) ∨ (j ≠ i ∧ r[j]? = some (some (.own q es))) := fun j p ds z => by
    rcases set_get z with ⟨e1, e⟩ | ⟨n, e⟩
    · cases e; exact .inl ⟨e1, rfl, rfl⟩
    · exact .inr ⟨n, e⟩
  have sig : ∀ j, j ≠ i → (σ.set i (some (.ref p)))[j]? = σ[j]? := fun j n => List.getElem?_set_ne (fun z => n z.symm)
  have sigi : (σ.set i (some (.ref p)))[i]? = some (some (.ref p)) := List.getElem?_set_self hs
  have out : ∀ (j : Nat) (q : Bool) (es : List D), r[j]? = some (some (.own q es)) → σ[j]? ≠ some (some (.ref p)) := fun j q es z e => by
    obtain ⟨a, us, e1, e2, _⟩ := R.own j q es z
    rw [e1] at e
    cases e
    rw [hp] at e2; cases e2
  refine ⟨⟨by rw [List.length_set, List.length_set]; exact R.len, fun b u e => same_new hp _ _ _ (R.sub _ _ e), fun j d' z => ?_, fun j q es z => ?_, fun j k q es q' es' a z1 z2 e1 e2 => ?_, R.tab.new hp⟩, ⟨Same.refl _, fun b u e _ n => ⟨same_new hp _ _ _ e, ?_, fun z => z⟩, fun j ds z => ?_, fun j z => ?_, fun _ h => same_nw (same_new hp _) h⟩⟩
  · rcases set_get z with ⟨rfl, e⟩ | ⟨n, e⟩
    · cases e
    · rw [sig j n]; exact R.get j d' e
  · rcases own j q es z with ⟨rfl, rfl, rfl⟩ | ⟨n, e⟩
    · exact ⟨p, vs, sigi, upd_same, free_of R.sub hp, rv⟩
    · rw [sig j n]
      obtain ⟨a, us, e1, e2, e3, e4⟩ := R.own j q es e
      exact ⟨a, us, e1, same_new hp _ _ _ e2, e3, e4⟩
  · rcases own j q es z1 with ⟨w1, _⟩ | ⟨n1, w1⟩
    · rcases own k q' es' z2 with ⟨w2, _⟩ | ⟨n2, w2⟩
      · rw [w1, w2]
      · rw [w1, sigi] at e1; cases e1
        rw [sig k n2] at e2
        exact absurd e2 (out k q' es' w2)
    · rcases own k q' es' z2 with ⟨w2, _⟩ | ⟨n2, w2⟩
      · rw [w2, sigi] at e2; cases e2
        rw [sig j n1] at e1
        exact absurd e1 (out j q es w1)
      · rw [sig j n1] at e1
        rw [sig k n2] at e2
        exact R.sep j k q es q' es' a w1 w2 e1 e2
  · rintro ⟨j, q, es, z, e2⟩
    rcases own j q es z with ⟨rfl, _⟩ | ⟨n1, z⟩
    · rw [sigi] at e2; cases e2
      rw [hp] at e; cases e
    · rw [sig j n1] at e2
      exact n ⟨j, q, es, z, e2⟩
  · have n : j ≠ i := fun e => by subst e; exact free_pin hf z
    rw [sig j n]
    exact ⟨⟨ds, by rw [List.getElem?_set_ne (fun e => n e.symm)]; exact z⟩, rfl⟩
  · have n : j ≠ i := fun e => by subst e; exact free_lock hf z
    rw [sig j n]
    exact ⟨by rw [List.getElem?_set_ne (fun e => n e.symm)]; exact z, rfl⟩
/-- one's own list is changed -/
theorem chg_rel (R : Rel Θ K G H r σ) {p : Bool} {ds es : List D} (h : r[i]? = some (some (.own p ds))) {a : Addr} {vs us : List V} (ha : σ[i]? = some (some (.ref a))) (hH : H a = some (.lst vs)) (hG : G a = none) (rv : Reps K G es us) :
    Rel Θ K G (upd H a (.lst us)) (r.set i (some (.own p es))) σ ∧ Fr G H r σ G (upd H a (.lst us)) (r.set i (some (.own p es))) σ := by
  have hl : i < r.length := (List.getElem?_eq_some_iff.mp h).1
  have own : ∀ (j : Nat) (q : Bool) (fs : List D), (r.set i (some (.own p es)))[j]? = some (some (.own q fs)) → (j = i ∧ q = p ∧ fs = es) ∨ (j ≠ i ∧ r[j]? = some (some (.own q fs))) := fun j q fs z => by
    rcases set_get z with ⟨e1, e⟩ | ⟨n, e⟩
    · cases e; exact .inl ⟨e1, rfl, rfl⟩
    · exact .inr ⟨n, e⟩
  have owner : ∀ (j : Nat) (q : Bool) (fs : List D), (r.set i (some (.own p es)))[j]? = some (some (.own q fs)) → ∃ q' fs', r[j]? = some (some (.own q' fs')) := fun j q fs z => by
    rcases own j q fs z with ⟨rfl, _⟩ | ⟨_, e⟩
    · exact ⟨p, ds, h⟩
    · exact ⟨q, fs, e⟩
  refine ⟨⟨by rw [List.length_set]; exact R.len, fun b u e => ?_, fun j d' z => ?_, fun j q fs z => ?_, fun j k q fs q' fs' b z1 z2 e1 e2 => ?_, R.tab.lst hH⟩, ⟨Same.refl _, fun b u e _ n => ⟨?_, ?_, fun z => z⟩, fun j fs z => ?_, fun j z => ?_, fun b h => ?_⟩⟩
  · rw [upd_ne (fun z => by subst z; rw [hG] at e; cases e)]
    exact R.sub _ _ e
  · rcases set_get z with ⟨rfl, e⟩ | ⟨n, e⟩
    · cases e
    · exact R.get j d' e
  · rcases own j q fs z with ⟨rfl, rfl, rfl⟩ | ⟨n, e⟩
    · exact ⟨a, us, ha, upd_same, hG, rv⟩
    · obtain ⟨b, ws, e1, e2, e3, e4⟩ := R.own j q fs e
      refine ⟨b, ws, e1, ?_, e3, e4⟩
      rw [upd_ne]
      · exact e2
      · intro z
        subst z
        exact n (R.sep j i q fs p ds b e h e1 ha)
  · obtain ⟨q1, fs1, z1⟩ := owner j q fs z1
    obtain ⟨q2, fs2, z2⟩ := owner k q' fs' z2
    exact R.sep j k q1 fs1 q2 fs2 b z1 z2 e1 e2
  · rw [upd_ne]
    · exact e
    · intro z
      subst z
      exact n ⟨i, p, ds, h, ha⟩
  · rintro ⟨j, q, fs, z, e2⟩
    obtain ⟨q1, fs1, z1⟩ := owner j q fs z
    exact n ⟨j, q1, fs1, z1, e2⟩
  · refine ⟨?_, rfl⟩
    by_cases e : i = j
    · subst e
      rw [h] at z
      cases z
      exact ⟨es, List.getElem?_set_self hl⟩
    · exact ⟨fs, by rw [List.getElem?_set_ne e]; exact z⟩
  · refine ⟨?_, rfl⟩
    by_cases e : i = j
    · subst e
      rw [h] at z
      cases z
    · rw [List.getElem?_set_ne e]; exact z
  · by_cases e : b = a
    · subst e; cases h _ upd_same
    · exact fun u z => h u (by rw [upd_ne e]; exact z)
/-- one's own list becomes a still one -/
theorem frz_rel (R : Rel Θ K G H r σ) {ds : List D} (h : r[i]? = some (some (.own false ds))) {a : Addr} {vs : List V} (ha : σ[i]? = some (some (.ref a))) (hH : H a = some (.lst vs)) (hG : G a = none) (rv : Reps K G ds vs) :
    Rel Θ K (upd G a (.lst vs)) H (r.set i (some (.d (.lst ds)))) σ ∧ Fr G H r σ (upd G a (.lst vs)) H (r.set i (some (.d (.lst ds)))) σ := by
  have hl : i < r.length := (List.getElem?_eq_some_iff.mp h).1
  have own : ∀ (j : Nat) (q : Bool) (fs : List D), (r.set i (some (.d (.lst ds))))[j]? = some (some (.own q fs)) → j ≠ i ∧ r[j]? = some (some (.own q fs)) := fun j q fs z => by
    rcases set_get z with ⟨e1, e⟩ | ⟨n, e⟩
    · cases e
    · exact ⟨n, e⟩
  have le : Same G (upd G a (.lst vs)) := same_new hG _
  refine ⟨⟨by rw [List.length_set]; exact R.len, fun b u e => ?_, fun j d' z => ?_, fun j q fs z => ?_, fun j k q fs q' fs' b z1 z2 e1 e2 => ?_, R.tab.frz le fun b u e z => by
    by_cases q : b = a
    · subst q; rw [upd_same] at e; cases e; exact ⟨vs, rfl, hH⟩
    · rw [upd_ne q, z] at e; cases e⟩, ⟨le, fun b u e _ n => ⟨e, ?_, fun z => ?_⟩, fun j fs z => ?_, fun j z => ?_, fun _ h => h⟩⟩
  · by_cases z : b = a
    · subst z; rw [upd_same] at e; cases e; exact hH
    · rw [upd_ne z] at e; exact R.sub _ _ e
  · rcases set_get z with ⟨rfl, e⟩ | ⟨n, e⟩
    · cases e
      exact ⟨.ref a, ha, .lst_of upd_same (Reps.mono le _ _ rv)⟩
    · obtain ⟨v, h1, h2⟩ := R.get j d' e
      exact ⟨v, h1, h2.mono le⟩
  · obtain ⟨n, e⟩ := own j q fs z
    obtain ⟨b, ws, e1, e2, e3, e4⟩ := R.own j q fs e
    refine ⟨b, ws, e1, e2, ?_, Reps.mono le _ _ e4⟩
    rw [upd_ne]
    · exact e3
    · intro z
      subst z
      exact n (R.sep j i q fs false ds b e h e1 ha)
  · obtain ⟨n1, z1⟩ := own j q fs z1
    obtain ⟨n2, z2⟩ := own k q' fs' z2
    exact R.sep j k q fs q' fs' b z1 z2 e1 e2
  · rintro ⟨j, q, fs, z, e2⟩
    obtain ⟨n1, z1⟩ := own j q fs z
    exact n ⟨j, q, fs, z1, e2⟩
  · rw [upd_ne]
    · exact z
    · intro z
      subst z
      exact n ⟨i, false, ds, h, ha⟩
  · refine ⟨?_, rfl⟩
    by_cases e : i = j
    · subst e
      rw [h] at z
      cases z
    · exact ⟨fs, by rw [List.getElem?_set_ne e]; exact z⟩
  · refine ⟨?_, rfl⟩
    by_cases e : i = j
    · subst e
      rw [h] at z
      cases z
    · rw [List.getElem?_set_ne e]; exact z
end

/-! ### names that hold a list of one's own -/
section
variable {X : Cx} {e a b c : Expr} {es : List Expr} {pos : Pos} {ma mb mc m : M D} {i : Nat} {ml : M (List D)}
/-- the name as a value: from now on the list stands still -/
def ldF (i : Nat) : M D := fun r => match r[i]? with
  | some (some (.d d)) => some (d, r)
  | some (some (.own false ds)) => some (.lst ds, r.set i (some (.d (.lst ds))))
  | _ => none
theorem se_ldF (h : PE X e (tVar i)) : SE Θ X e (ldF i) := pe_imp h fun σ H Q q => by
  obtain ⟨G, r0, R, d', r', hm, k⟩ := q
  unfold ldF at hm
  split at hm
  · rename_i d hi
    cases hm
    obtain ⟨v, h1, h2⟩ := R.get i _ hi
    exact ⟨v, h1, k G H R (Fr.refl _ _ _ _) v h2⟩
  · rename_i ds hi
    cases hm
    obtain ⟨a, vs, h1, h2, h3, h4⟩ := R.own i _ _ hi
    obtain ⟨R', F'⟩ := frz_rel R hi h1 h2 h3 h4
    exact ⟨.ref a, h1, k _ H R' F' (.ref a) (.lst_of upd_same (Reps.mono F'.le _ _ h4))⟩
  · cases hm
/-- what stands in one's own list -/
def own (i : Nat) : M (List D) := fun r => match r[i]? with
  | some (some (.own _ ds)) => some (ds, r)
  | _ => none
theorem own_some {r r' : Ro} {ds : List D} (h : own i r = some (ds, r')) : (∃ p, r[i]? = some (some (.own p ds))) ∧ r' = r := by
  unfold own at h
  split at h
  · cases h; exact ⟨⟨_, by assumption⟩, rfl⟩
  · cases h
theorem cn_own {K : KP} {G H : Hp} {r : Ro} {σ : L2.St} {β : Type} {k : List D → M β} {P : β → Hp → Hp → Prop} (c : Cn Θ K G H r σ (bd (own i) k r) P) : ∃ p ds, r[i]? = some (some (.own p ds)) ∧ Cn Θ K G H r σ (k ds r) P := by
  obtain ⟨d, r', e, q⟩ := c
  obtain ⟨x, r1, e1, e2⟩ := bd_some e
  obtain ⟨⟨p, hi⟩, rfl⟩ := own_some e1
  exact ⟨p, x, hi, d, r', e2, q⟩
theorem cs_own {K : KP} {G H : Hp} {r : Ro} {σ : L2.St} {k : List D → M Fl} {E : Ends} (c : CS Θ K G H r σ (bd (own i) k r) E) : ∃ p ds, r[i]? = some (some (.own p ds)) ∧ CS Θ K G H r σ (k ds r) E := by
  obtain ⟨d, r', e, q⟩ := c
  obtain ⟨x, r1, e1, e2⟩ := bd_some e
  obtain ⟨⟨p, hi⟩, rfl⟩ := own_some e1
  exact ⟨p, x, hi, d, r', e2, q⟩
/-- x[k] of one's own list -/
theorem se_ixO (ha : PE X a (tVar i)) (hb : SE Θ X b mb) (hs : PlainIx b) : SE Θ X (.Subscript a b pos) (bd (own i) fun _ => bd mb fun y => bd (own i) fun ds => of (ixD (.lst ds) y)) := by
  refine pe_imp (pe_ix ix_seq ha hb hs) fun σ H Q q => ?_
  obtain ⟨G, r0, R, c⟩ := q
  obtain ⟨p0, ds0, hi0, c⟩ := cn_own c
  obtain ⟨a, vs0, h1, h2, h3, h4⟩ := R.own i p0 ds0 hi0
  refine ⟨.ref a, h1, G, r0, R, (cn_bd c).mono fun y G2 H2 ⟨r2, R2, s2, c2⟩ vy ry => ?_⟩
  obtain ⟨p2, ds2, hi2, c2⟩ := cn_own c2
  obtain ⟨a', vs2, g1, g2, g3, g4⟩ := R2.own i p2 ds2 hi2
  rw [h1] at g1
  cases g1
  obtain ⟨z, hz, k⟩ := cn_of R2 c2
  cases y with
  | int n =>
    obtain rfl := ry.int_inv
    obtain ⟨v, hv, rv⟩ := g4.atI (show L2.atI ds2 n = some z from hz)
    exact .inl ⟨a, vs2, n, v, rfl, rfl, SqL.of g2, hv, k G2 H2 (Ext.refl _ _) v rv⟩
  | _ => cases hz
/-- len(x), list(x), a slice, truth of one's own list -/
theorem se_lenO {x : Str} {p : Pos} (ha : PE X a (tVar i)) (hg : Gl X x) (hm : X.mg x = none) (hv : bootBuiltins x = some (.builtin "len")) (hn : x ≠ "__name__" := by decide) (hdb : (x == ("__debug__" : Str)) = false := by decide)
    (he : starEach [a] X.env = (false, eval a X.env) :: starEach [] X.env := by rfl) (hpl : (backTo pos (starEach [] X.env)).any (·.1) = false := by rfl) : SE Θ X (.Call (.Name x p) [a] [] pos) (bd (own i) fun ds => rt (.int ds.length)) := by
  refine pe_imp (pe_callB call_len hg hm hv (pa_cons ha pa_nil he) hn hdb he hpl) fun σ H Q q => ?_
  obtain ⟨G, r0, R, c⟩ := q
  obtain ⟨p0, ds0, hi0, c⟩ := cn_own c
  obtain ⟨a, vs0, h1, h2, h3, h4⟩ := R.own i p0 ds0 hi0
  exact ⟨.ref a, h1, _, _, rfl, .inl ⟨vs0, SqL.of h2, rfl⟩, by rw [h4.length]; exact cn_rt R c G H (Ext.refl _ _) _ .int_of⟩
theorem se_listO {x : Str} {p : Pos} (ha : PE X a (tVar i)) (hg : Gl X x) (hm : X.mg x = none) (hv : bootBuiltins x = some (.type "list")) (hn : x ≠ "__name__" := by decide) (hdb : (x == ("__debug__" : Str)) = false := by decide)
    (he : starEach [a] X.env = (false, eval a X.env) :: starEach [] X.env := by rfl) (hpl : (backTo pos (starEach [] X.env)).any (·.1) = false := by rfl) : SE Θ X (.Call (.Name x p) [a] [] pos) (bd (own i) fun ds => rt (.lst ds)) := by
  refine pe_imp (pe_callTy call_list_of hg hm hv (pa_cons ha pa_nil he) hn hdb he hpl) fun σ H Q q => ?_
  obtain ⟨G, r0, R, c⟩ := q
  obtain ⟨p0, ds0, hi0, c⟩ := cn_own c
  obtain ⟨a, vs0, h1, h2, h3, h4⟩ := R.own i p0 ds0 hi0
  exact ⟨.ref a, h1, _, _, rfl, .inl (SqL.of h2), fin_lst (X := X) R.sub (fun G' H' v ex rv => cn_rt R c G' H' ex v rv) h4⟩
theorem se_tupleO {x : Str} {p : Pos} (ha : PE X a (tVar i)) (hg : Gl X x) (hm : X.mg x = none) (hv : bootBuiltins x = some (.type "tuple")) (hn : x ≠ "__name__" := by decide) (hdb : (x == ("__debug__" : Str)) = false := by decide)
    (he : starEach [a] X.env = (false, eval a X.env) :: starEach [] X.env := by rfl) (hpl : (backTo pos (starEach [] X.env)).any (·.1) = false := by rfl) : SE Θ X (.Call (.Name x p) [a] [] pos) (bd (own i) fun ds => rt (.tup ds)) := by
  refine pe_imp (pe_callTy call_tupleX hg hm hv (pa_cons ha pa_nil he) hn hdb he hpl) fun σ H Q q => ?_
  obtain ⟨G, r0, R, c⟩ := q
  obtain ⟨p0, ds0, hi0, c⟩ := cn_own c
  obtain ⟨a, vs0, h1, h2, h3, h4⟩ := R.own i p0 ds0 hi0
  exact ⟨.ref a, h1, _, _, rfl, .inl ⟨SqL.of h2, fin_tup (X := X) R.sub (fun G' H' v ex rv => cn_rt R c G' H' ex v rv) h4⟩⟩
theorem st_truO (ha : PE X a (tVar i)) (he : ∀ whole, isTrue a X.env whole = (do let v ← whole; standAt a.pos; holding [v] (truthy v)) := by intro _; rfl) : STs Θ X a (bd (own i) fun ds => rt (!ds.isEmpty)) :=
  pt_imp (pt_truth ha he) fun σ H Q q => by
    obtain ⟨G, r0, R, c⟩ := q
    obtain ⟨p0, ds0, hi0, c⟩ := cn_own c
    obtain ⟨a, vs0, h1, h2, h3, h4⟩ := R.own i p0 ds0 hi0
    exact ⟨.ref a, h1, _, .inl ⟨vs0, SqL.of h2, reps_empty h4⟩, cn_rt R c G H (Ext.refl _ _)⟩
/-- x.pop() -/
def popM (i : Nat) : M D := fun r => match r[i]? with
  | some (some (.own p ds)) => match ds.getLast? with
    | some d => some (d, r.set i (some (.own p ds.dropLast)))
    | none => none
  | _ => none
theorem Reps.last {K : KP} {G : Hp} {ds : List D} {vs : List V} {d : D} (r : Reps K G ds vs) (h : ds.getLast? = some d) : ∃ v, vs[vs.length - 1]? = some v ∧ Rep K G d v ∧ Reps K G ds.dropLast vs.dropLast := by
  rw [List.getLast?_eq_getElem?] at h
  obtain ⟨v, h1, h2⟩ := r.get h
  rw [← r.length] at h1
  refine ⟨v, h1, h2, ?_⟩
  rw [List.dropLast_eq_take, List.dropLast_eq_take, r.length]
  exact r.take _
theorem se_pop {apos : Pos} (ho : PE X a (tVar i)) (hbase : attributeBase a "pop" X.env (eval a X.env) = eval a X.env := by rfl) (hline : (apos.endLine == pos.line) = true := by rfl) : SE Θ X (.Call (.Attribute a "pop" apos) [] [] pos) (popM i) := by
  refine pe_imp (pe_bm0 PySem.F.plainAttrs_list PySem.F.slot_list_pop PySem.F.type_list_pop mt_pop ho hbase hline) fun σ H Q q => ?_
  obtain ⟨G, r0, R, d', r', hm, k⟩ := q
  unfold popM at hm
  split at hm
  · rename_i p ds hi
    split at hm
    · rename_i d hd
      cases hm
      obtain ⟨a, vs, h1, h2, h3, h4⟩ := R.own i _ _ hi
      obtain ⟨v, hv, rv, rs⟩ := h4.last hd
      obtain ⟨R', F'⟩ := chg_rel R hi h1 h2 h3 rs
      exact ⟨.ref a, h1, .inl ⟨rfl, _, SqL.of h2⟩, a, vs, v, rfl, rfl, h2, hv, k G _ R' F' v rv⟩
    · cases hm
  · cases hm

/-! ### statements -/
def nxt (f : Ro → Option Ro) : M Fl := fun r => match f r with
  | some r' => some (.nx, r')
  | none => none
theorem nxt_some {f : Ro → Option Ro} {r : Ro} {y : Fl × Ro} (h : nxt f r = some y) : ∃ r', f r = some r' ∧ y = (.nx, r') := by
  unfold nxt at h
  split at h
  · cases h; exact ⟨_, by assumption, rfl⟩
  · cases h
theorem cs_nxt {K : KP} {G H : Hp} {r : Ro} {σ : L2.St} {f : Ro → Option Ro} {E : Ends} (c : CS Θ K G H r σ (nxt f r) E) : ∃ r', f r = some r' ∧ ∀ G' H' σ', Rel Θ K G' H' r' σ' → Fr G H r σ G' H' r' σ' → E.nx σ' H' := by
  obtain ⟨fl, r', e, k⟩ := c
  obtain ⟨r1, e1, e2⟩ := nxt_some e
  cases e2
  exact ⟨r', e1, fun G' H' σ' R F => k G' H' σ' R F⟩
/-- x.append(e) -/
def appM (i : Nat) (d : D) : Ro → Option Ro := fun r => match r[i]? with
  | some (some (.own p ds)) => if ds.length < sizeLine then some (r.set i (some (.own p (ds ++ [d])))) else none
  | _ => none
theorem ss_app {apos ppos : Pos} (ho : PE X a (tVar i)) (he : SE Θ X e m) (hbase : attributeBase a "append" X.env (eval a X.env) = eval a X.env := by rfl)
    (hfew : ((backTo ppos (starEach [e] X.env)).all (fun x => !x.1) && (backToKw ppos (keywordEach [] X.env)).all (fun x => x.1.isSome)
      && decide (([e] : List Expr).length + ([] : List Keyword).length + (if ([] : List Keyword).isEmpty then 0 else 1) < 30)) = true := by rfl)
    (hline : (apos.endLine == ppos.line) = true := by rfl) (hs : starEach [e] X.env = (false, eval e X.env) :: starEach [] X.env := by rfl) (hplain : (backTo ppos (starEach [] X.env)).any (·.1) = false := by rfl)
    (hsw : swapsWith (.Call (.Attribute a "append" apos) [e] [] ppos) none pos.line X.env = pure false := by rfl) :
    SS Θ X (.Expr (.Call (.Attribute a "append" apos) [e] [] ppos) pos) (bd (own i) fun _ => bd m fun d => nxt (appM i d)) := by
  refine ps_imp (ps_expr (pe_bm PySem.F.plainAttrs_list PySem.F.slot_list_append PySem.F.type_list_append mt_append ho (pa_cons he pa_nil hs) hbase hfew hline hs hplain) hsw) fun σ H E q => ?_
  obtain ⟨G, r0, R, c⟩ := q
  obtain ⟨p0, ds0, hi0, c⟩ := cs_own c
  obtain ⟨a, vs0, h1, h2, h3, h4⟩ := R.own i p0 ds0 hi0
  refine ⟨.ref a, h1, .inl ⟨rfl, _, SqL.of h2⟩, G, r0, R, (cs_bd c).mono fun d G2 H2 ⟨r2, R2, s2, c2⟩ v rv => ?_⟩
  obtain ⟨r3, e3, k⟩ := cs_nxt c2
  unfold appM at e3
  split at e3
  · rename_i p ds hi
    split at e3
    · rename_i hc
      cases e3
      obtain ⟨a', vs, g1, g2, g3, g4⟩ := R2.own i _ _ hi
      rw [h1] at g1
      cases g1
      obtain ⟨R', F'⟩ := chg_rel R2 hi h1 g2 g3 (g4.snoc rv)
      exact ⟨a, vs, v, rfl, rfl, g2, by rw [g4.length]; exact hc, k G2 _ σ R' F'⟩
    · cases e3
  · cases e3
/-- x.extend(e) -/
def extM (i : Nat) (d : D) : Ro → Option Ro := fun r => match r[i]?, d with
  | some (some (.own p ds)), .lst es => if ds.length + es.length ≤ sizeLine then some (r.set i (some (.own p (ds ++ es)))) else none
  | _, _ => none
end
end Pk

namespace Pk
open PySem PySem.Spec PyProof.Rows L2
section
variable {X : Cx} {e a b c : Expr} {es : List Expr} {pos : Pos} {ma mb mc m : M D} {i : Nat} {ml : M (List D)}
def rExtend' : V → List V → Hp → VK → Prop := fun x vs H Q => ∃ l b xs zs, x = .ref l ∧ vs = [.ref b] ∧ H l = some (.lst xs) ∧ Rd H b (.lst zs) ∧ xs.length + zs.length ≤ sizeLine ∧ Q .non (upd H l (.lst (xs ++ zs)))
theorem mt_extend' : MtM X "list.extend" rExtend' := by
  intro pins s σ H x vs v us Q I rx rv h
  obtain ⟨l, b, xs, zs, rfl, rfl, hH, hB, hz, q⟩ := h
  cases rx
  obtain ⟨u, rfl, ru⟩ := rv.one
  cases ru
  obtain ⟨z, its, n, r, hl, e⟩ := I.lstM hH
  obtain ⟨z2, its2, n2, r2, e2⟩ := hB.ok I.hok
  have hl2 := r2.length
  have hsz : its.toArray.size + its2.toArray.size ≤ sizeLine := by rw [List.size_toArray, List.size_toArray]; omega
  have hlong : ¬ (!its.toArray.isEmpty && Builtin.List.listTooLong (its.toArray.size + its2.toArray.size)) = true := by
    rw [notLongL hsz, Bool.and_false]
    exact Bool.false_ne_true
  refine call_meets F.slot_list_extend ⟨_, e, rfl⟩ F.entry_list_extend (F.args_list_extend_2 _ _)
    (AutoSeq1.list_extend_list_list_0 l its.toArray n b its2.toArray n2 hlong (by rw [List.size_toArray]; omega) (by omega)) ⟨e, e2, ?_⟩
  refine ⟨.non, _, I.lset (its' := its ++ its2) hH e (by simp) (r.append r2) ?_, rfl, q⟩
  rw [List.length_append]
  omega
theorem extM_some {d : D} {r r' : Ro} (h : extM i d r = some r') : ∃ p ds es, r[i]? = some (some (.own p ds)) ∧ d = .lst es ∧ ds.length + es.length ≤ sizeLine ∧ r' = r.set i (some (.own p (ds ++ es))) := by
  unfold extM at h
  split at h
  · rename_i p ds es hi
    split at h
    · cases h; exact ⟨p, ds, es, hi, rfl, by assumption, rfl⟩
    · cases h
  · cases h
theorem ss_ext {apos ppos : Pos} (ho : PE X a (tVar i)) (he : SE Θ X e m) (hbase : attributeBase a "extend" X.env (eval a X.env) = eval a X.env := by rfl)
    (hfew : ((backTo ppos (starEach [e] X.env)).all (fun x => !x.1) && (backToKw ppos (keywordEach [] X.env)).all (fun x => x.1.isSome)
      && decide (([e] : List Expr).length + ([] : List Keyword).length + (if ([] : List Keyword).isEmpty then 0 else 1) < 30)) = true := by rfl)
    (hline : (apos.endLine == ppos.line) = true := by rfl) (hs : starEach [e] X.env = (false, eval e X.env) :: starEach [] X.env := by rfl) (hplain : (backTo ppos (starEach [] X.env)).any (·.1) = false := by rfl)
    (hsw : swapsWith (.Call (.Attribute a "extend" apos) [e] [] ppos) none pos.line X.env = pure false := by rfl) :
    SS Θ X (.Expr (.Call (.Attribute a "extend" apos) [e] [] ppos) pos) (bd (own i) fun _ => bd m fun d => nxt (extM i d)) := by
  refine ps_imp (ps_expr (pe_bm PySem.F.plainAttrs_list PySem.F.slot_list_extend PySem.F.type_list_extend mt_extend' ho (pa_cons he pa_nil hs) hbase hfew hline hs hplain) hsw) fun σ H E q => ?_
  obtain ⟨G, r0, R, c⟩ := q
  obtain ⟨p0, ds0, hi0, c⟩ := cs_own c
  obtain ⟨a, vs0, h1, h2, h3, h4⟩ := R.own i p0 ds0 hi0
  refine ⟨.ref a, h1, .inl ⟨rfl, _, SqL.of h2⟩, G, r0, R, (cs_bd c).mono fun d G2 H2 ⟨r2, R2, s2, c2⟩ v rv => ?_⟩
  obtain ⟨r3, e3, k⟩ := cs_nxt c2
  obtain ⟨p, ds, es, hi, rfl, hc, rfl⟩ := extM_some e3
  obtain ⟨a', vs, g1, g2, g3, g4⟩ := R2.own i _ _ hi
  rw [h1] at g1
  cases g1
  obtain ⟨b, us, rfl, q, rs⟩ := rv.lst_inv
  obtain ⟨R', F'⟩ := chg_rel R2 hi h1 g2 g3 (g4.app rs)
  exact ⟨a, b, vs, us, rfl, rfl, g2, rd_mono R2.sub q, by rw [g4.length, rs.length]; exact hc, k G2 _ σ R' F'⟩

/-! ### targets -/
def rdG (Θ : List (Addr × Str)) (K : KP) (f : D → Ro → Option Ro) : TG := fun v σ H Q => ∃ G r d r', Rel Θ K G H r σ ∧ Rep K G d v ∧ f d r = some r' ∧ ∀ σ', Rel Θ K G H r' σ' → Fr G H r σ G H r' σ' → Q σ' H
def rdGs (Θ : List (Addr × Str)) (K : KP) (f : List D → Ro → Option Ro) : TGs := fun vs σ H Q => ∃ G r ds r', Rel Θ K G H r σ ∧ Reps K G ds vs ∧ f ds r = some r' ∧ ∀ σ', Rel Θ K G H r' σ' → Fr G H r σ G H r' σ' → Q σ' H
abbrev SG (Θ : List (Addr × Str)) (X : Cx) (tg : Expr) (f : D → Ro → Option Ro) : Prop := PG X tg (rdG Θ X.kp f)
abbrev SGs (Θ : List (Addr × Str)) (X : Cx) (tgs : List Expr) (f : List D → Ro → Option Ro) : Prop := PGs X tgs (rdGs Θ X.kp f)
theorem pg_imp {tg : Expr} {t t' : TG} (h : PG X tg t) (i : ∀ v σ H Q, t' v σ H Q → t v σ H Q) : PG X tg t' := ⟨fun pins s σ H v u Q I r q => h.run pins s σ H v u Q I r (i _ _ _ _ q)⟩
theorem pgs_imp {tgs : List Expr} {t t' : TGs} (h : PGs X tgs t) (i : ∀ v σ H Q, t' v σ H Q → t v σ H Q) : PGs X tgs t' := ⟨fun pins s σ H v u Q I r q => h.run pins s σ H v u Q I r (i _ _ _ _ q)⟩
theorem sg_name {tg : Expr} (h : PG X tg (gName i)) : SG Θ X tg (setD i) := pg_imp h fun v σ H Q q => by
  obtain ⟨G, r, d, r', R, rv, e, k⟩ := q
  obtain ⟨R', F'⟩ := setD_rel R e rv
  exact k _ R' F'
def unNil : List D → Ro → Option Ro
  | [], r => some r
  | _ :: _, _ => none
def unCons (f : D → Ro → Option Ro) (g : List D → Ro → Option Ro) : List D → Ro → Option Ro
  | d :: ds, r => match f d r with
    | some r1 => g ds r1
    | none => none
  | [], _ => none
theorem sgs_nil : SGs Θ X [] unNil := pgs_imp pgs_nil fun vs σ H Q q => by
  obtain ⟨G, r, ds, r', R, rv, e, k⟩ := q
  cases ds with
  | nil =>
    cases e
    exact ⟨rv.nil_inv, k σ R (Fr.refl _ _ _ _)⟩
  | cons d ds => cases e
theorem sgs_cons {tg : Expr} {tgs : List Expr} {f : D → Ro → Option Ro} {g : List D → Ro → Option Ro} (h1 : SG Θ X tg f) (h2 : SGs Θ X tgs g) (hs : (assignEach (tg :: tgs) X.env).map (·.2) = assign tg X.env :: (assignEach tgs X.env).map (·.2) := by rfl) :
    SGs Θ X (tg :: tgs) (unCons f g) := pgs_imp (pgs_cons h1 h2 hs) fun vs σ H Q q => by
  obtain ⟨G, r, ds, r', R, rv, e, k⟩ := q
  cases ds with
  | nil => cases e
  | cons d ds =>
    simp only [unCons] at e
    cases e1 : f d r with
    | none => rw [e1] at e; cases e
    | some r1 =>
      rw [e1] at e
      obtain ⟨v, us, rfl, q1, q2⟩ := rv.cons_inv
      refine ⟨v, us, rfl, G, r, d, r1, R, q1, e1, fun σ1 R1 F1 => ⟨G, r1, ds, r', R1, q2, e, fun σ2 R2 F2 => k σ2 R2 (F1.trans F2)⟩⟩
def tupF (n : Nat) (g : List D → Ro → Option Ro) : D → Ro → Option Ro
  | .tup ds, r => if ds.length = n then g ds r else none
  | .tq ds, r => if ds.length = n then g ds r else none
  | _, _ => none
theorem sg_tup {tgs : List Expr} {k n : Nat} {g : List D → Ro → Option Ro} (hc : X.calm = true) (h : SGs Θ X tgs g) (hn : (assignEach tgs X.env).length = n := by rfl) (hst : (assignEach tgs X.env).findIdx? (·.1) = none := by rfl) : SG Θ X (.Tuple tgs k pos) (tupF n g) :=
  pg_imp (pg_tup hc h hn hst) fun v σ H Q q => by
    obtain ⟨G, r, d, r', R, rv, e, k⟩ := q
    cases d with
    | tup ds =>
      simp only [tupF] at e
      split at e
      · rename_i hl
        obtain ⟨a, vs, rfl, q, rs⟩ := rv.tup_inv
        exact ⟨a, vs, rfl, sqT_mono R.sub q, by rw [rs.length]; exact hl, G, r, ds, r', R, rs, e, k⟩
      · cases e
    | tq ds =>
      simp only [tupF] at e
      split at e
      · rename_i hl
        obtain ⟨a, vs, rfl, q, rs⟩ := rv.tq_inv
        exact ⟨a, vs, rfl, sqT_mono R.sub q, by rw [rs.length]; exact hl, G, r, ds, r', R, rs, e, k⟩
      · cases e
    | _ => cases e
theorem asg_read {f : D → Ro → Option Ro} {g : TG} (hg : ∀ v σ H Q, rdG Θ X.kp f v σ H Q → g v σ H Q) {σ : L2.St} {H : Hp} {E : Ends} (q : rdS Θ X.kp (bd m fun d => nxt (f d)) E σ H) : tAsg (rdE Θ X.kp m) g E σ H := by
  obtain ⟨G, r0, R, c⟩ := q
  refine ⟨G, r0, R, (cs_bd c).mono fun d G2 H2 ⟨r2, R2, s2, c2⟩ v rv => ?_⟩
  obtain ⟨r3, e3, k⟩ := cs_nxt c2
  exact hg _ _ _ _ ⟨G2, r2, d, r3, R2, rv, e3, fun σ' R' F' => k G2 H2 σ' R' F'⟩
theorem nm_read (v : V) (σ : L2.St) (H : Hp) (Q : L2.St → Hp → Prop) (q : rdG Θ X.kp (setD i) v σ H Q) : gName i v σ H Q := by
  obtain ⟨G, r, d, r', R, rv, e, k⟩ := q
  obtain ⟨R', F'⟩ := setD_rel R e rv
  exact k _ R' F'
theorem ss_set {x : Str} {pos' : Pos} (hN : X.N.Nodup) (hi : X.N[i]? = some x) (hx : Loc X.env.scope x) (he : SE Θ X e m) (hs : swapsWith e (some (.Name x pos')) pos.line X.env = pure false := by rfl) (hf : X.fn x = true ∨ X.env.scope.names.lookup x = some .local := by first | exact .inl rfl | exact .inr rfl | assumption) :
    SS Θ X (.Assign [.Name x pos'] e pos) (bd m fun d => nxt (setD i d)) := ps_imp (ps_set hN hi hx he hs hf) fun σ H E q => asg_read nm_read q
theorem ss_asg {tg : Expr} {f : D → Ro → Option Ro} (he : SE Θ X e m) (hg : SG Θ X tg f) (hs : swapsWithSole [tg] e pos.line X.env = pure false := by rfl) (hw : swappedStores [tg] e X.env = pure none := by rfl)
    (h1 : (assignEach [tg] X.env).map (·.2) = [assign tg X.env] := by rfl) : SS Θ X (.Assign [tg] e pos) (bd m fun d => nxt (f d)) := ps_imp (ps_asg he hg hs hw h1) fun σ H E q => asg_read (fun _ _ _ _ z => z) q
/-- x = [..]: a list of one's own -/
theorem ss_setO {x : Str} {pos' lpos : Pos} (hN : X.N.Nodup) (hi : X.N[i]? = some x) (hx : Loc X.env.scope x) (he : SA Θ X es ml) (hs : swapsWith (.List es lpos) (some (.Name x pos')) pos.line X.env = pure false := by rfl) (hf : X.fn x = true ∨ X.env.scope.names.lookup x = some .local := by first | exact .inl rfl | exact .inr rfl | assumption) :
    SS Θ X (.Assign [.Name x pos'] (.List es lpos) pos) (bd ml fun ds => if ds.length ≤ sizeLine then nxt (setO i ds) else fun _ => none) := ps_imp (ps_set hN hi hx (pe_lst he) hs hf) fun σ H E q => by
  obtain ⟨G, r0, R, c⟩ := q
  refine ⟨G, r0, R, (cs_bd c).mono fun ds G2 H2 ⟨r2, R2, s2, c2⟩ vs rs => ?_⟩
  split at c2
  · rename_i hc
    obtain ⟨r3, e3, k⟩ := cs_nxt c2
    refine ⟨by rw [rs.length]; exact hc, fun p hp => ?_⟩
    obtain ⟨R', F'⟩ := setO_rel R2 e3 rs hp
    exact k _ _ _ R' F'
  · obtain ⟨_, _, z, _⟩ := c2
    cases z
/-- x = list(e): a list of one's own -/
theorem ss_setOL {x y : Str} {pos' lpos p : Pos} (hN : X.N.Nodup) (hi : X.N[i]? = some x) (hx : Loc X.env.scope x) (he : SE Θ X e m) (hg : Gl X y) (hm : X.mg y = none) (hv : bootBuiltins y = some (.type "list")) (hn : y ≠ "__name__" := by decide) (hdb : (y == ("__debug__" : Str)) = false := by decide)
    (he1 : starEach [e] X.env = (false, eval e X.env) :: starEach [] X.env := by rfl) (hpl : (backTo lpos (starEach [] X.env)).any (·.1) = false := by rfl)
    (hs : swapsWith (.Call (.Name y p) [e] [] lpos) (some (.Name x pos')) pos.line X.env = pure false := by rfl) (hf : X.fn x = true ∨ X.env.scope.names.lookup x = some .local := by first | exact .inl rfl | exact .inr rfl | assumption) :
    SS Θ X (.Assign [.Name x pos'] (.Call (.Name y p) [e] [] lpos) pos) (bd m fun d => match d with | .lst ds => nxt (setO i ds) | .tup ds => nxt (setO i ds) | _ => fun _ => none) := ps_imp (ps_set hN hi hx (pe_callTy call_list_of hg hm hv (pa_cons he pa_nil he1) hn hdb he1 hpl) hs hf) fun σ H E q => by
  obtain ⟨G, r0, R, c⟩ := q
  refine ⟨G, r0, R, (cs_bd c).mono fun d G2 H2 ⟨r2, R2, s2, c2⟩ v rv => ?_⟩
  cases d with
  | lst ds =>
    obtain ⟨r3, e3, k⟩ := cs_nxt c2
    obtain ⟨a, vs, rfl, q, rs⟩ := rv.lst_inv
    refine ⟨a, vs, rfl, .inl (.inl (rd_mono R2.sub q)), fun p hp => ?_⟩
    obtain ⟨R', F'⟩ := setO_rel R2 e3 rs hp
    exact k _ _ _ R' F'
  | tup ds =>
    obtain ⟨r3, e3, k⟩ := cs_nxt c2
    obtain ⟨a, vs, rfl, q, rs⟩ := rv.tup_inv
    refine ⟨a, vs, rfl, .inr (sqT_mono R2.sub q), fun p hp => ?_⟩
    obtain ⟨R', F'⟩ := setO_rel R2 e3 rs hp
    exact k _ _ _ R' F'
  | _ =>
    obtain ⟨_, _, z, _⟩ := c2
    cases z
/-- x[k] = e of one's own list -/
def stM (i : Nat) (k d : D) : Ro → Option Ro := fun r => match r[i]?, k with
  | some (some (.own p ds)), .int n => match ixN ds.length n with
    | some j => some (r.set i (some (.own p (ds.set j d))))
    | none => none
  | _, _ => none
theorem stM_some {k d : D} {r r' : Ro} (h : stM i k d r = some r') : ∃ p ds n j, r[i]? = some (some (.own p ds)) ∧ k = .int n ∧ ixN ds.length n = some j ∧ r' = r.set i (some (.own p (ds.set j d))) := by
  unfold stM at h
  split at h
  · rename_i p ds n hi
    split at h
    · cases h; exact ⟨p, ds, n, _, hi, rfl, by assumption, rfl⟩
    · cases h
  · cases h
theorem ss_st {spos : Pos} (ho : PE X a (tVar i)) (hb : SE Θ X b mb) (he : SE Θ X e m)
    (ha : ∀ v, assign (.Subscript a b spos) X.env v = (do
      let ov ← holding [v] (eval a X.env)
      let iv ← holding [v, ov] (eval b X.env)
      standAt spos
      holding [v, ov, iv] (setItem ov iv v)
      release [v, ov, iv] []) := by intro _; rfl)
    (hs : swapsWithSole [.Subscript a b spos] e pos.line X.env = pure false := by rfl) (hw : swappedStores [.Subscript a b spos] e X.env = pure none := by rfl)
    (h1 : (assignEach [.Subscript a b spos] X.env).map (·.2) = [assign (.Subscript a b spos) X.env] := by rfl) :
    SS Θ X (.Assign [.Subscript a b spos] e pos) (bd m fun d => bd (own i) fun _ => bd mb fun k => nxt (stM i k d)) := by
  refine ps_imp (ps_asg he (pg_sub ho hb set_list ha) hs hw h1) fun σ H E q => ?_
  obtain ⟨G, r0, R, c⟩ := q
  refine ⟨G, r0, R, (cs_bd c).mono fun d G1 H1 ⟨r1, R1, s1, c1⟩ v rv => ?_⟩
  obtain ⟨p0, ds0, hi0, c1⟩ := cs_own c1
  obtain ⟨a, vs0, h1, h2, h3, h4⟩ := R1.own i p0 ds0 hi0
  refine ⟨.ref a, h1, G1, r1, R1, (cs_bd c1).mono fun k G2 H2 ⟨r2, R2, s2, c2⟩ vk rk => ?_⟩
  obtain ⟨r3, e3, kk⟩ := cs_nxt c2
  obtain ⟨p, ds, n, j, hi, rfl, hj, rfl⟩ := stM_some e3
  obtain ⟨a', vs, g1, g2, g3, g4⟩ := R2.own i _ _ hi
  rw [h1] at g1
  cases g1
  obtain rfl := rk.int_inv
  obtain ⟨R', F'⟩ := chg_rel R2 hi h1 g2 g3 (g4.set j (Rep.mono s2 _ _ rv))
  exact ⟨a, vs, n, j, rfl, rfl, g2, by rw [g4.length]; exact hj, kk G2 _ σ R' F'⟩
/-- x op= e -/
def augM (i : Nat) (m : M D) (g : D → D → Option D) : M Fl := bd (ld i) fun x => bd m fun y => bd (of (g x y)) fun z => nxt (setD i z)
theorem ss_aug {x : Str} {op : Operator} {g : D → D → Option D} {pos' : Pos} (hN : X.N.Nodup) (hi : X.N[i]? = some x) (hx : Loc X.env.scope x) (he : SE Θ X e m) (ho : OpG X (inplaceOp op) g) (hf : X.fn x = true ∨ X.env.scope.names.lookup x = some .local := by first | exact .inl rfl | exact .inr rfl | assumption) :
    SS Θ X (.AugAssign (.Name x pos') op e pos) (augM i m g) := by
  obtain ⟨t, o, hg⟩ := ho
  refine ps_imp (ps_aug (ti := t) hN hi hx he (fun pins s σ H x y v u Q I r1 r2 q => o pins s σ H x y v u Q I r1 r2 q) hf) fun σ H E q => ?_
  obtain ⟨G, r0, R, c⟩ := q
  obtain ⟨d0, r1, e1, c1⟩ := cs_bd c
  obtain ⟨hi0, rfl⟩ := ld_some e1
  obtain ⟨v, hv, rv⟩ := R.get i _ hi0
  obtain ⟨fl, r', e, q⟩ := c
  obtain ⟨x0, r1', e1', e2'⟩ := bd_some e
  rw [e1] at e1'
  cases e1'
  have c2 : CS Θ X.kp G H r1 σ (bd m (fun y => bd (of (g d0 y)) fun z => nxt (setD i z)) r1) E := ⟨fl, r', e2', q⟩
  refine ⟨v, hv, G, r1, R, (cs_bd c2).mono fun y G2 H2 ⟨r2, R2, s2, c2⟩ vy ry => ?_⟩
  obtain ⟨z, r3, e3, q3⟩ := cs_bd c2
  obtain ⟨hz, rfl⟩ := of_some e3
  refine hg d0 y z hz G2 H2 v vy _ R2.sub (Rep.mono s2 _ _ rv) ry fun G3 H3 w ex rw' => ?_
  obtain ⟨r4, R4, s4, c4⟩ := q3 G3 H3 (ex.rel R2) (ex.fr _ _)
  obtain ⟨fl2, r5, e5, q5⟩ := c2
  obtain ⟨z6, r6, e6, e7⟩ := bd_some e5
  obtain ⟨hz6, rfl⟩ := of_some e6
  rw [hz] at hz6
  cases hz6
  obtain ⟨r8, e8, e9⟩ := nxt_some e7
  cases e9
  obtain ⟨R', F'⟩ := setD_rel (ex.rel R2) e8 rw'
  exact q5 G3 H3 _ R' ((ex.fr _ _).trans F')
theorem opg_iadd : OpG X (inplaceOp .Add) (onI (fun _ _ => true) fun i j => .int (i + j)) := opg_int0 iop_add fun _ _ _ => .int_of
theorem opg_isub : OpG X (inplaceOp .Sub) (onI (fun _ _ => true) fun i j => .int (i - j)) := opg_int0 iop_sub fun _ _ _ => .int_of

/-! ### blocks -/
def nilM : M Fl := fun r => some (.nx, r)
def seqM (m n : M Fl) : M Fl := fun r => match m r with
  | some (.nx, r1) => n r1
  | x => x
theorem sb_nil : SB Θ X [] nilM := pss_imp pss_nil fun σ H E q => by
  obtain ⟨G, r, R, f, r', e, k⟩ := q
  cases e
  exact k G H σ R (Fr.refl _ _ _ _)
theorem cs_seq {K : KP} {G H : Hp} {r : Ro} {σ : L2.St} {m n : M Fl} {E : Ends} (c : CS Θ K G H r σ (seqM m n r) E) : CS Θ K G H r σ (m r) { E with nx := rdS Θ K n E } := by
  obtain ⟨f, r', e, k⟩ := c
  unfold seqM at e
  split at e
  · rename_i r1 e1
    exact ⟨.nx, r1, e1, fun G' H' σ' R F => ⟨G', r1, R, f, r', e, fun G2 H2 σ2 R2 F2 => (k G2 H2 σ2 R2 (F.trans F2)).shift F.mono⟩⟩
  · rename_i hx
    refine ⟨f, r', e, fun G' H' σ' R F => ?_⟩
    cases f with
    | nx => exact absurd e (hx r')
    | rt d => exact k G' H' σ' R F
    | bk => exact k G' H' σ' R F
    | ct => exact k G' H' σ' R F
    | rf ds => exact k G' H' σ' R F
theorem sb_cons {st : Stmt} {sts : List Stmt} {m n : M Fl} (h1 : SS Θ X st m) (h2 : SB Θ X sts n) : SB Θ X (st :: sts) (seqM m n) := pss_imp (pss_cons h1 h2) fun σ H E q => by
  obtain ⟨G, r, R, c⟩ := q
  exact ⟨G, r, R, cs_seq c⟩
theorem sb_one {st : Stmt} {m : M Fl} (h1 : SS Θ X st m) : SB Θ X [st] m := pss_one h1
theorem ss_pass : SS Θ X (.Pass pos) nilM := ps_imp ps_pass fun σ H E q => by
  obtain ⟨G, r, R, f, r', e, k⟩ := q
  cases e
  exact k G H σ R (Fr.refl _ _ _ _)
theorem ss_break : SS Θ X (.Break pos) (fun r => some (.bk, r)) := ps_imp ps_break fun σ H E q => by
  obtain ⟨G, r, R, f, r', e, k⟩ := q
  cases e
  exact k G H σ R (Fr.refl _ _ _ _)
theorem ss_cont : SS Θ X (.Continue pos) (fun r => some (.ct, r)) := ps_imp ps_continue fun σ H E q => by
  obtain ⟨G, r, R, f, r', e, k⟩ := q
  cases e
  exact k G H σ R (Fr.refl _ _ _ _)
def retM (m : M D) : M Fl := bd m fun d r => some (.rt d, r)
theorem ss_ret (he : SE Θ X e m) : SS Θ X (.Return (some e) pos) (retM m) := ps_imp (ps_ret he) fun σ H E q => by
  obtain ⟨G, r, R, c⟩ := q
  refine ⟨G, r, R, (cs_bd c).mono fun d G2 H2 ⟨r2, R2, s2, c2⟩ v rv => ?_⟩
  obtain ⟨f, r', e, k⟩ := c2
  cases e
  exact k G2 H2 σ R2 (Fr.refl _ _ _ _) v rv
theorem ss_retN : SS Θ X (.Return none pos) (fun r => some (.rt .non, r)) := ps_imp ps_retN fun σ H E q => by
  obtain ⟨G, r, R, f, r', e, k⟩ := q
  cases e
  exact k G H σ R (Fr.refl _ _ _ _) _ .non_of
theorem ss_if {t : M Bool} {x y : List Stmt} {mx my : M Fl} (hc : STs Θ X c t) (hx : SB Θ X x mx) (hy : SB Θ X y my) : SS Θ X (.If c x y pos) (ifM t mx my) := ps_imp (ps_if hc hx hy) fun σ H E q => by
  obtain ⟨G, r, R, c⟩ := q
  refine ⟨G, r, R, (cs_bd c).mono fun d G2 H2 ⟨r2, R2, s2, c2⟩ => ?_⟩
  cases d with
  | true => exact ⟨G2, r2, R2, c2⟩
  | false => exact ⟨G2, r2, R2, c2⟩
/-- an expression whose value is dropped -/
theorem ss_expr (he : SE Θ X e m) (hs : swapsWith e none pos.line X.env = pure false := by rfl) : SS Θ X (.Expr e pos) (bd m fun _ => nilM) := ps_imp (ps_expr he hs) fun σ H E q => by
  obtain ⟨G, r, R, c⟩ := q
  refine ⟨G, r, R, (cs_bd c).mono fun d G2 H2 ⟨r2, R2, s2, c2⟩ v rv => ?_⟩
  obtain ⟨f, r', e, k⟩ := c2
  cases e
  exact k G2 H2 σ R2 (Fr.refl _ _ _ _)

/-! ### loops -/
/-- a loop's body has come to its end: k is the next turn -/
def aft (k : M Fl) : Option (Fl × Ro) → Option (Fl × Ro)
  | some (.nx, r) => k r
  | some (.ct, r) => k r
  | some (.bk, r) => some (.nx, r)
  | x => x
theorem cs_aft {K : KP} {G H : Hp} {r : Ro} {σ : L2.St} {o : Option (Fl × Ro)} {k : M Fl} {E : Ends} (c : CS Θ K G H r σ (aft k o) E) :
    CS Θ K G H r σ o { nx := fun σ' H' => ∃ G' r', Rel Θ K G' H' r' σ' ∧ Fr G H r σ G' H' r' σ' ∧ CS Θ K G' H' r' σ' (k r') E, ct := fun σ' H' => ∃ G' r', Rel Θ K G' H' r' σ' ∧ Fr G H r σ G' H' r' σ' ∧ CS Θ K G' H' r' σ' (k r') E, bk := E.nx, rt := E.rt } := by
  obtain ⟨f, r', e, q⟩ := c
  match o, e with
  | some (.nx, r1), e => exact ⟨.nx, r1, rfl, fun G' H' σ' R F => ⟨G', r1, R, F, f, r', e, fun G2 H2 σ2 R2 F2 => (q G2 H2 σ2 R2 (F.trans F2)).shift F.mono⟩⟩
  | some (.ct, r1), e => exact ⟨.ct, r1, rfl, fun G' H' σ' R F => ⟨G', r1, R, F, f, r', e, fun G2 H2 σ2 R2 F2 => (q G2 H2 σ2 R2 (F.trans F2)).shift F.mono⟩⟩
  | some (.bk, r1), e =>
    cases e
    exact ⟨.bk, _, rfl, fun G' H' σ' R F => q G' H' σ' R F⟩
  | some (.rt d, r1), e =>
    cases e
    exact ⟨.rt d, _, rfl, fun G' H' σ' R F => q G' H' σ' R F⟩
  | some (.rf d, r1), e =>
    cases e
    exact ⟨.rf d, _, rfl, fun G' H' σ' R F => q G' H' σ' R F⟩
def whileM (c : M Bool) (b : M Fl) : Nat → M Fl
  | 0 => fun _ => none
  | n + 1 => fun r => match c r with
    | some (true, r1) => aft (whileM c b n) (b r1)
    | some (false, r1) => some (.nx, r1)
    | none => none
theorem ss_while {t : M Bool} {body : List Stmt} {mb : M Fl} (n : Nat) (hp : PassesOwn (model X.prog X.w) X.A X.env X.xe) (hc : STs Θ X c t) (hb : SB Θ X body mb) : SS Θ X (.While c body [] pos) (whileM t mb n) :=
  ps_imp (ps_while hp hc hb) fun σ H E q => by
    obtain ⟨G, r, R, c⟩ := q
    refine ⟨fun m σ H => ∃ G r, Rel Θ X.kp G H r σ ∧ CS Θ X.kp G H r σ (whileM t mb m r) E, ⟨n, G, r, R, c⟩, ?_⟩
    rintro m σ1 H1 ⟨G1, r1, R1, c1⟩
    cases m with
    | zero =>
      obtain ⟨_, _, z, _⟩ := c1
      cases z
    | succ m =>
      refine ⟨G1, r1, R1, ?_⟩
      obtain ⟨f, r', e, k⟩ := c1
      simp only [whileM] at e
      split at e
      · rename_i r2 e2
        refine ⟨true, r2, e2, fun G2 H2 R2 F2 => ?_⟩
        dsimp only
        rw [if_pos rfl]
        have c3 : CS Θ X.kp G2 H2 r2 σ1 (aft (whileM t mb m) (mb r2)) E := ⟨f, r', e, fun G3 H3 σ3 R3 F3 => (k G3 H3 σ3 R3 (F2.trans F3)).shift F2.mono⟩
        refine ⟨fun σ' H' => ∃ G' r', Rel Θ X.kp G' H' r' σ' ∧ Fr G2 H2 r2 σ1 G' H' r' σ' ∧ CS Θ X.kp G' H' r' σ' (whileM t mb m r') E, fun σ' H' ⟨G', r', R', _, c'⟩ => ⟨m, Nat.lt_succ_self m, G', r', R', c'⟩, G2, r2, R2, cs_aft c3⟩
      · rename_i r2 e2
        cases e
        refine ⟨false, _, e2, fun G2 H2 R2 F2 => ?_⟩
        dsimp only
        rw [if_neg Bool.false_ne_true]
        exact k G2 H2 σ1 R2 F2
      · cases e
def forM (f : D → Ro → Option Ro) (b : M Fl) : List D → M Fl
  | [] => fun r => some (.nx, r)
  | d :: ds => fun r => match f d r with
    | some r1 => aft (forM f b ds) (b r1)
    | none => none
/-- J walks ds, as long as C holds of the heap -/
def Wk (K : KP) (J : It) (ds : List D) (G : Hp) (C : Hp → Prop) : Prop := ∀ G' H', Same G G' → Same G' H' → C H' → (∀ i, ds.length ≤ i → J.stop i H') ∧
  ∀ i d, ds[i]? = some d → J.go i H' ∧ ∀ x H2, J.yld i H' x H2 → ∃ G2, Ext G' H' G2 H2 ∧ Rep K G2 d x
def rdI (Θ : List (Addr × Str)) (K : KP) (m : M (List D)) : TI := fun σ H R => ∃ G r, Rel Θ K G H r σ ∧ Cn Θ K G H r σ (m r) fun ds G' H' => ∀ J, Wk K J ds G' (fun _ => True) → R J H'
abbrev SI (Θ : List (Addr × Str)) (X : Cx) (tg iter : Expr) (m : M (List D)) : Prop := PI X tg iter (rdI Θ X.kp m)
theorem pi_imp {tg iter : Expr} {t t' : TI} (h : PI X tg iter t) (i : ∀ σ H Q, t' σ H Q → t σ H Q) : PI X tg iter t' := ⟨fun pins s σ H Q I q => h.run pins s σ H Q I (i _ _ _ q)⟩
/-- the loop itself -/
theorem for_core {K : KP} {J : It} {ds : List D} {f : D → Ro → Option Ro} {mb : M Fl} {G0 H0 : Hp} {r0 : Ro} {σ0 : L2.St} {E : Ends} {C : Hp → Prop} {P : Hp → Hp → Ro → L2.St → Prop}
    (hW : Wk K J ds G0 C) (hP : ∀ G H r σ G' H' r' σ', P G H r σ → Fr G H r σ G' H' r' σ' → P G' H' r' σ') (hC : ∀ G H r σ, P G H r σ → C H) (p0 : P G0 H0 r0 σ0)
    (R0 : Rel Θ K G0 H0 r0 σ0) (c0 : CS Θ K G0 H0 r0 σ0 (forM f mb ds r0) E) :
    ∃ W : Nat → Nat → L2.St → Hp → Prop, (∃ m, W 0 m σ0 H0) ∧ ∀ i m σ H, W i m σ H →
      (J.stop i H ∧ E.nx σ H) ∨ (J.go i H ∧ ∃ N : L2.St → Hp → Prop, (∀ σ' H', N σ' H' → ∃ m', m' < m ∧ W (i + 1) m' σ' H') ∧ ∀ x H', J.yld i H x H' → rdG Θ K f x σ H' fun σ2 H2 => rdS Θ K mb { E with nx := N, ct := N, bk := E.nx } σ2 H2) := by
  refine ⟨fun i m σ H => m = ds.length - i ∧ i ≤ ds.length ∧ ∃ G r, Rel Θ K G H r σ ∧ Same G0 G ∧ P G H r σ ∧ CS Θ K G H r σ (forM f mb (ds.drop i) r) E, ⟨ds.length, by simp, Nat.zero_le _, G0, r0, R0, Same.refl _, p0, by simpa using c0⟩, ?_⟩
  rintro i m σ H ⟨rfl, hi, G, r, R, s, p, c⟩
  obtain ⟨w1, w2⟩ := hW G H s R.sub (hC _ _ _ _ p)
  by_cases hlt : i < ds.length
  · have hd : ds[i]? = some ds[i] := List.getElem?_eq_getElem hlt
    obtain ⟨g, y⟩ := w2 i _ hd
    rw [List.drop_eq_getElem_cons hlt] at c
    obtain ⟨fl, r', e, k⟩ := c
    simp only [forM] at e
    split at e
    · rename_i r1 e1
      refine .inr ⟨g, fun σ' H' => ∃ G' r', Rel Θ K G' H' r' σ' ∧ Same G0 G' ∧ P G' H' r' σ' ∧ CS Θ K G' H' r' σ' (forM f mb (ds.drop (i + 1)) r') E, fun σ' H' ⟨G', r', R', s', p', c'⟩ => ⟨ds.length - (i + 1), by omega, rfl, hlt, G', r', R', s', p', c'⟩, fun x H1 hy => ?_⟩
      obtain ⟨G1, ex, rx⟩ := y x H1 hy
      refine ⟨G1, r, _, r1, ex.rel R, rx, e1, fun σ2 R2 F2 => ⟨G1, r1, R2, ?_⟩⟩
      have F1 := (ex.fr r σ).trans F2
      have c3 : CS Θ K G1 H1 r1 σ2 (aft (forM f mb (ds.drop (i + 1))) (mb r1)) E := ⟨fl, r', e, fun G3 H3 σ3 R3 F3 => (k G3 H3 σ3 R3 (F1.trans F3)).shift F1.mono⟩
      have p1 : P G1 H1 r1 σ2 := hP _ _ _ _ _ _ _ _ p F1
      obtain ⟨f4, r4, e4, k4⟩ := cs_aft c3
      refine ⟨f4, r4, e4, fun G5 H5 σ5 R5 F5 => ?_⟩
      have q := k4 G5 H5 σ5 R5 F5
      cases f4 with
      | nx =>
        obtain ⟨G6, r6, R6, F6, c6⟩ := q
        exact ⟨G6, r6, R6, s.trans (F1.trans F6).le, hP _ _ _ _ _ _ _ _ p1 F6, c6⟩
      | ct =>
        obtain ⟨G6, r6, R6, F6, c6⟩ := q
        exact ⟨G6, r6, R6, s.trans (F1.trans F6).le, hP _ _ _ _ _ _ _ _ p1 F6, c6⟩
      | bk => exact q
      | rt d => exact q
      | rf d => exact q
    · cases e
  · have e : i = ds.length := by omega
    subst e
    rw [List.drop_length] at c
    obtain ⟨fl, r', e, k⟩ := c
    cases e
    exact .inl ⟨w1 _ (Nat.le_refl _), k G H σ R (Fr.refl _ _ _ _)⟩
theorem ss_for {tg iter : Expr} {body : List Stmt} {mi : M (List D)} {f : D → Ro → Option Ro} {mb : M Fl} (hp : PassesOwn (model X.prog X.w) X.A X.env X.xe) (hc : X.calm = true) (hi : SI Θ X tg iter mi) (hg : SG Θ X tg f) (hb : SB Θ X body mb)
    (hs : ∀ x, foldedSetIterable iter X.env x = pure x := by intro _; rfl) : SS Θ X (.For tg iter body [] pos) (bd mi fun ds => forM f mb ds) :=
  ps_imp (ps_for hp hc hi hg hb hs) fun σ H E q => by
    obtain ⟨G, r, R, c⟩ := q
    refine ⟨G, r, R, (cs_bd c).mono fun ds G1 H1 ⟨r1, R1, s1, c1⟩ J hW => ?_⟩
    exact for_core (C := fun _ => True) (P := fun _ _ _ _ => True) hW (fun _ _ _ _ _ _ _ _ _ _ => trivial) (fun _ _ _ _ _ => trivial) trivial R1 c1
end
end Pk

namespace Pk
open PySem PySem.Spec PyProof.Rows L2
section
variable {X : Cx} {e a b c tg iter : Expr} {es : List Expr} {pos : Pos} {ma mb mc m : M D} {i : Nat} {ml : M (List D)}
/-! ### what is walked -/
def seqOf : D → Option (List D)
  | .lst ds => some ds
  | .ro ds => some ds
  | .tup ds => some ds
  | .str z => some (z.cps.toList.map fun c => .str ⟨#[c]⟩)
  | _ => none
theorem wk_list {K : KP} {G : Hp} {a : Addr} {ds : List D} {vs : List V} (q : Rd G a (.lst vs)) (rs : Reps K G ds vs) : Wk K (Itl K a) ds G (fun _ => True) := fun G' H' g s _ => by
  have q' : SqL K H' a vs := .inl (rd_mono (g.trans s) q)
  refine ⟨fun i hi => ⟨vs, q', by rw [rs.length]; exact hi⟩, fun i d hd => ?_⟩
  obtain ⟨v, hv, rv⟩ := rs.get hd
  refine ⟨⟨vs, v, q', hv⟩, fun x H2 y => ?_⟩
  obtain ⟨rfl, y⟩ := y
  have := y vs q'
  rw [hv] at this
  cases this
  exact ⟨G', Ext.refl _ _, Rep.mono g _ _ rv⟩
theorem wk_ro {K : KP} {G : Hp} {a : Addr} {ds : List D} {vs : List V} (q : SqL K G a vs) (rs : Reps K G ds vs) : Wk K (Itl K a) ds G (fun _ => True) := fun G' H' g s _ => by
  have q' : SqL K H' a vs := sqL_mono (g.trans s) q
  refine ⟨fun i hi => ⟨vs, q', by rw [rs.length]; exact hi⟩, fun i d hd => ?_⟩
  obtain ⟨v, hv, rv⟩ := rs.get hd
  refine ⟨⟨vs, v, q', hv⟩, fun x H2 y => ?_⟩
  obtain ⟨rfl, y⟩ := y
  have := y vs q'
  rw [hv] at this
  cases this
  exact ⟨G', Ext.refl _ _, Rep.mono g _ _ rv⟩
theorem wk_tup {K : KP} {G : Hp} {a : Addr} {ds : List D} {vs : List V} (q : SqT K G a vs) (rs : Reps K G ds vs) : Wk K (Itt K a) ds G (fun _ => True) := fun G' H' g s _ => by
  have q' : SqT K H' a vs := sqT_mono (g.trans s) q
  refine ⟨fun i hi => ⟨vs, q', by rw [rs.length]; exact hi⟩, fun i d hd => ?_⟩
  obtain ⟨v, hv, rv⟩ := rs.get hd
  refine ⟨⟨vs, v, q', hv⟩, fun x H2 y => ?_⟩
  obtain ⟨rfl, y⟩ := y
  have := y vs q'
  rw [hv] at this
  cases this
  exact ⟨G', Ext.refl _ _, Rep.mono g _ _ rv⟩
theorem wk_str {K : KP} {G : Hp} {z : Str} : Wk K (Its z) (z.cps.toList.map fun c => .str ⟨#[c]⟩) G (fun _ => True) := fun G' H' g s _ => by
  refine ⟨fun i hi => by show z.cps.size ≤ i; simpa using hi, fun i d hd => ?_⟩
  rw [List.getElem?_map] at hd
  cases e : z.cps.toList[i]? with
  | none => rw [e] at hd; cases hd
  | some c =>
    rw [e] at hd
    cases hd
    have e' : z.cps[i]? = some c := by rw [← Array.getElem?_toList]; exact e
    have hl : i < z.cps.size := (Array.getElem?_eq_some_iff.mp e').1
    refine ⟨hl, fun x H2 y => ?_⟩
    obtain ⟨rfl, c', h1, rfl⟩ := y
    rw [e'] at h1
    cases h1
    exact ⟨G', Ext.refl _ _, .str_of⟩
theorem pi_or {t t' : TI} (h : PI X tg iter t) (h' : PI X tg iter t') : PI X tg iter (fun σ H R => t σ H R ∨ t' σ H R) := ⟨fun pins s σ H R I q => by
  rcases q with q | q
  · exact h.run pins s σ H R I q
  · exact h'.run pins s σ H R I q⟩
theorem si_val (he : SE Θ X iter m) : SI Θ X tg iter (bd m fun d => of (seqOf d)) := pi_imp (pi_or (pi_list he) (pi_or (pi_tup he) (pi_str he))) fun σ H Q q => by
  obtain ⟨G, r, R, ds, r', e, k⟩ := q
  obtain ⟨d, r1, e1, e2⟩ := bd_some e
  obtain ⟨e3, rfl⟩ := of_some e2
  cases d with
  | lst ds' =>
    obtain rfl : ds' = ds := Option.some.inj e3
    refine .inl ⟨G, r, R, _, _, e1, fun G1 H1 R1 F1 v rv => ?_⟩
    obtain ⟨a, vs, rfl, q, rs⟩ := rv.lst_inv
    exact ⟨a, rfl, ⟨vs, .inl (rd_mono R1.sub q)⟩, k G1 H1 R1 F1 _ (wk_list q rs)⟩
  | ro ds' =>
    obtain rfl : ds' = ds := Option.some.inj e3
    refine .inl ⟨G, r, R, _, _, e1, fun G1 H1 R1 F1 v rv => ?_⟩
    obtain ⟨a, vs, rfl, q, rs⟩ := rv.ro_inv
    exact ⟨a, rfl, ⟨vs, sqL_mono R1.sub q⟩, k G1 H1 R1 F1 _ (wk_ro q rs)⟩
  | tup ds' =>
    obtain rfl : ds' = ds := Option.some.inj e3
    refine .inr (.inl ⟨G, r, R, _, _, e1, fun G1 H1 R1 F1 v rv => ?_⟩)
    obtain ⟨a, vs, rfl, q, rs⟩ := rv.tup_inv
    exact ⟨a, rfl, ⟨vs, sqT_mono R1.sub q⟩, k G1 H1 R1 F1 _ (wk_tup q rs)⟩
  | str z =>
    obtain rfl := Option.some.inj e3
    refine .inr (.inr ⟨G, r, R, _, _, e1, fun G1 H1 R1 F1 v rv => ?_⟩)
    exact ⟨z, rv.str_inv, k G1 H1 R1 F1 _ wk_str⟩
  | _ => cases e3
def rng (lo : Int) (n : Nat) : List D := (List.range n).map fun (k : Nat) => .int (lo + (k : Int))
theorem wk_rng {K : KP} {G : Hp} {lo : Int} {n : Nat} : Wk K (Itr lo n) (rng lo n) G (fun _ => True) := fun G' H' g s _ => by
  refine ⟨fun i hi => by show n ≤ i; simpa [rng] using hi, fun i d hd => ?_⟩
  unfold rng at hd
  by_cases hl : i < n
  · rw [List.getElem?_map, List.getElem?_range hl] at hd
    cases hd
    refine ⟨hl, fun x H2 y => ?_⟩
    obtain ⟨rfl, rfl⟩ := y
    exact ⟨G', Ext.refl _ _, .int_of⟩
  · rw [List.getElem?_eq_none (by simpa using hl)] at hd
    cases hd
def rng1 : List D → Option (List D)
  | [.int j] => if -(2 ^ 62) ≤ j ∧ j < 2 ^ 62 then some (rng 0 j.toNat) else none
  | _ => none
def rng2 : List D → Option (List D)
  | [.int i, .int j] => if (-(2 ^ 62) ≤ i ∧ i < 2 ^ 62) ∧ -(2 ^ 62) ≤ j ∧ j < 2 ^ 62 then some (rng i (j - i).toNat) else none
  | _ => none
theorem rng1_some {ds zs : List D} (h : rng1 ds = some zs) : ∃ j : Int, ds = [.int j] ∧ (-(2 ^ 62) ≤ j ∧ j < 2 ^ 62) ∧ zs = rng 0 j.toNat := by
  unfold rng1 at h
  split at h
  · split at h
    · cases h; exact ⟨_, rfl, by assumption, rfl⟩
    · cases h
  · cases h
theorem rng2_some {ds zs : List D} (h : rng2 ds = some zs) : ∃ i j : Int, ds = [.int i, .int j] ∧ ((-(2 ^ 62) ≤ i ∧ i < 2 ^ 62) ∧ -(2 ^ 62) ≤ j ∧ j < 2 ^ 62) ∧ zs = rng i (j - i).toNat := by
  unfold rng2 at h
  split at h
  · split at h
    · cases h; exact ⟨_, _, rfl, by assumption, rfl⟩
    · cases h
  · cases h
theorem si_range1 {p : Pos} (hg : Gl X "range") (hm : X.mg "range" = none) (ha : SA Θ X [a] ml) (hs : starEach [a] X.env = [(false, eval a X.env)] := by rfl) : SI Θ X tg (.Call (.Name "range" p) [a] [] pos) (bd ml fun ds => of (rng1 ds)) :=
  pi_imp (pi_range1 hg hm ha hs) fun σ H Q q => by
    obtain ⟨G, r, R, c⟩ := q
    refine ⟨G, r, R, (cn_bd c).mono fun xs G1 H1 ⟨r1, R1, s1, c1⟩ vs rs => ?_⟩
    obtain ⟨z, hz, k⟩ := cn_of R1 c1
    obtain ⟨j, rfl, hj, rfl⟩ := rng1_some hz
    obtain ⟨v, rfl, r⟩ := rs.one
    obtain rfl := r.int_inv
    exact ⟨j, rfl, hj.1, hj.2, k G1 H1 (Ext.refl _ _) _ wk_rng⟩
theorem si_range2 {p : Pos} (hg : Gl X "range") (hm : X.mg "range" = none) (ha : SA Θ X [a, b] ml) (hs : starEach [a, b] X.env = [(false, eval a X.env), (false, eval b X.env)] := by rfl) (hs2 : starEach [b] X.env = [(false, eval b X.env)] := by rfl) : SI Θ X tg (.Call (.Name "range" p) [a, b] [] pos) (bd ml fun ds => of (rng2 ds)) :=
  pi_imp (pi_range2 hg hm ha hs hs2) fun σ H Q q => by
    obtain ⟨G, r, R, c⟩ := q
    refine ⟨G, r, R, (cn_bd c).mono fun xs G1 H1 ⟨r1, R1, s1, c1⟩ vs rs => ?_⟩
    obtain ⟨z, hz, k⟩ := cn_of R1 c1
    obtain ⟨i, j, rfl, hj, rfl⟩ := rng2_some hz
    obtain ⟨v, u, rfl, r, r'⟩ := rs.two
    obtain rfl := r.int_inv
    obtain rfl := r'.int_inv
    exact ⟨i, j, rfl, ⟨hj.1.1, hj.1.2, hj.2.1, hj.2.2⟩, k G1 H1 (Ext.refl _ _) _ wk_rng⟩
def revOf : D → Option (List D)
  | .lst ds => some ds.reverse
  | .tup ds => some ds.reverse
  | _ => none
theorem wk_revL {K : KP} {G : Hp} {a : Addr} {ds : List D} {vs : List V} (q : Rd G a (.lst vs)) (rs : Reps K G ds vs) : Wk K (Itv K a vs.length) ds.reverse G (fun _ => True) := fun G' H' g s _ => by
  have q' : SqL K H' a vs := .inl (rd_mono (g.trans s) q)
  refine ⟨fun i hi => by rw [List.length_reverse, ← rs.length] at hi; exact hi, fun i d hd => ?_⟩
  have hl : i < ds.length := by
    have := (List.getElem?_eq_some_iff.mp hd).1
    rwa [List.length_reverse] at this
  rw [List.getElem?_reverse hl, ← rs.length] at hd
  obtain ⟨v, hv, rv⟩ := rs.get hd
  rw [← rs.length] at hl
  refine ⟨⟨hl, vs, v, q', hv⟩, fun x H2 y => ?_⟩
  obtain ⟨rfl, y⟩ := y
  have := y vs q'
  rw [hv] at this
  cases this
  exact ⟨G', Ext.refl _ _, Rep.mono g _ _ rv⟩
theorem wk_revT {K : KP} {G : Hp} {a : Addr} {ds : List D} {vs : List V} (q : SqT K G a vs) (rs : Reps K G ds vs) : Wk K (RT.ItvT K a vs.length) ds.reverse G (fun _ => True) := fun G' H' g s _ => by
  have q' : SqT K H' a vs := sqT_mono (g.trans s) q
  refine ⟨fun i hi => by rw [List.length_reverse, ← rs.length] at hi; exact hi, fun i d hd => ?_⟩
  have hl : i < ds.length := by
    have := (List.getElem?_eq_some_iff.mp hd).1
    rwa [List.length_reverse] at this
  rw [List.getElem?_reverse hl, ← rs.length] at hd
  obtain ⟨v, hv, rv⟩ := rs.get hd
  rw [← rs.length] at hl
  refine ⟨⟨hl, vs, v, q', hv⟩, fun x H2 y => ?_⟩
  obtain ⟨rfl, y⟩ := y
  have := y vs q'
  rw [hv] at this
  cases this
  exact ⟨G', Ext.refl _ _, Rep.mono g _ _ rv⟩
theorem si_rev {p : Pos} (hg : Gl X "reversed") (hm : X.mg "reversed" = none) (he : SE Θ X e m) (hs : starEach [e] X.env = (false, eval e X.env) :: starEach [] X.env := by rfl) : SI Θ X tg (.Call (.Name "reversed" p) [e] [] pos) (bd m fun d => of (revOf d)) :=
  pi_imp (RT.pi_revA hg hm he hs) fun σ H Q q => by
    obtain ⟨G, r, R, c⟩ := q
    refine ⟨G, r, R, (cn_bd c).mono fun d G1 H1 ⟨r1, R1, s1, c1⟩ v rv => ?_⟩
    obtain ⟨z, hz, k⟩ := cn_of R1 c1
    cases d with
    | lst ds =>
      cases hz
      obtain ⟨a, vs, rfl, q, rs⟩ := rv.lst_inv
      exact ⟨a, vs, rfl, .inl ⟨.inl (rd_mono R1.sub q), k G1 H1 (Ext.refl _ _) _ (wk_revL q rs)⟩⟩
    | tup ds =>
      cases hz
      obtain ⟨a, vs, rfl, q, rs⟩ := rv.tup_inv
      exact ⟨a, vs, rfl, .inr ⟨sqT_mono R1.sub q, k G1 H1 (Ext.refl _ _) _ (wk_revT q rs)⟩⟩
    | _ => cases hz

/-! ### the names of a comprehension -/
def wipeR (r : Ro) : List Nat → Ro
  | [] => r
  | v :: vs => (wipeR r vs).set v none
/-- the names' slots as they were -/
def back (r r' : Ro) : List Nat → Ro
  | [] => r'
  | v :: vs => (back r r' vs).set v (r[v]?.getD none)
def okW (r : Ro) (vs : List Nat) : Bool := vs.all fun v => match r[v]? with
  | some none => true
  | some (some (.d _)) => true
  | _ => false
theorem wipeR_get {r : Ro} {j : Nat} {x : S} : ∀ {vs : List Nat}, (wipeR r vs)[j]? = some (some x) → r[j]? = some (some x) ∧ j ∉ vs
  | [], h => ⟨h, by simp⟩
  | v :: vs, h => by
    rcases set_get (show ((wipeR r vs).set v none)[j]? = some (some x) from h) with ⟨_, e⟩ | ⟨n, e⟩
    · cases e
    · obtain ⟨h1, h2⟩ := wipeR_get e
      exact ⟨h1, by simp only [List.mem_cons, not_or]; exact ⟨n, h2⟩⟩
theorem wipeR_out {r : Ro} {j : Nat} : ∀ {vs : List Nat}, j ∉ vs → (wipeR r vs)[j]? = r[j]?
  | [], _ => rfl
  | v :: vs, h => by
    simp only [List.mem_cons, not_or] at h
    show ((wipeR r vs).set v none)[j]? = _
    rw [List.getElem?_set_ne (fun e => h.1 e.symm)]
    exact wipeR_out h.2
theorem wipeR_length (r : Ro) : ∀ vs : List Nat, (wipeR r vs).length = r.length
  | [] => rfl
  | v :: vs => by show ((wipeR r vs).set v none).length = _; rw [List.length_set, wipeR_length r vs]
theorem back_length (r r' : Ro) : ∀ vs : List Nat, (back r r' vs).length = r'.length
  | [] => rfl
  | v :: vs => by show ((back r r' vs).set v _).length = _; rw [List.length_set, back_length r r' vs]
theorem back_in {r r' : Ro} {j : Nat} (hl : j < r'.length) (hr : j < r.length) : ∀ {vs : List Nat}, j ∈ vs → (back r r' vs)[j]? = r[j]?
  | v :: vs, h => by
    show ((back r r' vs).set v (r[v]?.getD none))[j]? = _
    by_cases e : v = j
    · subst e
      rw [List.getElem?_set_self (by rw [back_length]; exact hl), List.getElem?_eq_getElem hr]
      rfl
    · rw [List.getElem?_set_ne e]
      rcases List.mem_cons.mp h with z | z
      · exact absurd z.symm e
      · exact back_in hl hr z
theorem back_out {r r' : Ro} {j : Nat} : ∀ {vs : List Nat}, j ∉ vs → (back r r' vs)[j]? = r'[j]?
  | [], _ => rfl
  | v :: vs, h => by
    simp only [List.mem_cons, not_or] at h
    show ((back r r' vs).set v _)[j]? = _
    rw [List.getElem?_set_ne (fun e => h.1 e.symm)]
    exact back_out h.2
theorem wipe_outS {σ : L2.St} {j : Nat} : ∀ {vs : List Nat}, j ∉ vs → (wipe σ vs)[j]? = σ[j]?
  | [], _ => rfl
  | v :: vs, h => by
    simp only [List.mem_cons, not_or] at h
    show ((wipe σ vs).set v none)[j]? = _
    rw [List.getElem?_set_ne (fun e => h.1 e.symm)]
    exact wipe_outS h.2
theorem wipe_inS {σ : L2.St} {j : Nat} (hl : j < σ.length) : ∀ {vs : List Nat}, j ∈ vs → (wipe σ vs)[j]? = some none
  | v :: vs, h => by
    show ((wipe σ vs).set v none)[j]? = _
    by_cases e : v = j
    · subst e
      rw [List.getElem?_set_self (by rw [wipe_length]; exact hl)]
    · rw [List.getElem?_set_ne e]
      rcases List.mem_cons.mp h with z | z
      · exact absurd z.symm e
      · exact wipe_inS hl z
theorem wipe_ext {σ σ' : L2.St} {vs : List Nat} (hl : σ.length = σ'.length) (h : ∀ j, j ∉ vs → σ[j]? = σ'[j]?) : wipe σ vs = wipe σ' vs := by
  apply List.ext_getElem?
  intro j
  by_cases hj : j ∈ vs
  · by_cases hs : j < σ.length
    · rw [wipe_inS hs hj, wipe_inS (by rw [← hl]; exact hs) hj]
    · rw [List.getElem?_eq_none (by rw [wipe_length]; omega), List.getElem?_eq_none (by rw [wipe_length]; omega)]
  · rw [wipe_outS hj, wipe_outS hj, h j hj]
theorem wipe_set {σ : L2.St} {i : Nat} {v : Option V} {vs : List Nat} (h : i ∈ vs) : wipe (σ.set i v) vs = wipe σ vs :=
  wipe_ext (by rw [List.length_set]) fun j hj => List.getElem?_set_ne (fun e => hj (by rw [← e]; exact h))
theorem wipe_wipe {σ : L2.St} {vs : List Nat} : wipe (wipe σ vs) vs = wipe σ vs := wipe_ext (wipe_length _ _) fun j hj => wipe_outS hj
variable {K : KP} {G H : Hp} {r : Ro} {σ : L2.St}
/-- an own slot of a wiped row, of the row -/
theorem wipe_owned {vs : List Nat} {b : Addr} (h : Owned (wipeR r vs) (wipe σ vs) b) : Owned r σ b := by
  obtain ⟨j, p, ds, h1, h2⟩ := h
  obtain ⟨h3, h4⟩ := wipeR_get h1
  rw [wipe_outS h4] at h2
  exact ⟨j, p, ds, h3, h2⟩
theorem wipe_rel {vs : List Nat} (R : Rel Θ K G H r σ) : Rel Θ K G H (wipeR r vs) (wipe σ vs) := by
  refine ⟨by rw [wipeR_length, wipe_length]; exact R.len, R.sub, fun j d z => ?_, fun j p ds z => ?_, fun j k p ds q es a z1 z2 e1 e2 => ?_, R.tab⟩
  · obtain ⟨h1, h2⟩ := wipeR_get z
    rw [wipe_outS h2]; exact R.get j d h1
  · obtain ⟨h1, h2⟩ := wipeR_get z
    rw [wipe_outS h2]; exact R.own j p ds h1
  · obtain ⟨h1, h2⟩ := wipeR_get z1
    obtain ⟨h3, h4⟩ := wipeR_get z2
    rw [wipe_outS h2] at e1
    rw [wipe_outS h4] at e2
    exact R.sep j k p ds q es a h1 h3 e1 e2
theorem okW_at {vs : List Nat} (h : okW r vs = true) {j : Nat} (hj : j ∈ vs) : r[j]? = some none ∨ ∃ d, r[j]? = some (some (.d d)) := by
  have q := List.all_eq_true.mp h j hj
  cases e : r[j]? with
  | none => rw [e] at q; cases q
  | some x =>
    cases x with
    | none => exact .inl rfl
    | some s =>
      cases s with
      | d d => exact .inr ⟨d, rfl⟩
      | own p ds => rw [e] at q; cases q
      | lock => rw [e] at q; cases q
theorem wipe_fr {vs : List Nat} (h : okW r vs = true) (R : Rel Θ K G H r σ) : ∀ b u, H b = some u → ¬ Owned r σ b → ¬ Owned (wipeR r vs) (wipe σ vs) b := fun b u _ n z => n (wipe_owned z)
/-- behind a comprehension: the names as they were -/
theorem back_rel {vs : List Nat} (hw : okW r vs = true) (R : Rel Θ K G H r σ) {G' H' : Hp} {r' : Ro} (R' : Rel Θ K G' H' r' (wipe σ vs)) (hr : ∀ j, j ∈ vs → ∀ x, r'[j]? ≠ some (some x)) (F : Fr G H (wipeR r vs) (wipe σ vs) G' H' r' (wipe σ vs)) :
    Rel Θ K G' H' (back r r' vs) σ ∧ Fr G H r σ G' H' (back r r' vs) σ := by
  have hl : r'.length = r.length := by rw [R'.len, wipe_length, R.len]
  have own : ∀ (j : Nat) (q : Bool) (fs : List D), (back r r' vs)[j]? = some (some (.own q fs)) → j ∉ vs ∧ r'[j]? = some (some (.own q fs)) := fun j q fs z => by
    by_cases hj : j ∈ vs
    · have hlt : j < r'.length := by
        have := (List.getElem?_eq_some_iff.mp z).1
        rwa [back_length] at this
      rw [back_in hlt (by omega) hj] at z
      rcases okW_at hw hj with e | ⟨d, e⟩ <;> (rw [e] at z; cases z)
    · rw [back_out hj] at z
      exact ⟨hj, z⟩
  refine ⟨⟨by rw [back_length, hl, R.len], R'.sub, fun j d z => ?_, fun j p ds z => ?_, fun j k p ds q es a z1 z2 e1 e2 => ?_, R'.tab⟩, ⟨F.le, fun b u e t n => ?_, fun j fs z => ?_, fun j z => ?_, F.mono⟩⟩
  · by_cases hj : j ∈ vs
    · have hlt : j < r'.length := by
        have := (List.getElem?_eq_some_iff.mp z).1
        rwa [back_length] at this
      rw [back_in hlt (by omega) hj] at z
      obtain ⟨v, h1, h2⟩ := R.get j d z
      exact ⟨v, h1, Rep.mono F.le _ _ h2⟩
    · rw [back_out hj] at z
      obtain ⟨v, h1, h2⟩ := R'.get j d z
      rw [wipe_outS hj] at h1
      exact ⟨v, h1, h2⟩
  · obtain ⟨hj, z⟩ := own j p ds z
    obtain ⟨a, us, h1, h2⟩ := R'.own j p ds z
    rw [wipe_outS hj] at h1
    exact ⟨a, us, h1, h2⟩
  · obtain ⟨h1, z1⟩ := own j p ds z1
    obtain ⟨h2, z2⟩ := own k q es z2
    exact R'.sep j k p ds q es a z1 z2 (by rw [wipe_outS h1]; exact e1) (by rw [wipe_outS h2]; exact e2)
  · obtain ⟨h1, h2, h3⟩ := F.keep b u e t (fun z => n (wipe_owned z))
    refine ⟨h1, fun z => ?_, h3⟩
    obtain ⟨j, q, fs, z1, z2⟩ := z
    obtain ⟨hj, z1⟩ := own j q fs z1
    exact h2 ⟨j, q, fs, z1, by rw [wipe_outS hj]; exact z2⟩
  · have hj : j ∉ vs := fun hj => by
      rcases okW_at hw hj with e | ⟨d, e⟩ <;> (rw [e] at z; cases z)
    obtain ⟨⟨ds', h1⟩, _⟩ := F.pin j fs (by rw [wipeR_out hj]; exact z)
    exact ⟨⟨ds', by rw [back_out hj]; exact h1⟩, rfl⟩
  · have hj : j ∉ vs := fun hj => by
      rcases okW_at hw hj with e | ⟨d, e⟩ <;> (rw [e] at z; cases z)
    obtain ⟨h1, _⟩ := F.lck j (by rw [wipeR_out hj]; exact z)
    exact ⟨by rw [back_out hj]; exact h1, rfl⟩
/-- a tracked thing beside all that is changed -/
theorem side_rel (R : Rel Θ K G H r σ) {p : Addr} {o : HO} (hG : G p = none) (hO : ¬ Owned r σ p) (hn : H p = none ∨ ∃ vs, H p = some (.lst vs)) : Rel Θ K G (upd H p o) r σ := by
  refine ⟨R.len, fun b u e => ?_, R.get, fun j q ds z => ?_, R.sep, by rcases hn with h | ⟨vs, h⟩; exact R.tab.new h; exact R.tab.lst h⟩
  · rw [upd_ne (fun z => by subst z; rw [hG] at e; cases e)]
    exact R.sub _ _ e
  · obtain ⟨a, us, h1, h2, h3⟩ := R.own j q ds z
    exact ⟨a, us, h1, by rw [upd_ne (fun z' => by subst z'; exact hO ⟨j, q, ds, z, h1⟩)]; exact h2, h3⟩
/-- the targets of a comprehension: only vs is changed -/
def rdW (Θ : List (Addr × Str)) (K : KP) (vs : List Nat) (f : D → Ro → Option Ro) : TG := fun v σ H Q => ∃ G r d r', Rel Θ K G H r σ ∧ Rep K G d v ∧ f d r = some r' ∧ ∀ σ', Rel Θ K G H r' σ' → Fr G H r σ G H r' σ' → wipe σ' vs = wipe σ vs → Q σ' H
def rdWs (Θ : List (Addr × Str)) (K : KP) (vs : List Nat) (f : List D → Ro → Option Ro) : TGs := fun us σ H Q => ∃ G r ds r', Rel Θ K G H r σ ∧ Reps K G ds us ∧ f ds r = some r' ∧ ∀ σ', Rel Θ K G H r' σ' → Fr G H r σ G H r' σ' → wipe σ' vs = wipe σ vs → Q σ' H
abbrev SGw (Θ : List (Addr × Str)) (X : Cx) (vs : List Nat) (tg : Expr) (f : D → Ro → Option Ro) : Prop := PG X tg (rdW Θ X.kp vs f)
abbrev SGws (Θ : List (Addr × Str)) (X : Cx) (vs : List Nat) (tgs : List Expr) (f : List D → Ro → Option Ro) : Prop := PGs X tgs (rdWs Θ X.kp vs f)
theorem sgw_name {tg : Expr} {vs : List Nat} (h : PG X tg (gName i)) (hi : i ∈ vs) : SGw Θ X vs tg (setD i) := pg_imp h fun v σ H Q q => by
  obtain ⟨G, r, d, r', R, rv, e, k⟩ := q
  obtain ⟨R', F'⟩ := setD_rel R e rv
  exact k _ R' F' (wipe_set hi)
theorem sgws_nil {vs : List Nat} : SGws Θ X vs [] unNil := pgs_imp pgs_nil fun us σ H Q q => by
  obtain ⟨G, r, ds, r', R, rv, e, k⟩ := q
  cases ds with
  | nil =>
    cases e
    exact ⟨rv.nil_inv, k σ R (Fr.refl _ _ _ _) rfl⟩
  | cons d ds => cases e
theorem sgws_cons {vs : List Nat} {tg : Expr} {tgs : List Expr} {f : D → Ro → Option Ro} {g : List D → Ro → Option Ro} (h1 : SGw Θ X vs tg f) (h2 : SGws Θ X vs tgs g) (hs : (assignEach (tg :: tgs) X.env).map (·.2) = assign tg X.env :: (assignEach tgs X.env).map (·.2) := by rfl) :
    SGws Θ X vs (tg :: tgs) (unCons f g) := pgs_imp (pgs_cons h1 h2 hs) fun us σ H Q q => by
  obtain ⟨G, r, ds, r', R, rv, e, k⟩ := q
  cases ds with
  | nil => cases e
  | cons d ds =>
    simp only [unCons] at e
    cases e1 : f d r with
    | none => rw [e1] at e; cases e
    | some r1 =>
      rw [e1] at e
      obtain ⟨v, us, rfl, q1, q2⟩ := rv.cons_inv
      exact ⟨v, us, rfl, G, r, d, r1, R, q1, e1, fun σ1 R1 F1 w1 => ⟨G, r1, ds, r', R1, q2, e, fun σ2 R2 F2 w2 => k σ2 R2 (F1.trans F2) (w2.trans w1)⟩⟩
theorem sgw_tup {vs : List Nat} {tgs : List Expr} {k n : Nat} {g : List D → Ro → Option Ro} (hc : X.calm = true) (h : SGws Θ X vs tgs g) (hn : (assignEach tgs X.env).length = n := by rfl) (hst : (assignEach tgs X.env).findIdx? (·.1) = none := by rfl) : SGw Θ X vs (.Tuple tgs k pos) (tupF n g) :=
  pg_imp (pg_tup hc h hn hst) fun v σ H Q q => by
    obtain ⟨G, r, d, r', R, rv, e, k⟩ := q
    cases d with
    | tup ds =>
      simp only [tupF] at e
      split at e
      · rename_i hl
        obtain ⟨a, us, rfl, q, rs⟩ := rv.tup_inv
        exact ⟨a, us, rfl, sqT_mono R.sub q, by rw [rs.length]; exact hl, G, r, ds, r', R, rs, e, k⟩
      · cases e
    | tq ds =>
      simp only [tupF] at e
      split at e
      · rename_i hl
        obtain ⟨a, us, rfl, q, rs⟩ := rv.tq_inv
        exact ⟨a, us, rfl, sqT_mono R.sub q, by rw [rs.length]; exact hl, G, r, ds, r', R, rs, e, k⟩
      · cases e
    | _ => cases e
/-- several tests of a comprehension -/
abbrev SQ (Θ : List (Addr × Str)) (X : Cx) (ifs : List Expr) (m : M Bool) : Prop := PTs X ifs (rdT Θ X.kp m)
theorem pts_imp {ifs : List Expr} {t t' : TT} (h : PTs X ifs t) (i : ∀ σ H Q, t' σ H Q → t σ H Q) : PTs X ifs t' := ⟨fun pins s σ H Q I q => h.run pins s σ H Q I (i _ _ _ q)⟩
theorem sq_nil : SQ Θ X [] (rt true) := pts_imp pts_nil fun σ H Q q => by
  obtain ⟨G, r0, R, c⟩ := q
  exact cn_rt R c G H (Ext.refl _ _)
theorem sq_one {t : M Bool} (h : STs Θ X c t) : SQ Θ X [c] t := pts_one h
/-- the turns of a comprehension -/
def compM (f : D → Ro → Option Ro) (t : M Bool) (e : M D) (vs : List Nat) : List D → List D → M (List D)
  | [], acc => fun r => some (acc, r)
  | d :: ds, acc => fun r => match f d r with
    | none => none
    | some r1 => match t r1 with
      | none => none
      | some (false, r2) => compM f t e vs ds acc (wipeR r2 vs)
      | some (true, r2) => match e r2 with
        | none => none
        | some (y, r3) => if acc.length < sizeLine then compM f t e vs ds (acc ++ [y]) (wipeR r3 vs) else none
theorem comp_core {J : It} {ds : List D} {f : D → Ro → Option Ro} {t : M Bool} {me : M D} {vs : List Nat} {G0 H0 : Hp} {r0 : Ro} {σ : L2.St} {Q : V → Hp → Prop} {C : Hp → Prop} {P : Hp → Hp → Ro → Prop} {res : List D} {rf : Ro} {p : Addr}
    (hW : Wk K J ds G0 C) (hP : ∀ G H r G' H' r', P G H r → Fr G H r (wipe σ vs) G' H' r' (wipe σ vs) → P G' H' r') (hPu : ∀ G H r o, P G H r → P G (upd H p o) r) (hC : ∀ G H r, P G H r → C H) (p0 : P G0 H0 r0)
    (R0 : Rel Θ K G0 H0 r0 (wipe σ vs)) (hw0 : ∀ j, j ∈ vs → ∀ x, r0[j]? ≠ some (some x)) (hp : H0 p = none) (c0 : compM f t me vs ds [] r0 = some (res, rf))
    (hQ : ∀ G H acc, Rel Θ K G H rf (wipe σ vs) → (∀ j, j ∈ vs → ∀ x, rf[j]? ≠ some (some x)) → Fr G0 H0 r0 (wipe σ vs) G H rf (wipe σ vs) → H p = some (.lst acc) → G p = none → ¬ Owned rf (wipe σ vs) p → Reps K G res acc → Q (.ref p) H) :
    ∃ W : Nat → Nat → Hp → Prop, (∃ m, W 0 m (upd H0 p (.lst []))) ∧ ∀ i m H, W i m H →
      (J.stop i H ∧ Q (.ref p) H) ∨ (J.go i H ∧ ∃ Nx : Hp → Prop, (∀ H', Nx H' → ∃ m', m' < m ∧ W (i + 1) m' H') ∧ ∀ x H', J.yld i H x H' → rdW Θ K vs f x (wipe σ vs) H' fun σ2 H2 => wipe σ2 vs = wipe σ vs ∧ rdT Θ K t σ2 H2 fun b H3 =>
        if b = true then rdE Θ K me σ2 H3 fun y H4 => ∃ acc, H4 p = some (.lst acc) ∧ acc.length < sizeLine ∧ Nx (upd H4 p (.lst (acc ++ [y]))) else Nx H3) := by
  have gp0 : G0 p = none := free_of R0.sub hp
  have op0 : ¬ Owned r0 (wipe σ vs) p := fun ⟨j, q, fs, z1, z2⟩ => by
    obtain ⟨a, us, h1, h2, _⟩ := R0.own j q fs z1
    rw [h1] at z2
    cases z2
    rw [hp] at h2; cases h2
  let St := fun (G H : Hp) (r : Ro) (acc : List V) (accD : List D) => Rel Θ K G H r (wipe σ vs) ∧ (∀ j, j ∈ vs → ∀ x, r[j]? ≠ some (some x)) ∧ Fr G0 H0 r0 (wipe σ vs) G H r (wipe σ vs) ∧ P G H r ∧ H p = some (.lst acc) ∧ G p = none ∧ ¬ Owned r (wipe σ vs) p ∧ Reps K G accD acc
  refine ⟨fun i m H => m = ds.length - i ∧ i ≤ ds.length ∧ ∃ G r acc accD, St G H r acc accD ∧ compM f t me vs (ds.drop i) accD r = some (res, rf), ⟨ds.length, by simp, Nat.zero_le _, G0, r0, [], [], ⟨side_rel R0 gp0 op0 (.inl hp), hw0, ?_, hPu _ _ _ _ p0, upd_same, gp0, op0, .nil⟩, by simpa using c0⟩, ?_⟩
  · exact ⟨Same.refl _, fun b u e _ n => ⟨by rw [upd_ne (ne_of_none e hp)]; exact e, n, fun z => z⟩, fun j ds z => ⟨⟨ds, z⟩, rfl⟩, fun j z => ⟨z, rfl⟩, fun b h => same_nw (same_new hp _) h⟩
  rintro i m H ⟨rfl, hi, G, r, acc, accD, ⟨R, hw, F, pp, hHp, hGp, hOp, rs⟩, c⟩
  obtain ⟨w1, w2⟩ := hW G H F.le R.sub (hC _ _ _ pp)
  by_cases hlt : i < ds.length
  · have hd : ds[i]? = some ds[i] := List.getElem?_eq_getElem hlt
    obtain ⟨g, y⟩ := w2 i _ hd
    rw [List.drop_eq_getElem_cons hlt] at c
    simp only [compM] at c
    cases e1 : f ds[i] r with
    | none => rw [e1] at c; cases c
    | some r1 =>
      rw [e1] at c
      dsimp only at c
      refine .inr ⟨g, fun H' => ∃ G' r' acc' accD', St G' H' r' acc' accD' ∧ compM f t me vs (ds.drop (i + 1)) accD' r' = some (res, rf), fun H' ⟨G', r', acc', accD', st', c'⟩ => ⟨ds.length - (i + 1), by omega, rfl, hlt, G', r', acc', accD', st', c'⟩, fun x H1 hy => ?_⟩
      obtain ⟨G1, ex, rx⟩ := y x H1 hy
      refine ⟨G1, r, _, r1, ex.rel R, rx, e1, fun σ2 R2 F2 ws => ?_⟩
      rw [wipe_wipe] at ws
      have F1 : Fr G H r (wipe σ vs) G1 H1 r1 σ2 := (ex.fr r _).trans F2
      refine ⟨ws, ?_⟩
      -- from a row over σ2 back to a wiped one
      have fin : ∀ (G5 H5 : Hp) (r5 : Ro), Rel Θ K G5 H5 r5 σ2 → Fr G H r (wipe σ vs) G5 H5 r5 σ2 → Rel Θ K G5 H5 (wipeR r5 vs) (wipe σ vs) ∧ Fr G H r (wipe σ vs) G5 H5 (wipeR r5 vs) (wipe σ vs) := fun G5 H5 r5 R5 F5 => by
        have Rw := wipe_rel (vs := vs) R5
        rw [ws] at Rw
        refine ⟨Rw, F5.le, fun b u e t n => ?_, fun j fs z => ?_, fun j z => ?_, F5.mono⟩
        · obtain ⟨h1, h2, h3⟩ := F5.keep b u e t n
          refine ⟨h1, fun z => h2 ?_, h3⟩
          rw [← ws] at z
          exact wipe_owned z
        · have hj : j ∉ vs := fun hj => hw j hj _ z
          obtain ⟨⟨fs', h1⟩, h2⟩ := F5.pin j fs z
          exact ⟨⟨fs', by rw [wipeR_out hj]; exact h1⟩, rfl⟩
        · have hj : j ∉ vs := fun hj => hw j hj _ z
          obtain ⟨h1, h2⟩ := F5.lck j z
          exact ⟨by rw [wipeR_out hj]; exact h1, rfl⟩
      have hww : ∀ (r5 : Ro) (j : Nat), j ∈ vs → ∀ x, (wipeR r5 vs)[j]? ≠ some (some x) := fun r5 j hj x z => (wipeR_get z).2 hj
      cases e2 : t r1 with
      | none => rw [e2] at c; cases c
      | some q =>
        obtain ⟨bb, r2⟩ := q
        rw [e2] at c
        refine ⟨G1, r1, R2, bb, r2, e2, fun G3 H3 R3 F3 => ?_⟩
        have F13 := F1.trans F3
        cases bb with
        | false =>
          dsimp only at c ⊢
          rw [if_neg Bool.false_ne_true]
          obtain ⟨Rw, Fw⟩ := fin G3 H3 r2 R3 F13
          obtain ⟨k1, k2, k3⟩ := Fw.keep p _ hHp rfl hOp
          exact ⟨G3, wipeR r2 vs, acc, accD, ⟨Rw, hww r2, F.trans Fw, hP _ _ _ _ _ _ pp Fw, k1, k3 hGp, k2, Reps.mono Fw.le _ _ rs⟩, c⟩
        | true =>
          dsimp only at c ⊢
          rw [if_pos rfl]
          cases e3 : me r2 with
          | none => rw [e3] at c; cases c
          | some q =>
            obtain ⟨yy, r3⟩ := q
            rw [e3] at c
            dsimp only at c
            refine ⟨G3, r2, R3, yy, r3, e3, fun G4 H4 R4 F4 vy ry => ?_⟩
            have F14 := F13.trans F4
            obtain ⟨Rw, Fw⟩ := fin G4 H4 r3 R4 F14
            obtain ⟨k1, k2, k3⟩ := Fw.keep p _ hHp rfl hOp
            split at c
            · rename_i hl
              refine ⟨acc, k1, by rw [rs.length]; exact hl, G4, wipeR r3 vs, acc ++ [vy], accD ++ [yy], ⟨side_rel Rw (k3 hGp) k2 (.inr ⟨_, k1⟩), hww r3, ?_, hPu _ _ _ _ (hP _ _ _ _ _ _ pp Fw), upd_same, k3 hGp, k2, (Reps.mono Fw.le _ _ rs).snoc ry⟩, c⟩
              have FF := F.trans Fw
              exact ⟨FF.le, fun b u e t n => by
                obtain ⟨h1, h2, h3⟩ := FF.keep b u e t n
                exact ⟨by rw [upd_ne (ne_of_none e hp)]; exact h1, h2, h3⟩, FF.pin, FF.lck, fun b h => FF.mono b (by
                  by_cases e : b = p
                  · subst e; cases h _ upd_same
                  · exact fun u z => h u (by rw [upd_ne e]; exact z))⟩
            · cases c
  · have e : i = ds.length := by omega
    subst e
    rw [List.drop_length] at c
    simp only [compM] at c
    cases c
    exact .inl ⟨w1 _ (Nat.le_refl _), hQ G H acc R hw F hHp hGp hOp rs⟩
/-- [e for tg in iter if ..] -/
def lcM (mi : M (List D)) (f : D → Ro → Option Ro) (t : M Bool) (e : M D) (vs : List Nat) : M D := bd mi fun ds r => if okW r vs then match compM f t e vs ds [] (wipeR r vs) with
    | some (res, r') => some (.lst res, back r r' vs)
    | none => none
  else none
theorem lc_read {mi : M (List D)} {f : D → Ro → Option Ro} {t : M Bool} {me : M D} {vs : List Nat} {Q : VK} (q : rdE Θ K (lcM mi f t me vs) σ H Q) : tLc (rdI Θ K mi) (rdW Θ K vs f) (rdT Θ K t) (rdE Θ K me) vs σ H Q := by
  obtain ⟨G, r, R, c⟩ := q
  refine ⟨G, r, R, (cn_bd c).mono fun ds G1 H1 ⟨r1, R1, s1, c1⟩ J hW p hp => ?_⟩
  obtain ⟨d, r', e, k⟩ := c1
  split at e
  · rename_i hok
    cases e2 : compM f t me vs ds [] (wipeR r1 vs) with
    | none => rw [e2] at e; cases e
    | some q =>
      obtain ⟨res, rf⟩ := q
      rw [e2] at e
      cases e
      refine comp_core (C := fun _ => True) (P := fun _ _ _ => True) hW (fun _ _ _ _ _ _ _ _ => trivial) (fun _ _ _ _ _ => trivial) (fun _ _ _ _ => trivial) trivial (wipe_rel R1) (fun j hj x z => (wipeR_get z).2 hj) hp e2 fun G2 H2 acc R2 hw2 F2 h1 h2 h3 h4 => ?_
      obtain ⟨R3, F3⟩ := back_rel hok R1 R2 hw2 F2
      have le : Same G2 (upd G2 p (.lst acc)) := same_new h2 _
      have h3' : ¬ Owned (back r1 rf vs) σ p := fun ⟨j, q, fs, z1, z2⟩ => by
        obtain ⟨a, us, g1, g2, _⟩ := R3.own j q fs z1
        rw [z2] at g1; cases g1
        by_cases hj : j ∈ vs
        · have hlt : j < rf.length := by
            have := (List.getElem?_eq_some_iff.mp z1).1
            rwa [back_length] at this
          rw [back_in hlt (by rw [R2.len, wipe_length, ← R1.len] at hlt; exact hlt) hj] at z1
          rcases okW_at hok hj with e | ⟨d, e⟩ <;> (rw [e] at z1; cases z1)
        · rw [back_out hj] at z1
          exact h3 ⟨j, q, fs, z1, by rw [wipe_outS hj]; exact z2⟩
      refine k (upd G2 p (.lst acc)) H2 ⟨R3.len, fun b u e => ?_, fun j d z => ?_, fun j q fs z => ?_, R3.sep, R3.tab.frz le fun b u e z => by
        by_cases q : b = p
        · subst q; rw [upd_same] at e; cases e; exact ⟨acc, rfl, h1⟩
        · rw [upd_ne q, z] at e; cases e⟩ ⟨F3.le.trans le, fun b u e t n => ?_, F3.pin, F3.lck, F3.mono⟩ (.ref p) (.lst_of upd_same (Reps.mono le _ _ h4))
      · by_cases z : b = p
        · subst z; rw [upd_same] at e; cases e; exact h1
        · rw [upd_ne z] at e; exact R3.sub _ _ e
      · obtain ⟨v, g1, g2⟩ := R3.get j d z
        exact ⟨v, g1, Rep.mono le _ _ g2⟩
      · obtain ⟨a, us, g1, g2, g3, g4⟩ := R3.own j q fs z
        exact ⟨a, us, g1, g2, by rw [upd_ne (fun z' => by subst z'; exact h3' ⟨j, q, fs, z, g1⟩)]; exact g3, Reps.mono le _ _ g4⟩
      · obtain ⟨g1, g2, g3⟩ := F3.keep b u e t n
        exact ⟨g1, g2, fun z => by rw [upd_ne (ne_of_none e hp)]; exact g3 z⟩
  · cases e
theorem se_lc {elt : Expr} {ifs : List Expr} {scope : Scope} {own : List (Str × Nat)} {mi : M (List D)} {f : D → Ro → Option Ro} {t : M Bool} {me : M D} (hc : X.calm = true) (hN : X.N.Nodup) (hi : SI Θ X tg iter mi) (ok : BlkOk X.N X.env.scope scope own)
    (hg : ∀ (s : Shared) (H : Hp) (C : Addr) (cl : List (Str × Addr)) (fp : List Addr), SGw Θ (X.blk s H scope (compEnvC scope cl C X.env) fp) (own.map (·.2)) tg f) (ht : ∀ (s : Shared) (H : Hp) (C : Addr) (cl : List (Str × Addr)) (fp : List Addr), SQ Θ (X.blk s H scope (compEnvC scope cl C X.env) fp) ifs t)
    (he : ∀ (s : Shared) (H : Hp) (C : Addr) (cl : List (Str × Addr)) (fp : List Addr), SE Θ (X.blk s H scope (compEnvC scope cl C X.env) fp) elt me) (hs : ∀ x, foldedSetIterable iter X.env x = pure x := by intro _; rfl) :
    SE Θ X (.ListComp elt [⟨tg, iter, ifs, 0⟩] scope pos) (lcM mi f t me (own.map (·.2))) :=
  pe_imp (pe_lc hc hN hi ok hg ht he hs) fun σ H Q q => lc_read q
theorem ss_setLc {y : Str} {py spos : Pos} {elt : Expr} {ifs : List Expr} {scope : Scope} {own : List (Str × Nat)} {mi : M (List D)} {f : D → Ro → Option Ro} {t : M Bool} {me : M D} (hc : X.calm = true) (hN : X.N.Nodup) (hy : X.N[i]? = some y) (hyl : X.env.scope.names.lookup y = some .local)
    (hsw : swapsWith (.ListComp elt [⟨tg, iter, ifs, 0⟩] scope pos) (some (.Name y py)) spos.line X.env = pure true) (hi : SI Θ X tg iter mi) (ok : BlkOk X.N X.env.scope scope own)
    (hg : ∀ (s : Shared) (H : Hp) (C : Addr) (cl : List (Str × Addr)) (fp : List Addr), SGw Θ (X.blk s H scope (compEnvC scope cl C X.env) fp) (own.map (·.2)) tg f) (ht : ∀ (s : Shared) (H : Hp) (C : Addr) (cl : List (Str × Addr)) (fp : List Addr), SQ Θ (X.blk s H scope (compEnvC scope cl C X.env) fp) ifs t)
    (he : ∀ (s : Shared) (H : Hp) (C : Addr) (cl : List (Str × Addr)) (fp : List Addr), SE Θ (X.blk s H scope (compEnvC scope cl C X.env) fp) elt me) (hs : ∀ x, foldedSetIterable iter X.env x = pure x := by intro _; rfl) :
    SS Θ X (.Assign [.Name y py] (.ListComp elt [⟨tg, iter, ifs, 0⟩] scope pos) spos) (bd (lcM mi f t me (own.map (·.2))) fun d => nxt (setD i d)) :=
  ps_imp (ps_setLc hc hN hy hyl hsw hi ok hg ht he hs) fun σ H E q => by
    have q' : tAsg (rdE Θ X.kp (lcM mi f t me (own.map (·.2)))) (gName i) E σ H := asg_read nm_read q
    exact lc_read q'
end
end Pk

namespace Pk
open PySem PySem.Spec PyProof.Rows L2
/-! ### what is handed to a def: values, or names of lists of one's own -/
inductive Ar where
  | v (d : D) | s (i : Nat)
def ArR (K : KP) (G : Hp) (σ : L2.St) : List Ar → List V → Prop
  | [], vs => vs = []
  | .v d :: as, vs => ∃ u r, vs = u :: r ∧ Rep K G d u ∧ ArR K G σ as r
  | .s i :: as, vs => ∃ u r, vs = u :: r ∧ σ[i]? = some (some u) ∧ ArR K G σ as r
section
variable {K : KP} {G G' H : Hp} {σ : L2.St} {r : Ro}
theorem ArR.mono (g : Same G G') : ∀ {as : List Ar} {vs : List V}, ArR K G σ as vs → ArR K G' σ as vs
  | [], _, h => h
  | .v d :: as, _, ⟨u, r, e, h1, h2⟩ => ⟨u, r, e, Rep.mono g _ _ h1, ArR.mono g h2⟩
  | .s i :: as, _, ⟨u, r, e, h1, h2⟩ => ⟨u, r, e, h1, ArR.mono g h2⟩
def slots : List Ar → List Nat
  | [] => []
  | .v _ :: as => slots as
  | .s i :: as => i :: slots as
def argS (r : Ro) : List Ar → Option Ro
  | [] => some []
  | .v d :: as => match argS r as with
    | some ss => some (some (.d d) :: ss)
    | none => none
  | .s i :: as => match r[i]? with
    | some (some (.own _ ds)) => match argS r as with
      | some ss => some (some (.own true ds) :: ss)
      | none => none
    | _ => none
def putB (r : Ro) : List Ar → Ro → Ro
  | .v _ :: as, _ :: ss => putB r as ss
  | .s i :: as, some (.own _ ds) :: ss => match r[i]? with
    | some (some (.own p _)) => (putB r as ss).set i (some (.own p ds))
    | _ => putB r as ss
  | _, _ => r
theorem arR_length : ∀ {as : List Ar} {vs : List V}, ArR K G σ as vs → vs.length = as.length
  | [], _, h => by rw [show _ = [] from h]; rfl
  | .v d :: as, _, ⟨u, r, e, _, h⟩ => by subst e; rw [List.length_cons, List.length_cons, arR_length h]
  | .s i :: as, _, ⟨u, r, e, _, h⟩ => by subst e; rw [List.length_cons, List.length_cons, arR_length h]
theorem argS_length : ∀ {as : List Ar} {ss : Ro}, argS r as = some ss → ss.length = as.length
  | [], _, h => by cases h; rfl
  | .v d :: as, ss, h => by
    simp only [argS] at h
    cases e : argS r as with
    | none => rw [e] at h; cases h
    | some ss' => rw [e] at h; cases h; rw [List.length_cons, List.length_cons, argS_length e]
  | .s i :: as, ss, h => by
    simp only [argS] at h
    split at h
    · cases e : argS r as with
      | none => rw [e] at h; cases h
      | some ss' => rw [e] at h; cases h; rw [List.length_cons, List.length_cons, argS_length e]
    · cases h
theorem arg_at : ∀ {as : List Ar} {ss : Ro} {vs : List V} {k : Nat} {x : Option S}, argS r as = some ss → ArR K G σ as vs → ss[k]? = some x →
    (∃ d v, x = some (.d d) ∧ vs[k]? = some v ∧ Rep K G d v ∧ ∃ d', as[k]? = some (.v d')) ∨ (∃ i p ds v, as[k]? = some (.s i) ∧ x = some (.own true ds) ∧ r[i]? = some (some (.own p ds)) ∧ vs[k]? = some v ∧ σ[i]? = some (some v))
  | [], _, _, k, x, h, _, e => by cases h; simp at e
  | .v d :: as, ss, vs, k, x, h, ⟨u, t, e0, h1, h2⟩, e => by
    subst e0
    simp only [argS] at h
    split at h
    · rename_i ss' e1
      cases h
      cases k with
      | zero => simp at e; subst e; exact .inl ⟨d, u, rfl, rfl, h1, d, rfl⟩
      | succ k => simpa using arg_at e1 h2 (k := k) (by simpa using e)
    · cases h
  | .s i :: as, ss, vs, k, x, h, ⟨u, t, e0, h1, h2⟩, e => by
    subst e0
    simp only [argS] at h
    split at h
    · rename_i p ds hi
      split at h
      · rename_i ss' e1
        cases h
        cases k with
        | zero => simp at e; subst e; exact .inr ⟨i, p, ds, u, rfl, rfl, hi, rfl, h1⟩
        | succ k => simpa using arg_at e1 h2 (k := k) (by simpa using e)
      · cases h
    · cases h
theorem slots_mem : ∀ {as : List Ar} {k i : Nat}, as[k]? = some (.s i) → i ∈ slots as
  | [], k, i, h => by simp at h
  | .v d :: as, k, i, h => by
    cases k with
    | zero => simp at h
    | succ k => exact slots_mem (as := as) (k := k) (by simpa using h)
  | .s j :: as, k, i, h => by
    cases k with
    | zero => simp at h; subst h; exact List.mem_cons_self ..
    | succ k => exact List.mem_cons_of_mem _ (slots_mem (as := as) (k := k) (by simpa using h))
theorem slots_inj : ∀ {as : List Ar} {k l i : Nat}, (slots as).Nodup → as[k]? = some (.s i) → as[l]? = some (.s i) → k = l
  | [], k, l, i, _, h, _ => by simp at h
  | .v d :: as, k, l, i, n, h1, h2 => by
    cases k with
    | zero => simp at h1
    | succ k =>
      cases l with
      | zero => simp at h2
      | succ l => exact congrArg (· + 1) (slots_inj (as := as) (k := k) (l := l) n (by simpa using h1) (by simpa using h2))
  | .s j :: as, k, l, i, n, h1, h2 => by
    obtain ⟨n1, n2⟩ := List.nodup_cons.mp (show (j :: slots as).Nodup from n)
    cases k with
    | zero =>
      simp at h1; subst h1
      cases l with
      | zero => rfl
      | succ l => exact absurd (slots_mem (as := as) (k := l) (by simpa using h2)) n1
    | succ k =>
      cases l with
      | zero =>
        simp at h2; subst h2
        exact absurd (slots_mem (as := as) (k := k) (by simpa using h1)) n1
      | succ l => exact congrArg (· + 1) (slots_inj (as := as) (k := k) (l := l) n2 (by simpa using h1) (by simpa using h2))
theorem putB_length : ∀ {as : List Ar} {ss : Ro}, (putB r as ss).length = r.length
  | [], _ => by unfold putB; rfl
  | .v d :: as, [] => by unfold putB; rfl
  | .v d :: as, x :: ss => by unfold putB; exact putB_length
  | .s i :: as, [] => by unfold putB; rfl
  | .s i :: as, none :: ss => by unfold putB; rfl
  | .s i :: as, some (.d _) :: ss => by unfold putB; rfl
  | .s i :: as, some .lock :: ss => by unfold putB; rfl
  | .s i :: as, some (.own p ds) :: ss => by
    simp only [putB]
    split
    · rw [List.length_set]; exact putB_length
    · exact putB_length
theorem putB_at : ∀ {as : List Ar} {ss : Ro} {j : Nat}, (slots as).Nodup → as.length = ss.length → (∀ (k i : Nat), as[k]? = some (Ar.s i) → (∃ ds, ss[k]? = some (some (S.own true ds))) ∧ ∃ p ds, r[i]? = some (some (S.own p ds))) →
    (∃ (k : Nat) (ds' : List D) (p : Bool) (ds : List D), as[k]? = some (.s j) ∧ ss[k]? = some (some (.own true ds')) ∧ r[j]? = some (some (.own p ds)) ∧ (putB r as ss)[j]? = some (some (.own p ds'))) ∨ ((∀ (k : Nat), as[k]? ≠ some (Ar.s j)) ∧ (putB r as ss)[j]? = r[j]?)
  | [], ss, j, _, _, _ => .inr ⟨fun k => by simp, by unfold putB; rfl⟩
  | .v d :: as, [], j, _, l, _ => by cases l
  | .s i :: as, [], j, _, l, _ => by cases l
  | .v d :: as, x :: ss, j, n, l, h => by
    have ih := putB_at (as := as) (ss := ss) (j := j) n (by simpa using l) (fun k i e => by simpa using h (k + 1) i (by simpa using e))
    rcases ih with ⟨k, ds', p, ds, h1, h2, h3, h4⟩ | ⟨h1, h2⟩
    · exact .inl ⟨k + 1, ds', p, ds, by simpa using h1, by simpa using h2, h3, by unfold putB; exact h4⟩
    · refine .inr ⟨fun k => ?_, by unfold putB; exact h2⟩
      cases k with
      | zero => simp
      | succ k => simpa using h1 k
  | .s i :: as, x :: ss, j, n, l, h => by
    obtain ⟨n1, n2⟩ := List.nodup_cons.mp (show (i :: slots as).Nodup from n)
    obtain ⟨⟨ds0, e0⟩, p0, es0, f0⟩ := h 0 i rfl
    have ih := putB_at (as := as) (ss := ss) (j := j) n2 (by simpa using l) (fun k i e => by simpa using h (k + 1) i (by simpa using e))
    simp at e0
    subst e0
    have hp : putB r (.s i :: as) (some (.own true ds0) :: ss) = (putB r as ss).set i (some (.own p0 ds0)) := by
      conv => lhs; unfold putB
      simp only [f0]
    rw [hp]
    have hl : i < (putB r as ss).length := by rw [putB_length]; exact (List.getElem?_eq_some_iff.mp f0).1
    by_cases hj : i = j
    · subst hj
      exact .inl ⟨0, ds0, p0, es0, rfl, rfl, f0, List.getElem?_set_self hl⟩
    · rcases ih with ⟨k, ds', p, ds, h1, h2, h3, h4⟩ | ⟨h1, h2⟩
      · exact .inl ⟨k + 1, ds', p, ds, by simpa using h1, by simpa using h2, h3, by rw [List.getElem?_set_ne hj]; exact h4⟩
      · refine .inr ⟨fun k => ?_, by rw [List.getElem?_set_ne hj]; exact h2⟩
        cases k with
        | zero => simp; exact hj
        | succ k => simpa using h1 k
/-- the callee's row -/
theorem args_rel (R : Rel Θ K G H r σ) {as : List Ar} {ss : Ro} {vs : List V} (h : argS r as = some ss) (q : ArR K G σ as vs) (n : (slots as).Nodup) : Rel Θ K G H ss (vs.map some) := by
  have vget : ∀ {k : Nat} {u : V}, vs[k]? = some u → (vs.map some)[k]? = some (some u) := fun {k u} e => by rw [List.getElem?_map, e]; rfl
  refine ⟨by rw [List.length_map, argS_length h, arR_length q], R.sub, fun k d z => ?_, fun k p ds z => ?_, fun k l p ds p' es a z1 z2 e1 e2 => ?_, R.tab⟩
  · rcases arg_at h q z with ⟨d', v, e, h1, h2, _⟩ | ⟨i, p, ds, v, _, e, _⟩
    · cases e; exact ⟨v, vget h1, h2⟩
    · cases e
  · rcases arg_at h q z with ⟨d', v, e, _⟩ | ⟨i, p', es, v, h1, e, h2, h3, h4⟩
    · cases e
    · cases e
      obtain ⟨a, us, g1, g2, g3, g4⟩ := R.own i p' _ h2
      rw [h4] at g1
      cases g1
      exact ⟨a, us, vget h3, g2, g3, g4⟩
  · rcases arg_at h q z1 with ⟨d', v, e, _⟩ | ⟨i, p1, ds1, v, h1, e, h2, h3, h4⟩
    · cases e
    · rcases arg_at h q z2 with ⟨d', v', e', _⟩ | ⟨j, p2, ds2, v', h1', e', h2', h3', h4'⟩
      · cases e'
      · rw [vget h3] at e1
        rw [vget h3'] at e2
        cases e1
        cases e2
        have := R.sep i j p1 ds1 p2 ds2 a h2 h2' h4 h4'
        subst this
        exact slots_inj n h1 h1'
theorem args_owned {as : List Ar} {ss : Ro} {vs : List V} (h : argS r as = some ss) (q : ArR K G σ as vs) {b : Addr} (o : Owned ss (vs.map some) b) : Owned r σ b ∧ ∃ (k i : Nat), as[k]? = some (Ar.s i) ∧ σ[i]? = some (some (.ref b)) := by
  obtain ⟨k, p, ds, z1, z2⟩ := o
  rcases arg_at h q z1 with ⟨d', v, e, _⟩ | ⟨i, p1, ds1, v, h1, e, h2, h3, h4⟩
  · cases e
  · rw [List.getElem?_map, h3] at z2
    cases z2
    exact ⟨⟨i, p1, ds1, h2, h4⟩, k, i, h1, h4⟩
/-- behind a call -/
theorem call_rel (R : Rel Θ K G H r σ) {as : List Ar} {ss ss' : Ro} {vs : List V} (h : argS r as = some ss) (q : ArR K G σ as vs) (n : (slots as).Nodup) {G' H' : Hp} (R' : Rel Θ K G' H' ss' (vs.map some)) (F : Fr G H ss (vs.map some) G' H' ss' (vs.map some)) :
    Rel Θ K G' H' (putB r as ss') σ ∧ Fr G H r σ G' H' (putB r as ss') σ := by
  have hl : as.length = ss'.length := by rw [R'.len, List.length_map, arR_length q]
  have ask : ∀ (k i : Nat), as[k]? = some (Ar.s i) → (∃ ds, ss'[k]? = some (some (.own true ds))) ∧ ∃ p ds, r[i]? = some (some (.own p ds)) := fun k i e => by
    have hk : k < ss.length := by rw [argS_length h]; exact (List.getElem?_eq_some_iff.mp e).1
    rcases arg_at h q (List.getElem?_eq_getElem hk) with ⟨d', v, _, _, _, d2, e2⟩ | ⟨i', p, ds, v, h1, e2, h2, h3, h4⟩
    · rw [e] at e2; cases e2
    · rw [e] at h1
      cases h1
      obtain ⟨⟨ds', g1⟩, _⟩ := F.pin k ds (by rw [List.getElem?_eq_getElem hk, e2])
      exact ⟨⟨ds', g1⟩, p, ds, h2⟩
  have at_ := fun j => putB_at (r := r) (j := j) n hl ask
  have adr : ∀ {k j : Nat} {u : V}, as[k]? = some (.s j) → vs[k]? = some u → σ[j]? = some (some u) := fun {k j u} e hv => by
    have hk : k < ss.length := by rw [argS_length h]; exact (List.getElem?_eq_some_iff.mp e).1
    rcases arg_at h q (List.getElem?_eq_getElem hk) with ⟨d', v, _, _, _, d2, e2⟩ | ⟨i', p, ds, v, h1, e2, h2, h3, h4⟩
    · rw [e] at e2; cases e2
    · rw [e] at h1
      cases h1
      rw [hv] at h3
      cases h3
      exact h4
  have was : ∀ {j : Nat} {p : Bool} {ds : List D}, (putB r as ss')[j]? = some (some (.own p ds)) → ∃ es, r[j]? = some (some (.own p es)) := fun {j p ds} z => by
    rcases at_ j with ⟨k, ds', p', es, h1, h2, h3, h4⟩ | ⟨h1, h2⟩
    · rw [h4] at z
      cases z
      exact ⟨es, h3⟩
    · rw [h2] at z
      exact ⟨ds, z⟩
  refine ⟨⟨by rw [putB_length]; exact R.len, R'.sub, fun j d z => ?_, fun j p ds z => ?_, fun j k p ds p' es a z1 z2 e1 e2 => ?_, R'.tab⟩, ⟨F.le, fun b u e t no => ?_, fun j ds z => ⟨?_, rfl⟩, fun j z => ⟨?_, rfl⟩, F.mono⟩⟩
  · rcases at_ j with ⟨k, ds', p', es, h1, h2, h3, h4⟩ | ⟨h1, h2⟩
    · rw [h4] at z; cases z
    · rw [h2] at z
      obtain ⟨v, g1, g2⟩ := R.get j d z
      exact ⟨v, g1, Rep.mono F.le _ _ g2⟩
  · rcases at_ j with ⟨k, ds', p', es, h1, h2, h3, h4⟩ | ⟨h1, h2⟩
    · rw [h4] at z
      cases z
      obtain ⟨a, us, g1, g2, g3, g4⟩ := R'.own k true _ h2
      rw [List.getElem?_map] at g1
      cases hv : vs[k]? with
      | none => rw [hv] at g1; cases g1
      | some u =>
        rw [hv] at g1
        cases g1
        exact ⟨a, us, adr h1 hv, g2, g3, g4⟩
    · rw [h2] at z
      obtain ⟨a, us, g1, g2, g3, g4⟩ := R.own j p ds z
      have no : ¬ Owned ss (vs.map some) a := fun o => by
        obtain ⟨_, k, i, h3, h4⟩ := args_owned h q o
        obtain ⟨_, p', es, h5⟩ := ask k i h3
        have := R.sep i j p' es p ds a h5 z h4 g1
        subst this
        exact h1 k h3
      obtain ⟨k1, k2, k3⟩ := F.keep a _ g2 rfl no
      exact ⟨a, us, g1, k1, k3 g3, Reps.mono F.le _ _ g4⟩
  · obtain ⟨es1, w1⟩ := was z1
    obtain ⟨es2, w2⟩ := was z2
    exact R.sep j k p es1 p' es2 a w1 w2 e1 e2
  · obtain ⟨k1, k2, k3⟩ := F.keep b u e t (fun o => no (args_owned h q o).1)
    refine ⟨k1, fun o => ?_, k3⟩
    obtain ⟨j, p, ds, z1, z2⟩ := o
    obtain ⟨es, w⟩ := was z1
    exact no ⟨j, p, es, w, z2⟩
  · rcases at_ j with ⟨k, ds', p', es, h1, h2, h3, h4⟩ | ⟨h1, h2⟩
    · rw [z] at h3
      cases h3
      exact ⟨ds', h4⟩
    · exact ⟨ds, by rw [h2]; exact z⟩
  · rcases at_ j with ⟨k, ds', p', es, h1, h2, h3, h4⟩ | ⟨h1, h2⟩
    · rw [z] at h3; cases h3
    · rw [h2]; exact z
end
def rdR (Θ : List (Addr × Str)) (K : KP) (m : M (List Ar)) : TA := fun σ H Q => ∃ G r, Rel Θ K G H r σ ∧ Cn Θ K G H r σ (m r) fun as G' H' => ∀ vs, ArR K G' σ as vs → Q vs H'
abbrev SR (Θ : List (Addr × Str)) (X : Cx) (es : List Expr) (m : M (List Ar)) : Prop := PA X es (rdR Θ X.kp m)
/-- the promise of a def that does F with n arguments -/
def spF (Θ : List (Addr × Str)) (K : KP) (n : Nat) (F : M D) : Sp := fun vs H Q _ => vs.length = n ∧ rdE Θ K F (vs.map some) H Q
def callM (n : Nat) (F : M D) (as : List Ar) : M D := fun r => if as.length = n ∧ (slots as).Nodup then match argS r as with
    | some ss => match F ss with
      | some (d, ss') => some (d, putB r as ss')
      | none => none
    | none => none
  else none
section
variable {X : Cx} {e a b c tg iter : Expr} {es : List Expr} {pos p : Pos} {ma mb mc m : M D} {i : Nat} {ml : M (List Ar)} {x : Str}
theorem sr_nil : SR Θ X [] (rt []) := pa_imp pa_nil fun σ H Q q => by
  obtain ⟨G, r0, R, c⟩ := q
  exact cn_rt R c G H (Ext.refl _ _) [] rfl
theorem sr_v (ha : SE Θ X e m) (hr : SR Θ X es ml) (hs : starEach (e :: es) X.env = (false, eval e X.env) :: starEach es X.env := by rfl) : SR Θ X (e :: es) (bd m fun x => bd ml fun xs => rt (.v x :: xs)) := pa_imp (pa_cons ha hr hs) fun σ H Q q => by
  obtain ⟨G, r0, R, c⟩ := q
  refine ⟨G, r0, R, (cn_bd c).mono fun x G1 H1 ⟨r1, R1, s1, c1⟩ vx rx => ⟨G1, r1, R1, (cn_bd c1).mono fun xs G2 H2 ⟨r2, R2, s2, c2⟩ vs rs => ?_⟩⟩
  exact cn_rt R2 c2 G2 H2 (Ext.refl _ _) _ ⟨vx, vs, rfl, Rep.mono s2 _ _ rx, rs⟩
theorem sr_s (ha : PE X e (tVar i)) (hr : SR Θ X es ml) (hs : starEach (e :: es) X.env = (false, eval e X.env) :: starEach es X.env := by rfl) : SR Θ X (e :: es) (bd (own i) fun _ => bd ml fun xs => rt (.s i :: xs)) := pa_imp (pa_cons ha hr hs) fun σ H Q q => by
  obtain ⟨G, r0, R, c⟩ := q
  obtain ⟨p0, ds0, hi0, c⟩ := cn_own c
  obtain ⟨a, vs0, h1, h2, h3, h4⟩ := R.own i p0 ds0 hi0
  refine ⟨.ref a, h1, G, r0, R, (cn_bd c).mono fun xs G2 H2 ⟨r2, R2, s2, c2⟩ vs rs => ?_⟩
  exact cn_rt R2 c2 G2 H2 (Ext.refl _ _) _ ⟨_, vs, rfl, h1, rs⟩
theorem callM_some {n : Nat} {F : M D} {as : List Ar} {r r' : Ro} {d : D} (h : callM n F as r = some (d, r')) : as.length = n ∧ (slots as).Nodup ∧ ∃ ss ss', argS r as = some ss ∧ F ss = some (d, ss') ∧ r' = putB r as ss' := by
  unfold callM at h
  split at h
  · rename_i hc
    split at h
    · rename_i ss e1
      split at h
      · rename_i d' ss' e2
        cases h
        exact ⟨hc.1, hc.2, ss, ss', e1, e2, rfl⟩
      · cases h
    · cases h
  · cases h
theorem call_rd {n : Nat} {F : M D} {E : XK} {σ : L2.St} {H : Hp} {Q : VK} (q : rdE Θ X.kp (bd ml fun as => callM n F as) σ H Q) : tCall (spF Θ X.kp n F) [] E (rdR Θ X.kp ml) σ H Q := by
  obtain ⟨G, r0, R, c⟩ := q
  refine ⟨G, r0, R, (cn_bd c).mono fun as G1 H1 ⟨r1, R1, s1, c1⟩ vs rs => ?_⟩
  obtain ⟨d, r', e, k⟩ := c1
  obtain ⟨hn, hd, ss, ss', e1, e2, rfl⟩ := callM_some e
  rw [List.append_nil]
  refine ⟨by rw [arR_length rs]; exact hn, G1, ss, args_rel R1 e1 rs hd, d, ss', e2, fun G2 H2 R2 F2 => ?_⟩
  obtain ⟨R3, F3⟩ := call_rel R1 e1 rs hd R2 F2
  exact k G2 H2 R3 F3
theorem se_call {CX : CXT} {k n : Nat} {f : Addr} {fd : FuncData} {ps : List Str} {F : M D} (G : FnOk X.prog X.w X.kp X.mg X.base CX0 k f fd ps (spF Θ X.kp n F)) (hr : Room k X.A) (hg : Gl X x) (hm : X.mg x = some (.ref f)) (hk : PySem.W.keepIn X.kp (.ref f) = true) (hb : Binds X.kp fd ps [])
    (ha : SR Θ X (e :: es) ml) (hdb : (x == ("__debug__" : Str)) = false := by decide) (he : starEach (e :: es) X.env = (false, eval e X.env) :: starEach es X.env := by rfl) (hpl : (backTo pos (starEach es X.env)).any (·.1) = false := by rfl) :
    SE Θ X (.Call (.Name x p) (e :: es) [] pos) (bd ml fun as => callM n F as) :=
  pe_imp (pe_call (E := E0) G hr hg hm hk hb .nil pass0 ha hdb he hpl) fun σ H Q q => call_rd q
/-! ### a def by its body -/
def pinS : Option S → Option S
  | some (.own _ ds) => some (.own true ds)
  | x => x
def unS : Option S → Option S → Option S
  | some (.own p _), some (.own _ ds) => some (.own p ds)
  | x, _ => x
def outS : Ro → Ro → Ro
  | [], _ => []
  | x :: xs, [] => x :: xs
  | x :: xs, y :: ys => unS x y :: outS xs ys
theorem outS_length : ∀ {r r' : Ro}, (outS r r').length = r.length
  | [], _ => rfl
  | x :: xs, [] => rfl
  | x :: xs, y :: ys => by unfold outS; rw [List.length_cons, List.length_cons, outS_length]
theorem outS_get : ∀ {r r' : Ro} {j : Nat} {x : Option S}, (outS r r')[j]? = some x → ∃ y, r[j]? = some y ∧ ((r'[j]? = none ∧ x = y) ∨ ∃ z, r'[j]? = some z ∧ x = unS y z)
  | [], _, _, _, e => by simp [outS] at e
  | y :: xs, [], j, x, e => ⟨x, e, .inl ⟨by simp, rfl⟩⟩
  | y :: xs, z :: zs, 0, x, e => by
    simp [outS] at e
    exact ⟨y, rfl, .inr ⟨z, rfl, e.symm⟩⟩
  | y :: xs, z :: zs, j + 1, x, e => by
    have := outS_get (r := xs) (r' := zs) (j := j) (by simpa [outS] using e)
    simpa using this
def bodyF (n nl : Nat) (m : M Fl) : M D := fun r => if r.length = n then match m (r.map pinS ++ List.replicate nl none) with
    | some (.nx, r') => some (.non, outS r r')
    | some (.rt d, r') => some (d, outS r r')
    | _ => none
  else none
theorem pinS_own {x : Option S} {p : Bool} {ds : List D} (h : pinS x = some (.own p ds)) : p = true ∧ ∃ q, x = some (.own q ds) := by
  cases x with
  | none => cases h
  | some s => cases s with
    | d d => cases h
    | own q es => cases h; exact ⟨rfl, q, rfl⟩
    | lock => cases h
theorem body_in {K : KP} {G H : Hp} {r : Ro} {vs : List V} {N : List Str} {nl : Nat} (R : Rel Θ K G H r (vs.map some)) (hN : N.length = vs.length + nl) : Rel Θ K G H (r.map pinS ++ List.replicate nl none) (L2.start N vs) ∧
    (∀ b, Owned (r.map pinS ++ List.replicate nl none) (L2.start N vs) b → Owned r (vs.map some) b) := by
  have hl : r.length = vs.length := by rw [R.len, List.length_map]
  have es : L2.start N vs = vs.map some ++ List.replicate nl none := by
    unfold L2.start
    rw [show N.length - vs.length = nl by omega]
  rw [es]
  have get : ∀ {j : Nat} {x : S}, (r.map pinS ++ List.replicate nl none)[j]? = some (some x) → j < r.length ∧ (r.map pinS)[j]? = some (some x) := fun {j x} z => by
    by_cases h : j < (r.map pinS).length
    · rw [List.getElem?_append_left h] at z
      exact ⟨by simpa using h, z⟩
    · rw [List.getElem?_append_right (by omega), List.getElem?_replicate] at z
      split at z <;> cases z
  have sg : ∀ {j : Nat}, j < r.length → (vs.map some ++ List.replicate nl none)[j]? = (vs.map some)[j]? := fun {j} h => List.getElem?_append_left (by rw [List.length_map]; omega)
  have own : ∀ {j : Nat} {p : Bool} {ds : List D}, (r.map pinS ++ List.replicate nl none)[j]? = some (some (.own p ds)) → j < r.length ∧ ∃ q, r[j]? = some (some (.own q ds)) := fun {j p ds} z => by
    obtain ⟨h1, h2⟩ := get z
    rw [List.getElem?_map] at h2
    cases e : r[j]? with
    | none => rw [e] at h2; cases h2
    | some x =>
      rw [e] at h2
      obtain ⟨_, q, hq⟩ := pinS_own (Option.some.inj h2)
      exact ⟨h1, q, by rw [hq]⟩
  refine ⟨⟨by simp [R.len], R.sub, fun j d z => ?_, fun j p ds z => ?_, fun j k p ds q es a z1 z2 e1 e2 => ?_, R.tab⟩, fun b o => ?_⟩
  · obtain ⟨h1, h2⟩ := get z
    rw [sg h1]
    rw [List.getElem?_map] at h2
    cases e : r[j]? with
    | none => rw [e] at h2; cases h2
    | some x =>
      rw [e] at h2
      have h3 : pinS x = some (.d d) := Option.some.inj h2
      refine R.get j d ?_
      rw [e]
      cases x with
      | none => cases h3
      | some s => cases s with
        | d d' => cases h3; rfl
        | own q es => cases h3
        | lock => cases h3
  · obtain ⟨h1, q, h2⟩ := own z
    rw [sg h1]
    exact R.own j q ds h2
  · obtain ⟨h1, q1, w1⟩ := own z1
    obtain ⟨h2, q2, w2⟩ := own z2
    rw [sg h1] at e1
    rw [sg h2] at e2
    exact R.sep j k q1 ds q2 es a w1 w2 e1 e2
  · obtain ⟨j, p, ds, z1, z2⟩ := o
    obtain ⟨h1, q1, w1⟩ := own z1
    rw [sg h1] at z2
    exact ⟨j, q1, ds, w1, z2⟩
theorem body_out {K : KP} {G H G' H' : Hp} {r r' : Ro} {vs : List V} {N : List Str} {nl : Nat} {σ' : L2.St} (R : Rel Θ K G H r (vs.map some)) (hN : N.length = vs.length + nl) (R' : Rel Θ K G' H' r' σ') (F : Fr G H (r.map pinS ++ List.replicate nl none) (L2.start N vs) G' H' r' σ') :
    Rel Θ K G' H' (outS r r') (vs.map some) ∧ Fr G H r (vs.map some) G' H' (outS r r') (vs.map some) := by
  have hl : r.length = vs.length := by rw [R.len, List.length_map]
  have es : L2.start N vs = vs.map some ++ List.replicate nl none := by
    unfold L2.start
    rw [show N.length - vs.length = nl by omega]
  obtain ⟨R0, O0⟩ := body_in (nl := nl) R hN
  -- a lent list's slot, behind the body
  have lent : ∀ {j : Nat} {p : Bool} {ds : List D}, r[j]? = some (some (.own p ds)) → ∃ ds', r'[j]? = some (some (.own true ds')) ∧ σ'[j]? = (vs.map some)[j]? := fun {j p ds} z => by
    have hj : j < r.length := (List.getElem?_eq_some_iff.mp z).1
    have z' : (r.map pinS ++ List.replicate nl none)[j]? = some (some (.own true ds)) := by
      rw [List.getElem?_append_left (by rw [List.length_map]; exact hj), List.getElem?_map, z]; rfl
    obtain ⟨⟨ds', h1⟩, h2⟩ := F.pin j ds z'
    refine ⟨ds', h1, ?_⟩
    rw [h2, es, List.getElem?_append_left (by rw [List.length_map]; omega)]
  have get : ∀ {j : Nat} {d : D}, (outS r r')[j]? = some (some (.d d)) → r[j]? = some (some (.d d)) := fun {j d} z => by
    obtain ⟨y, h1, h2⟩ := outS_get z
    rcases h2 with ⟨_, rfl⟩ | ⟨w, h2, h3⟩
    · exact h1
    · rw [h1]
      cases y with
      | none => cases w <;> cases h3
      | some t => cases t with
        | d d' => cases w <;> (cases h3; rfl)
        | own p ds => cases w with
          | none => cases h3
          | some q => cases q <;> cases h3
        | lock => cases w <;> cases h3
  have own : ∀ {j : Nat} {p : Bool} {ds : List D}, (outS r r')[j]? = some (some (.own p ds)) → (∃ es, r[j]? = some (some (.own p es))) ∧ r'[j]? = some (some (.own true ds)) ∧ σ'[j]? = (vs.map some)[j]? := fun {j p ds} z => by
    obtain ⟨y, h1, h2⟩ := outS_get z
    cases y with
    | none =>
      rcases h2 with ⟨_, e⟩ | ⟨w, _, e⟩
      · cases e
      · cases w <;> cases e
    | some t => cases t with
      | d d' =>
        rcases h2 with ⟨_, e⟩ | ⟨w, _, e⟩
        · cases e
        · cases w <;> cases e
      | lock =>
        rcases h2 with ⟨_, e⟩ | ⟨w, _, e⟩
        · cases e
        · cases w <;> cases e
      | own q es =>
        obtain ⟨ds', g1, g2⟩ := lent h1
        rcases h2 with ⟨e, _⟩ | ⟨w, e1, e⟩
        · rw [e] at g1; cases g1
        · rw [g1] at e1
          cases e1
          cases e
          exact ⟨⟨es, h1⟩, g1, g2⟩
  refine ⟨⟨by rw [outS_length, R.len], R'.sub, fun j d z => ?_, fun j p ds z => ?_, fun j k p ds q es a z1 z2 e1 e2 => ?_, R'.tab⟩, ⟨F.le, fun b u e t n => ?_, fun j ds z => ⟨?_, rfl⟩, fun j z => ⟨?_, rfl⟩, F.mono⟩⟩
  · obtain ⟨v, g1, g2⟩ := R.get j d (get z)
    exact ⟨v, g1, Rep.mono F.le _ _ g2⟩
  · obtain ⟨_, h1, h2⟩ := own z
    obtain ⟨a, us, g1, g2⟩ := R'.own j true ds h1
    exact ⟨a, us, by rw [← h2]; exact g1, g2⟩
  · obtain ⟨_, h1, h2⟩ := own z1
    obtain ⟨_, h3, h4⟩ := own z2
    exact R'.sep j k true ds true es a h1 h3 (by rw [h2]; exact e1) (by rw [h4]; exact e2)
  · obtain ⟨k1, k2, k3⟩ := F.keep b u e t (fun o => n (O0 b o))
    refine ⟨k1, fun o => ?_, k3⟩
    obtain ⟨j, p, ds, z1, z2⟩ := o
    obtain ⟨_, h1, h2⟩ := own z1
    exact k2 ⟨j, true, ds, h1, by rw [h2]; exact z2⟩
  · obtain ⟨ds', g1, _⟩ := lent z
    refine ⟨ds', ?_⟩
    have hj : j < (outS r r').length := by rw [outS_length]; exact (List.getElem?_eq_some_iff.mp z).1
    obtain ⟨y, h1, h2⟩ := outS_get (List.getElem?_eq_getElem hj)
    rw [z] at h1
    cases h1
    rw [List.getElem?_eq_getElem hj]
    rcases h2 with ⟨e, _⟩ | ⟨w, e1, e⟩
    · rw [e] at g1; cases g1
    · rw [g1] at e1
      cases e1
      rw [e]; rfl
  · have hj : j < (outS r r').length := by rw [outS_length]; exact (List.getElem?_eq_some_iff.mp z).1
    obtain ⟨y, h1, h2⟩ := outS_get (List.getElem?_eq_getElem hj)
    rw [z] at h1
    cases h1
    rw [List.getElem?_eq_getElem hj]
    rcases h2 with ⟨_, e⟩ | ⟨w, _, e⟩
    · rw [e]
    · rw [e]; cases w <;> rfl
theorem body_read {K : KP} {n nl : Nat} {m : M Fl} {vs : List V} {N : List Str} {H : Hp} {Q : VK} (hN : N.length = n + nl) (q : rdE Θ K (bodyF n nl m) (vs.map some) H Q) :
    rdS Θ K m { nx := fun _ H' => Q .non H', rt := Q } (L2.start N vs) H := by
  obtain ⟨G, r, R, d, ro, e, k⟩ := q
  unfold bodyF at e
  split at e
  · rename_i hr
    have hv : N.length = vs.length + nl := by rw [hN, ← hr, R.len, List.length_map]
    obtain ⟨R0, O0⟩ := body_in (nl := nl) R hv
    refine ⟨G, _, R0, ?_⟩
    split at e
    · rename_i r' e1
      cases e
      refine ⟨.nx, r', e1, fun G' H' σ' R' F' => ?_⟩
      obtain ⟨R2, F2⟩ := body_out R hv R' F'
      exact k G' H' R2 F2 .non .non_of
    · rename_i d' r' e1
      cases e
      refine ⟨.rt d, r', e1, fun G' H' σ' R' F' v rv => ?_⟩
      obtain ⟨R2, F2⟩ := body_out R hv R' F'
      exact k G' H' R2 F2 v rv
    · cases e
  · cases e
/-- THE RULE for a def -/
theorem fn_ok {P : Program} {w : World} {K : PySem.W.Frag} {mg : Str → Option Value} {base : Heap} {x qual : Str} {st : Stmt} {f : Addr} {fd : FuncData} {N ps : List Str} {k n nl : Nat} {m : M Fl} (F : Fun K x qual st f fd) (Sc : FnScope N ps (defScope st)) (hn : ps.length = n) (hN : N.length = n + nl)
    (hbody : ∀ (cdv : Value) (A : Around) (outer : List Env) (s : Shared) (H : Hp) (E : XK), Room k (A.deeper (envOfC qual (defScope st) s.heap.objs.size f cdv)) →
      SB Θ (cxOf CX0 P w K mg base N qual (defScope st) f cdv A outer s H E).nox (defBody st) m) : FnOk P w K mg base CX0 (k + 1) f fd ps (spF Θ ⟨K, P, w⟩ n (bodyF n nl m)) := by
  refine F.ok Sc (fun vs H Q E h => by rw [hn]; exact h.1) (fun cdv A outer s H vs Q E hr h => ?_)
  exact ⟨_, hbody cdv A outer s H E hr, body_read hN h.2⟩
/-- nothing can be asked of a def that does nothing -/
theorem fn_none {P : Program} {w : World} {K : PySem.W.Frag} {mg : Str → Option Value} {base : Heap} {k n : Nat} {f : Addr} {fd : FuncData} {ps : List Str} : FnOk P w K mg base CX0 k f fd ps (spF Θ ⟨K, P, w⟩ n fun _ => none) := by
  have no : ∀ vs H Q E, ¬ spF Θ ⟨K, P, w⟩ n (fun _ => none) vs H Q E := fun vs H Q E h => by
    obtain ⟨_, G, r, R, d, r', e, _⟩ := h
    cases e
  exact ⟨fun vs H Q E h => absurd h (no vs H Q E), fun A outer s H args us vs Q E _ _ _ _ h => absurd h (no vs H Q E)⟩
/-- what stands still at the law's begin: all but the tables -/
def stl (H : Hp) : Hp := fun b => match H b with
  | some u => if tf u then some u else none
  | none => none
theorem stl_some {H : Hp} {b : Addr} {u : HO} (h : H b = some u) (t : tf u = true) : stl H b = some u := by
  unfold stl; rw [h]; dsimp only; rw [if_pos t]
theorem stl_sub (H : Hp) : Same (stl H) H := fun b u e => by
  unfold stl at e
  cases h : H b with
  | none => rw [h] at e; cases e
  | some w =>
    rw [h] at e
    dsimp only at e
    split at e
    · exact e
    · cases e
theorem stl_cl (H : Hp) : ∀ b ts, stl H b ≠ some (.tbl ts) := fun b ts e => by
  unfold stl at e
  cases h : H b with
  | none => rw [h] at e; cases e
  | some w =>
    rw [h] at e
    dsimp only at e
    split at e
    · rename_i q; cases e; cases q
    · cases e
theorem stl_rd {H : Hp} {a : Addr} {u : HO} (h : Rd H a u) (t : tf u = true) : Rd (stl H) a u := by
  rcases h with h | ⟨o, h⟩
  · exact .inl (stl_some h t)
  · exact .inr ⟨o, stl_some h rfl⟩
/-- the law's promise -/
theorem spF_law {K : KP} {H : Hp} {a : Addr} {ns : List Int} {F : M D} {rr : Ro} (ht : ∀ e ∈ Θ, H e.1 = some (.tbl #[])) (hS : SqL K H a (ns.map V.int)) (h : F [some (.d (.ro (ns.map D.int)))] = some (.bl true, rr)) : spF Θ K 1 F [.ref a] H (fun v _ => v = .bl true) fun _ _ _ => False := by
  have ri : ∀ ns : List Int, Reps K (stl H) (ns.map D.int) (ns.map V.int) := fun ns => by
    induction ns with
    | nil => exact .nil
    | cons i r ih => exact .cons .int_of ih
  have hS' : SqL K (stl H) a (ns.map V.int) := by
    rcases hS with h | h
    · exact .inl (stl_rd h rfl)
    · exact .inr h
  refine ⟨rfl, stl H, _, ⟨rfl, stl_sub H, fun j d z => ?_, fun j p ds z => ?_, fun j k p ds q es b z => ?_, ⟨fun e he => ⟨#[], ht e he, ?_, fun pos cv hc => by cases hc⟩, fun e he => by unfold stl; rw [ht e he]; rfl, stl_cl H⟩⟩, .bl true, rr, h, fun G' H' R F v rv => rv.bl_inv⟩
  · cases j with
    | zero => simp at z; subst z; exact ⟨.ref a, rfl, .ro_of hS' (ri ns)⟩
    | succ j => simp at z
  · cases j <;> simp at z
  · cases j <;> simp at z
  · trivial
/-! ### chains of comparisons -/
def chainM (g g' : D → D → Option D) (a b c : M D) : M D := bd a fun x => bd b fun y => bd (of (g x y)) fun z => bd (of (asB z)) fun k => if k = true then bd c fun w => of (g' y w) else rt (.bl false)
theorem chain_read {r r' : R2} {g g' : D → D → Option D} (hg : ∀ x y z, g x y = some z → ∀ (G H : Hp) (vx vy : V) (Q : VK), Same G H → Rep X.kp G x vx → Rep X.kp G y vy → (∀ G' H' v, Ext G H G' H' → Rep X.kp G' z v → Q v H') → r vx vy H Q)
    (hg' : ∀ x y z, g' x y = some z → ∀ (G H : Hp) (vx vy : V) (Q : VK), Same G H → Rep X.kp G x vx → Rep X.kp G y vy → (∀ G' H' v, Ext G H G' H' → Rep X.kp G' z v → Q v H') → r' vx vy H Q)
    {σ : L2.St} {H : Hp} {Q : VK} (q : rdE Θ X.kp (chainM g g' ma mb mc) σ H Q) : tChain r r' (rdE Θ X.kp ma) (rdE Θ X.kp mb) (rdE Θ X.kp mc) σ H Q := by
  obtain ⟨G, r0, R, c⟩ := q
  refine ⟨G, r0, R, (cn_bd c).mono fun x G1 H1 ⟨r1, R1, s1, c1⟩ vx rx => ⟨G1, r1, R1, (cn_bd c1).mono fun y G2 H2 ⟨r2, R2, s2, c2⟩ vy ry => ?_⟩⟩
  obtain ⟨z, r3, e3, q3⟩ := cn_bd c2
  obtain ⟨hz, rfl⟩ := of_some e3
  refine hg x y z hz G2 H2 vx vy _ R2.sub (Rep.mono s2 _ _ rx) ry fun G3 H3 v ex rz => ?_
  obtain ⟨r4, R4, s4, c4⟩ := q3 G3 H3 (ex.rel R2) (ex.fr _ _)
  obtain ⟨k, r5, e5, q5⟩ := cn_bd c4
  obtain ⟨hk, rfl⟩ := of_some e5
  obtain rfl := asB_some hk
  obtain ⟨r6, R6, s6, c6⟩ := q5 G3 H3 R4 (Fr.refl _ _ _ _)
  refine ⟨k, rz.bl_inv, ?_⟩
  cases k with
  | true =>
    rw [if_pos rfl] at c6 ⊢
    refine ⟨G3, r6, R6, (cn_bd c6).mono fun w G7 H7 ⟨r7, R7, s7, c7⟩ vw rw' => ?_⟩
    obtain ⟨u, hu, k7⟩ := cn_of R7 c7
    exact hg' y w u hu G7 H7 vy vw Q R7.sub (Rep.mono (ex.le.trans s7) _ _ ry) rw' fun G' H' v ex' rv => k7 G' H' ex' v rv
  | false =>
    rw [if_neg Bool.false_ne_true] at c6 ⊢
    exact cn_rt R6 c6 G3 H3 (Ext.refl _ _) _ .bl_of
theorem se_chain {op op' : CmpOp} {g g' : D → D → Option D} (ho : OpG X (compareOp op) g) (ho' : OpG X (compareOp op') g') (ha : SE Θ X a ma) (hb : SE Θ X b mb) (hc : SE Θ X c mc) (hm : lastMarks [op, op'] [b, c] = false := by with_unfolding_all rfl) :
    SE Θ X (.Compare a [op, op'] [b, c] pos) (chainM g g' ma mb mc) := by
  obtain ⟨r, o, hg⟩ := ho
  obtain ⟨r', o', hg'⟩ := ho'
  exact pe_imp (pe_chain o o' ha hb hc hm) fun σ H Q q => chain_read hg hg' q
theorem st_chain {op op' : CmpOp} {g g' : D → D → Option D} (ho : OpG X (compareOp op) g) (ho' : OpG X (compareOp op') g') (ha : SE Θ X a ma) (hb : SE Θ X b mb) (hc : SE Θ X c mc) (hm : lastMarks [op, op'] [b, c] = false := by with_unfolding_all rfl) :
    STs Θ X (.Compare a [op, op'] [b, c] pos) (bd (chainM g g' ma mb mc) fun x => of (asB x)) := by
  obtain ⟨r, o, hg⟩ := ho
  obtain ⟨r', o', hg'⟩ := ho'
  exact pt_imp (pt_chain o o' ha hb hc hm) fun σ H Q q => chain_read hg hg' (tb_read q)
end
end Pk

namespace Pk
open PySem PySem.Spec PyProof.Rows L2
/-! ### new lists, given out by a def -/
def rdF (Θ : List (Addr × Str)) (K : KP) (m : M (List D)) : TE := fun σ H Q => ∃ G r, Rel Θ K G H r σ ∧ ∃ ds r', m r = some (ds, r') ∧ ∀ G' H' p vs, Rel Θ K G' H' r' σ → Fr G H r σ G' H' r' σ → nw H p → H' p = some (.lst vs) → G' p = none → ¬ Owned r' σ p → Reps K G' ds vs → Q (.ref p) H'
abbrev SF (Θ : List (Addr × Str)) (X : Cx) (e : Expr) (m : M (List D)) : Prop := PE X e (rdF Θ X.kp m)
section
variable {X : Cx} {e a b c tg iter : Expr} {es : List Expr} {pos p : Pos} {ma mb mc m : M D} {i : Nat} {ml : M (List D)} {mr : M (List Ar)} {x : Str}
theorem new_out {K : KP} {G H : Hp} {r : Ro} {σ : L2.St} (R : Rel Θ K G H r σ) {p : Addr} (hp : H p = none) : G p = none ∧ ¬ Owned r σ p := ⟨free_of R.sub hp, fun ⟨j, q, fs, z1, z2⟩ => by
  obtain ⟨a, us, h1, h2, _⟩ := R.own j q fs z1
  rw [h1] at z2
  cases z2
  rw [hp] at h2; cases h2⟩
theorem new_outN {K : KP} {G H : Hp} {r : Ro} {σ : L2.St} (R : Rel Θ K G H r σ) {p : Addr} (hp : nw H p) : ¬ Owned r σ p := fun ⟨j, q, fs, z1, z2⟩ => by
  obtain ⟨a, us, h1, h2, _⟩ := R.own j q fs z1
  rw [h1] at z2
  cases z2
  cases hp _ h2
/-- a new tracked thing that nobody holds yet -/
theorem new_side {K : KP} {G H : Hp} {r : Ro} {σ : L2.St} (R : Rel Θ K G H r σ) {p : Addr} (hp : H p = none) (o : HO) : Rel Θ K G (upd H p o) r σ ∧ Fr G H r σ G (upd H p o) r σ := by
  obtain ⟨g, n⟩ := new_out R hp
  exact ⟨side_rel R g n (.inl hp), Same.refl _, fun b u e _ no => ⟨same_new hp _ _ _ e, no, fun z => z⟩, fun j ds z => ⟨⟨ds, z⟩, rfl⟩, fun j z => ⟨z, rfl⟩, fun b h => same_nw (same_new hp _) h⟩
/-- return [..]: a new list -/
theorem ss_retL {lpos : Pos} (ha : SA Θ X es ml) : SS Θ X (.Return (some (.List es lpos)) pos) (bd ml fun ds r => if ds.length ≤ sizeLine then some (.rf ds, r) else none) := ps_imp (ps_ret (pe_lst ha)) fun σ H E q => by
  obtain ⟨G, r, R, c⟩ := q
  refine ⟨G, r, R, (cs_bd c).mono fun ds G2 H2 ⟨r2, R2, s2, c2⟩ vs rs => ?_⟩
  obtain ⟨f, r', e, k⟩ := c2
  split at e
  · rename_i hc
    cases e
    refine ⟨by rw [rs.length]; exact hc, fun p hp => ?_⟩
    obtain ⟨R3, F3⟩ := new_side R2 hp (.lst vs)
    obtain ⟨g, n⟩ := new_out R2 hp
    exact k G2 _ σ R3 F3 p vs (nw_none hp) upd_same g n rs
  · cases e
def bodyN (n nl : Nat) (m : M Fl) : M (List D) := fun r => if r.length = n then match m (r.map pinS ++ List.replicate nl none) with
    | some (.rf ds, r') => some (ds, outS r r')
    | _ => none
  else none
def spN (Θ : List (Addr × Str)) (K : KP) (n : Nat) (F : M (List D)) : Sp := fun vs H Q _ => vs.length = n ∧ rdF Θ K F (vs.map some) H Q
theorem out_owned {K : KP} {G H G' H' : Hp} {r r' : Ro} {vs : List V} {N : List Str} {nl : Nat} {σ' : L2.St} (R : Rel Θ K G H r (vs.map some)) (hN : N.length = vs.length + nl) (F : Fr G H (r.map pinS ++ List.replicate nl none) (L2.start N vs) G' H' r' σ')
    {b : Addr} (o : Owned (outS r r') (vs.map some) b) : Owned r' σ' b := by
  obtain ⟨j, p, ds, z1, z2⟩ := o
  have hl : r.length = vs.length := by rw [R.len, List.length_map]
  obtain ⟨y, h1, h2⟩ := outS_get z1
  have go : ∀ (q : Bool) (es : List D), r[j]? = some (some (.own q es)) → ∃ ds', r'[j]? = some (some (.own true ds')) ∧ σ'[j]? = (vs.map some)[j]? := fun q es z => by
    have hj : j < r.length := (List.getElem?_eq_some_iff.mp z).1
    have z' : (r.map pinS ++ List.replicate nl none)[j]? = some (some (.own true es)) := by
      rw [List.getElem?_append_left (by rw [List.length_map]; exact hj), List.getElem?_map, z]; rfl
    obtain ⟨⟨ds', h1⟩, h2⟩ := F.pin j es z'
    refine ⟨ds', h1, ?_⟩
    rw [h2]
    unfold L2.start
    rw [List.getElem?_append_left (by rw [List.length_map]; omega)]
  cases y with
  | none =>
    rcases h2 with ⟨_, e⟩ | ⟨w, _, e⟩
    · cases e
    · cases w <;> cases e
  | some t => cases t with
    | d d' =>
      rcases h2 with ⟨_, e⟩ | ⟨w, _, e⟩
      · cases e
      · cases w <;> cases e
    | lock =>
      rcases h2 with ⟨_, e⟩ | ⟨w, _, e⟩
      · cases e
      · cases w <;> cases e
    | own q es =>
      obtain ⟨ds', g1, g2⟩ := go q es h1
      exact ⟨j, true, ds', g1, by rw [g2]; exact z2⟩
theorem bodyN_read {K : KP} {n nl : Nat} {m : M Fl} {vs : List V} {N : List Str} {H : Hp} {Q : VK} (hN : N.length = n + nl) (q : rdF Θ K (bodyN n nl m) (vs.map some) H Q) :
    rdS Θ K m { nx := fun _ H' => Q .non H', rt := Q } (L2.start N vs) H := by
  obtain ⟨G, r, R, ds, ro, e, k⟩ := q
  unfold bodyN at e
  split at e
  · rename_i hr
    have hv : N.length = vs.length + nl := by rw [hN, ← hr, R.len, List.length_map]
    obtain ⟨R0, O0⟩ := body_in (nl := nl) R hv
    refine ⟨G, _, R0, ?_⟩
    split at e
    · rename_i ds' r' e1
      cases e
      refine ⟨.rf ds, r', e1, fun G' H' σ' R' F' p us h1 h2 h3 h4 h5 => ?_⟩
      obtain ⟨R2, F2⟩ := body_out R hv R' F'
      exact k G' H' p us R2 F2 h1 h2 h3 (fun o => h4 (out_owned R hv F' o)) h5
    · cases e
  · cases e
theorem fn_okN {P : Program} {w : World} {K : PySem.W.Frag} {mg : Str → Option Value} {base : Heap} {x qual : Str} {st : Stmt} {f : Addr} {fd : FuncData} {N ps : List Str} {k n nl : Nat} {m : M Fl} (F : Fun K x qual st f fd) (Sc : FnScope N ps (defScope st)) (hn : ps.length = n) (hN : N.length = n + nl)
    (hbody : ∀ (cdv : Value) (A : Around) (outer : List Env) (s : Shared) (H : Hp) (E : XK), Room k (A.deeper (envOfC qual (defScope st) s.heap.objs.size f cdv)) →
      SB Θ (cxOf CX0 P w K mg base N qual (defScope st) f cdv A outer s H E).nox (defBody st) m) : FnOk P w K mg base CX0 (k + 1) f fd ps (spN Θ ⟨K, P, w⟩ n (bodyN n nl m)) := by
  refine F.ok Sc (fun vs H Q E h => by rw [hn]; exact h.1) (fun cdv A outer s H vs Q E hr h => ?_)
  exact ⟨_, hbody cdv A outer s H E hr, bodyN_read hN h.2⟩
theorem fn_noneN {P : Program} {w : World} {K : PySem.W.Frag} {mg : Str → Option Value} {base : Heap} {k n : Nat} {f : Addr} {fd : FuncData} {ps : List Str} : FnOk P w K mg base CX0 k f fd ps (spN Θ ⟨K, P, w⟩ n fun _ => none) := by
  have no : ∀ vs H Q E, ¬ spN Θ ⟨K, P, w⟩ n (fun _ => none) vs H Q E := fun vs H Q E h => by
    obtain ⟨_, G, r, R, d, r', e, _⟩ := h
    cases e
  exact ⟨fun vs H Q E h => absurd h (no vs H Q E), fun A outer s H args us vs Q E _ _ _ _ h => absurd h (no vs H Q E)⟩
/-! ### its call -/
def callN (n : Nat) (F : M (List D)) (as : List Ar) : M (List D) := fun r => if as.length = n ∧ (slots as).Nodup then match argS r as with
    | some ss => match F ss with
      | some (d, ss') => some (d, putB r as ss')
      | none => none
    | none => none
  else none
theorem callN_some {n : Nat} {F : M (List D)} {as : List Ar} {r r' : Ro} {d : List D} (h : callN n F as r = some (d, r')) : as.length = n ∧ (slots as).Nodup ∧ ∃ ss ss', argS r as = some ss ∧ F ss = some (d, ss') ∧ r' = putB r as ss' := by
  unfold callN at h
  split at h
  · rename_i hc
    split at h
    · rename_i ss e1
      split at h
      · rename_i d' ss' e2
        cases h
        exact ⟨hc.1, hc.2, ss, ss', e1, e2, rfl⟩
      · cases h
    · cases h
  · cases h
theorem put_owned {r ss' : Ro} {as : List Ar} {σ : L2.St} {b : Addr} (n : (slots as).Nodup) (hl : as.length = ss'.length) (ask : ∀ (k i : Nat), as[k]? = some (Ar.s i) → (∃ ds, ss'[k]? = some (some (S.own true ds))) ∧ ∃ p ds, r[i]? = some (some (S.own p ds))) (o : Owned (putB r as ss') σ b) : Owned r σ b := by
  obtain ⟨j, p, ds, z1, z2⟩ := o
  rcases putB_at (r := r) (j := j) n hl ask with ⟨k, ds', p', es, h1, h2, h3, h4⟩ | ⟨h1, h2⟩
  · exact ⟨j, p', es, h3, z2⟩
  · rw [h2] at z1
    exact ⟨j, p, ds, z1, z2⟩
theorem callN_rd {n : Nat} {F : M (List D)} {E : XK} {σ : L2.St} {H : Hp} {Q : VK} (q : rdF Θ X.kp (bd mr fun as => callN n F as) σ H Q) : tCall (spN Θ X.kp n F) [] E (rdR Θ X.kp mr) σ H Q := by
  obtain ⟨G, r0, R, ds, r', e, k⟩ := q
  obtain ⟨as, r1, e1, e2⟩ := bd_some e
  refine ⟨G, r0, R, as, r1, e1, fun G1 H1 R1 F1 vs rs => ?_⟩
  obtain ⟨hn, hd, ss, ss', e3, e4, rfl⟩ := callN_some e2
  rw [List.append_nil]
  refine ⟨by rw [arR_length rs]; exact hn, G1, ss, args_rel R1 e3 rs hd, ds, ss', e4, fun G2 H2 p us R2 F2 h1 h2 h3 h4 h5 => ?_⟩
  obtain ⟨R3, F3⟩ := call_rel R1 e3 rs hd R2 F2
  -- the new list is none of the caller's
  have no1 : ¬ Owned r1 σ p := new_outN R1 h1
  have no : ¬ Owned (putB r1 as ss') σ p := fun o => by
    obtain ⟨j, q, fs, z1, z2⟩ := o
    obtain ⟨a, ws, g1, g2, _⟩ := R3.own j q fs z1
    refine no1 ?_
    have hl : as.length = ss'.length := by rw [R2.len, List.length_map, arR_length rs]
    refine put_owned hd hl (fun k i e => ?_) ⟨j, q, fs, z1, z2⟩
    have hk : k < ss.length := by rw [argS_length e3]; exact (List.getElem?_eq_some_iff.mp e).1
    rcases arg_at e3 rs (List.getElem?_eq_getElem hk) with ⟨d', v, _, _, _, d2, e6⟩ | ⟨i', p, ds, v, g3, e6, g4, g5, g6⟩
    · rw [e] at e6; cases e6
    · rw [e] at g3
      cases g3
      obtain ⟨⟨ds', g7⟩, _⟩ := F2.pin k ds (by rw [List.getElem?_eq_getElem hk, e6])
      exact ⟨⟨ds', g7⟩, p, ds, g4⟩
  exact k G2 H2 p us R3 (F1.trans F3) (F1.mono p h1) h2 h3 no h5
theorem sf_call {k n : Nat} {f : Addr} {fd : FuncData} {ps : List Str} {F : M (List D)} (G : FnOk X.prog X.w X.kp X.mg X.base CX0 k f fd ps (spN Θ X.kp n F)) (hr : Room k X.A) (hg : Gl X x) (hm : X.mg x = some (.ref f)) (hk : PySem.W.keepIn X.kp (.ref f) = true) (hb : Binds X.kp fd ps [])
    (ha : SR Θ X (e :: es) mr) (hdb : (x == ("__debug__" : Str)) = false := by decide) (he : starEach (e :: es) X.env = (false, eval e X.env) :: starEach es X.env := by rfl) (hpl : (backTo pos (starEach es X.env)).any (·.1) = false := by rfl) :
    SF Θ X (.Call (.Name x p) (e :: es) [] pos) (bd mr fun as => callN n F as) :=
  pe_imp (pe_call (E := E0) G hr hg hm hk hb .nil pass0 ha hdb he hpl) fun σ H Q q => callN_rd q
/-- a new list becomes one's own -/
theorem setN_rel {K : KP} {G H : Hp} {r r' : Ro} {σ : L2.St} (R : Rel Θ K G H r σ) {ds : List D} (h : setO i ds r = some r') {vs : List V} (rv : Reps K G ds vs) {p : Addr} (hH : H p = some (.lst vs)) (hG : G p = none) (hO : ¬ Owned r σ p) :
    Rel Θ K G H r' (σ.set i (some (.ref p))) ∧ ∀ {G0 H0 : Hp} {r0 : Ro} {σ0 : L2.St}, nw H0 p → Fr G0 H0 r0 σ0 G H r σ → Fr G0 H0 r0 σ0 G H r' (σ.set i (some (.ref p))) := by
  obtain ⟨hf, rfl⟩ := setO_some h
  have hl := free_lt hf
  have hs : i < σ.length := by rw [← R.len]; exact hl
  have own : ∀ (j : Nat) (q : Bool) (es : List D), (r.set i (some (.own false ds)))[j]? = some (some (.own q es)) → (j = i ∧ q = false ∧ es = ds) ∨ (j ≠ i ∧ r[j]? = some (some (.own q es))) := fun j p ds z => by
    rcases set_get z with ⟨e1, e⟩ | ⟨n, e⟩
    · cases e; exact .inl ⟨e1, rfl, rfl⟩
    · exact .inr ⟨n, e⟩
  have sig : ∀ j, j ≠ i → (σ.set i (some (.ref p)))[j]? = σ[j]? := fun j n => List.getElem?_set_ne (fun z => n z.symm)
  have sigi : (σ.set i (some (.ref p)))[i]? = some (some (.ref p)) := List.getElem?_set_self hs
  have out : ∀ (j : Nat) (q : Bool) (es : List D), r[j]? = some (some (.own q es)) → σ[j]? ≠ some (some (.ref p)) := fun j q es z e => hO ⟨j, q, es, z, e⟩
  refine ⟨⟨by rw [List.length_set, List.length_set]; exact R.len, R.sub, fun j d' z => ?_, fun j q es z => ?_, fun j k q es q' es' a z1 z2 e1 e2 => ?_, R.tab⟩, fun {G0 H0 r0 σ0} h0 F => ⟨F.le, fun b u e t n => ?_, fun j fs z => ?_, fun j z => ?_, F.mono⟩⟩
  · rcases set_get z with ⟨rfl, e⟩ | ⟨n, e⟩
    · cases e
    · rw [sig j n]; exact R.get j d' e
  · rcases own j q es z with ⟨rfl, rfl, rfl⟩ | ⟨n, e⟩
    · exact ⟨p, vs, sigi, hH, hG, rv⟩
    · rw [sig j n]; exact R.own j q es e
  · rcases own j q es z1 with ⟨w1, _⟩ | ⟨n1, w1⟩
    · rcases own k q' es' z2 with ⟨w2, _⟩ | ⟨n2, w2⟩
      · rw [w1, w2]
      · rw [w1, sigi] at e1; cases e1
        rw [sig k n2] at e2
        exact absurd e2 (out k q' es' w2)
    · rcases own k q' es' z2 with ⟨w2, _⟩ | ⟨n2, w2⟩
      · rw [w2, sigi] at e2; cases e2
        rw [sig j n1] at e1
        exact absurd e1 (out j q es w1)
      · rw [sig j n1] at e1
        rw [sig k n2] at e2
        exact R.sep j k q es q' es' a w1 w2 e1 e2
  · obtain ⟨k1, k2, k3⟩ := F.keep b u e t n
    refine ⟨k1, ?_, k3⟩
    rintro ⟨j, q, es, z, e2⟩
    rcases own j q es z with ⟨rfl, _⟩ | ⟨n1, z⟩
    · rw [sigi] at e2; cases e2
      exact nw_ne h0 e t rfl
    · rw [sig j n1] at e2
      exact k2 ⟨j, q, es, z, e2⟩
  · obtain ⟨⟨ds', h1⟩, h2⟩ := F.pin j fs z
    have n : j ≠ i := fun e => by subst e; exact free_pin hf h1
    rw [sig j n]
    exact ⟨⟨ds', by rw [List.getElem?_set_ne (fun e => n e.symm)]; exact h1⟩, h2⟩
  · obtain ⟨h1, h2⟩ := F.lck j z
    have n : j ≠ i := fun e => by subst e; exact free_lock hf h1
    rw [sig j n]
    exact ⟨by rw [List.getElem?_set_ne (fun e => n e.symm)]; exact h1, h2⟩
theorem ss_setOF {x : Str} {pos' : Pos} (hN : X.N.Nodup) (hi : X.N[i]? = some x) (hx : Loc X.env.scope x) (he : SF Θ X e ml) (hs : swapsWith e (some (.Name x pos')) pos.line X.env = pure false := by rfl) (hf : X.fn x = true ∨ X.env.scope.names.lookup x = some .local := by first | exact .inl rfl | exact .inr rfl | assumption) :
    SS Θ X (.Assign [.Name x pos'] e pos) (bd ml fun ds => nxt (setO i ds)) := ps_imp (ps_set hN hi hx he hs hf) fun σ H E q => by
  obtain ⟨G, r, R, f, r', e, k⟩ := q
  obtain ⟨ds, r1, e1, e2⟩ := bd_some e
  refine ⟨G, r, R, ds, r1, e1, fun G1 H1 p vs R1 F1 h1 h2 h3 h4 h5 => ?_⟩
  obtain ⟨r3, e3, e4⟩ := nxt_some e2
  cases e4
  obtain ⟨R', F'⟩ := setN_rel R1 e3 h5 h2 h3 h4
  exact k G1 H1 _ R' (F' h1 F1)
/-! ### a new list, lent at once -/
theorem push_rel {K : KP} {G H : Hp} {r : Ro} {σ : L2.St} (R : Rel Θ K G H r σ) {ds : List D} {vs : List V} (rv : Reps K G ds vs) {p : Addr} (hH : H p = some (.lst vs)) (hG : G p = none) (hO : ¬ Owned r σ p) : Rel Θ K G H (r ++ [some (.own false ds)]) (σ ++ [some (.ref p)]) := by
  have rl := R.len
  have get : ∀ {j : Nat} {x : Option S}, (r ++ [some (.own false ds)])[j]? = some x → (j < r.length ∧ r[j]? = some x) ∨ (j = r.length ∧ x = some (.own false ds)) := fun {j x} z => by
    by_cases h : j < r.length
    · rw [List.getElem?_append_left h] at z; exact .inl ⟨h, z⟩
    · rw [List.getElem?_append_right (by omega)] at z
      have : j - r.length = 0 := by
        have := (List.getElem?_eq_some_iff.mp z).1
        simp at this; omega
      rw [this] at z
      exact .inr ⟨by omega, (Option.some.inj z).symm⟩
  have sl : ∀ {j : Nat}, j < r.length → (σ ++ [some (.ref p)])[j]? = σ[j]? := fun {j} h => List.getElem?_append_left (by omega)
  have sr : (σ ++ [some (.ref p)])[r.length]? = some (some (.ref p)) := by rw [List.getElem?_append_right (by omega), rl]; simp
  refine ⟨by simp [rl], R.sub, fun j d z => ?_, fun j q es z => ?_, fun j k q es q' es' a z1 z2 e1 e2 => ?_, R.tab⟩
  · rcases get z with ⟨h, z⟩ | ⟨h, e⟩
    · rw [sl h]; exact R.get j d z
    · cases e
  · rcases get z with ⟨h, z⟩ | ⟨h, e⟩
    · rw [sl h]; exact R.own j q es z
    · cases e
      subst h
      exact ⟨p, vs, sr, hH, hG, rv⟩
  · rcases get z1 with ⟨h1, z1⟩ | ⟨h1, g1⟩
    · rcases get z2 with ⟨h2, z2⟩ | ⟨h2, g2⟩
      · rw [sl h1] at e1
        rw [sl h2] at e2
        exact R.sep j k q es q' es' a z1 z2 e1 e2
      · subst h2
        rw [sr] at e2
        cases e2
        rw [sl h1] at e1
        exact absurd ⟨j, q, es, z1, e1⟩ hO
    · rcases get z2 with ⟨h2, z2⟩ | ⟨h2, g2⟩
      · subst h1
        rw [sr] at e1
        cases e1
        rw [sl h2] at e2
        exact absurd ⟨k, q', es', z2, e2⟩ hO
      · rw [h1, h2]
theorem cut_rel {K : KP} {G H : Hp} {r r' : Ro} {σ : L2.St} {x : Option V} (R : Rel Θ K G H r' (σ ++ [x])) (hl : r.length = σ.length) : Rel Θ K G H (r'.take r.length) σ := by
  have l' := R.len
  rw [List.length_append, List.length_singleton] at l'
  have get : ∀ {j : Nat} {y : Option S}, (r'.take r.length)[j]? = some y → j < r.length ∧ r'[j]? = some y := fun {j y} z => by
    have h := (List.getElem?_eq_some_iff.mp z).1
    rw [List.length_take] at h
    rw [List.getElem?_take_of_lt (by omega)] at z
    exact ⟨by omega, z⟩
  have sl : ∀ {j : Nat}, j < r.length → (σ ++ [x])[j]? = σ[j]? := fun {j} h => List.getElem?_append_left (by omega)
  refine ⟨by rw [List.length_take]; omega, R.sub, fun j d z => ?_, fun j q es z => ?_, fun j k q es q' es' a z1 z2 e1 e2 => ?_, R.tab⟩
  · obtain ⟨h, z⟩ := get z
    rw [← sl h]; exact R.get j d z
  · obtain ⟨h, z⟩ := get z
    rw [← sl h]; exact R.own j q es z
  · obtain ⟨h1, z1⟩ := get z1
    obtain ⟨h2, z2⟩ := get z2
    exact R.sep j k q es q' es' a z1 z2 (by rw [sl h1]; exact e1) (by rw [sl h2]; exact e2)
def callT (n : Nat) (F : M D) (ds : List D) (as : List Ar) : M D := fun r => match callM n F (.s r.length :: as) (r ++ [some (.own false ds)]) with
  | some (d, r') => some (d, r'.take r.length)
  | none => none
theorem arR_push {K : KP} {G : Hp} {σ : L2.St} {x : Option V} : ∀ {as : List Ar} {vs : List V}, ArR K G σ as vs → ArR K G (σ ++ [x]) as vs
  | [], _, h => h
  | .v d :: as, _, ⟨u, r, e, h1, h2⟩ => ⟨u, r, e, h1, arR_push h2⟩
  | .s i :: as, _, ⟨u, r, e, h1, h2⟩ => ⟨u, r, e, by rw [List.getElem?_append_left (List.getElem?_eq_some_iff.mp h1).1]; exact h1, arR_push h2⟩
theorem se_callT {k n : Nat} {f : Addr} {fd : FuncData} {ps : List Str} {F : M D} (G : FnOk X.prog X.w X.kp X.mg X.base CX0 k f fd ps (spF Θ X.kp n F)) (hr : Room k X.A) (hg : Gl X x) (hm : X.mg x = some (.ref f)) (hk : PySem.W.keepIn X.kp (.ref f) = true) (hb : Binds X.kp fd ps [])
    (hf : SF Θ X e ml) (ha : SR Θ X es mr) (hdb : (x == ("__debug__" : Str)) = false := by decide) (he : starEach (e :: es) X.env = (false, eval e X.env) :: starEach es X.env := by rfl) (hpl : (backTo pos (starEach es X.env)).any (·.1) = false := by rfl) :
    SE Θ X (.Call (.Name x p) (e :: es) [] pos) (bd ml fun ds => bd mr fun as => callT n F ds as) :=
  pe_imp (pe_call (E := E0) G hr hg hm hk hb .nil pass0 (pa_cons hf ha he) hdb he hpl) fun σ H Q q => by
    obtain ⟨G, r, R, d, r', e, k⟩ := q
    obtain ⟨ds, r1, e1, e2⟩ := bd_some e
    refine ⟨G, r, R, ds, r1, e1, fun G1 H1 p us R1 F1 h1 h2 h3 h4 h5 => ?_⟩
    obtain ⟨as, r2, e3, e4⟩ := bd_some e2
    refine ⟨G1, r1, R1, as, r2, e3, fun G2 H2 R2 F2 vs rs => ?_⟩
    obtain ⟨k1, k2, k3⟩ := F2.keep p _ h2 rfl h4
    have k3 := k3 h3
    unfold callT at e4
    split at e4
    · rename_i d' r3 e5
      cases e4
      have RP := push_rel R2 (Reps.mono F2.le _ _ h5) k1 k3 k2
      have rs' : ArR X.kp G2 (σ ++ [some (.ref p)]) (.s r2.length :: as) (.ref p :: vs) := ⟨_, _, rfl, by rw [R2.len, List.getElem?_append_right (Nat.le_refl _)]; simp, arR_push rs⟩
      obtain ⟨hn, hd, ss, ss', g1, g2, rfl⟩ := callM_some e5
      show spF Θ X.kp n F ((V.ref p :: vs) ++ []) H2 Q E0
      rw [List.append_nil]
      refine ⟨by rw [arR_length rs']; exact hn, G2, ss, args_rel RP g1 rs' hd, d, ss', g2, fun G3 H3 R3 F3 => ?_⟩
      obtain ⟨R4, F4⟩ := call_rel RP g1 rs' hd R3 F3
      have R5 := cut_rel (r := r2) R4 R2.len
      refine k G3 H3 R5 ⟨(F1.trans F2).le.trans F4.le, fun b u eb t nb => ?_, fun j fs z => ?_, fun j z => ?_, fun b h => (F1.trans F2).mono b (F4.mono b h)⟩
      · obtain ⟨m1, m2, m3⟩ := (F1.trans F2).keep b u eb t nb
        have np : b ≠ p := nw_ne h1 eb t
        have no : ¬ Owned (r2 ++ [some (.own false ds)]) (σ ++ [some (.ref p)]) b := fun ⟨j, q, es, z1, z2⟩ => by
          by_cases hj : j < r2.length
          · rw [List.getElem?_append_left hj] at z1
            rw [List.getElem?_append_left (by rw [← R2.len]; exact hj)] at z2
            exact m2 ⟨j, q, es, z1, z2⟩
          · have : j = r2.length := by
              have := (List.getElem?_eq_some_iff.mp z1).1
              simp at this; omega
            rw [this, R2.len, List.getElem?_append_right (Nat.le_refl _)] at z2
            simp at z2
            exact np z2.symm
        obtain ⟨n1, n2, n3⟩ := F4.keep b u m1 t no
        refine ⟨n1, fun ⟨j, q, es, z1, z2⟩ => n2 ?_, fun z => n3 (m3 z)⟩
        have hj := (List.getElem?_eq_some_iff.mp z1).1
        rw [List.length_take] at hj
        rw [List.getElem?_take_of_lt (by omega)] at z1
        exact ⟨j, q, es, z1, by rw [List.getElem?_append_left (by rw [← R2.len]; omega)]; exact z2⟩
      · obtain ⟨⟨fs1, z1⟩, _⟩ := (F1.trans F2).pin j fs z
        have hj := (List.getElem?_eq_some_iff.mp z1).1
        obtain ⟨⟨fs2, z2⟩, _⟩ := F4.pin j fs1 (by rw [List.getElem?_append_left hj]; exact z1)
        exact ⟨⟨fs2, by rw [List.getElem?_take_of_lt hj]; exact z2⟩, rfl⟩
      · obtain ⟨z1, _⟩ := (F1.trans F2).lck j z
        have hj := (List.getElem?_eq_some_iff.mp z1).1
        obtain ⟨z2, _⟩ := F4.lck j (by rw [List.getElem?_append_left hj]; exact z1)
        exact ⟨by rw [List.getElem?_take_of_lt hj]; exact z2, rfl⟩
    · cases e4
end
end Pk

namespace Pk
open PySem PySem.Spec PyProof.Rows L2
theorem hu200 {k : Nat} {A : Around} (h : Room k A) : A.units + 200 < cLine := by have := h.un; omega
end Pk

namespace Pk
open PySem PySem.Spec PyProof.Rows L2
/-! ### what a reading comes to -/
def wp {α : Type} (m : M α) (P : α → Ro → Prop) (r : Ro) : Prop := ∃ x r', m r = some (x, r') ∧ P x r'
section
variable {α β : Type} {m : M α} {k : α → M β} {P : β → Ro → Prop} {r : Ro} {i : Nat}
theorem w_bd (h : wp m (fun x r1 => wp (k x) P r1) r) : wp (bd m k) P r := by
  obtain ⟨x, r1, e, y, r2, e2, q⟩ := h
  exact ⟨y, r2, by unfold bd; rw [e]; exact e2, q⟩
theorem w_rt {x : β} (h : P x r) : wp (rt x) P r := ⟨x, r, rfl, h⟩
theorem w_of {o : Option β} {x : β} (e : o = some x) (h : P x r) : wp (of o) P r := ⟨x, r, by rw [e]; rfl, h⟩
theorem w_ld {P : D → Ro → Prop} {d : D} (e : r[i]? = some (some (.d d))) (h : P d r) : wp (ld i) P r := ⟨d, r, by unfold ld; rw [e], h⟩
theorem w_ldF {P : D → Ro → Prop} {d : D} (e : r[i]? = some (some (.d d))) (h : P d r) : wp (ldF i) P r := ⟨d, r, by unfold ldF; rw [e], h⟩
theorem w_ldO {P : D → Ro → Prop} {ds : List D} (e : r[i]? = some (some (.own false ds))) (h : P (.lst ds) (r.set i (some (.d (.lst ds))))) : wp (ldF i) P r := ⟨.lst ds, _, by unfold ldF; rw [e], h⟩
theorem w_own {P : List D → Ro → Prop} {p : Bool} {ds : List D} (e : r[i]? = some (some (.own p ds))) (h : P ds r) : wp (own i) P r := ⟨ds, r, by unfold own; rw [e], h⟩
theorem w_if {t : M Bool} {a b : M β} (h : wp t (fun x r1 => wp (if x = true then a else b) P r1) r) : wp (ifM t a b) P r := w_bd h
theorem w_seq {P : Fl → Ro → Prop} {m n : M Fl} (h : wp m (fun f r1 => match f with | .nx => wp n P r1 | x => P x r1) r) : wp (seqM m n) P r := by
  obtain ⟨f, r1, e, q⟩ := h
  cases f with
  | nx =>
    obtain ⟨y, r2, e2, q2⟩ := q
    exact ⟨y, r2, by unfold seqM; rw [e]; exact e2, q2⟩
  | _ => exact ⟨_, r1, by unfold seqM; rw [e], q⟩
theorem w_nil {P : Fl → Ro → Prop} (h : P .nx r) : wp nilM P r := ⟨.nx, r, rfl, h⟩
theorem w_ret {P : Fl → Ro → Prop} {m : M D} (h : wp m (fun d r1 => P (.rt d) r1) r) : wp (retM m) P r := by
  obtain ⟨d, r1, e, q⟩ := h
  exact ⟨.rt d, r1, by unfold retM bd; rw [e], q⟩
theorem w_nxt {P : Fl → Ro → Prop} {f : Ro → Option Ro} {r' : Ro} (e : f r = some r') (h : P .nx r') : wp (nxt f) P r := ⟨.nx, r', by unfold nxt; rw [e], h⟩
theorem w_fun {f : M β} {y : β} {r' : Ro} (e : f r = some (y, r')) (h : P y r') : wp f P r := ⟨y, r', e, h⟩
theorem w_mono {P Q : β → Ro → Prop} {m : M β} (h : wp m P r) (i : ∀ x r', P x r' → Q x r') : wp m Q r := by
  obtain ⟨x, r', e, q⟩ := h
  exact ⟨x, r', e, i x r' q⟩
theorem w_and {P : Bool → Ro → Prop} {a b : M Bool} (h : wp a (fun x r1 => if x = true then wp b P r1 else P false r1) r) : wp (andM a b) P r := by
  refine w_bd (w_mono h fun x r' q => ?_)
  cases x with
  | true => exact q
  | false => exact w_rt q
theorem w_or {P : Bool → Ro → Prop} {a b : M Bool} (h : wp a (fun x r1 => if x = true then P true r1 else wp b P r1) r) : wp (orM a b) P r := by
  refine w_bd (w_mono h fun x r' q => ?_)
  cases x with
  | false => exact q
  | true => exact w_rt q
theorem w_call {P : D → Ro → Prop} {n : Nat} {F : M D} {as : List Ar} {ss : Ro} (h1 : as.length = n) (h2 : (slots as).Nodup) (h3 : argS r as = some ss) (h : wp F (fun d ss' => P d (putB r as ss')) ss) : wp (callM n F as) P r := by
  obtain ⟨d, ss', e, q⟩ := h
  exact ⟨d, _, by unfold callM; rw [if_pos ⟨h1, h2⟩, h3]; dsimp only; rw [e], q⟩
theorem w_callN {P : List D → Ro → Prop} {n : Nat} {F : M (List D)} {as : List Ar} {ss : Ro} (h1 : as.length = n) (h2 : (slots as).Nodup) (h3 : argS r as = some ss) (h : wp F (fun d ss' => P d (putB r as ss')) ss) : wp (callN n F as) P r := by
  obtain ⟨d, ss', e, q⟩ := h
  exact ⟨d, _, by unfold callN; rw [if_pos ⟨h1, h2⟩, h3]; dsimp only; rw [e], q⟩
theorem w_callT {P : D → Ro → Prop} {n : Nat} {F : M D} {as : List Ar} {ds : List D} {ss : Ro} (h1 : (Ar.s r.length :: as).length = n) (h2 : (slots (.s r.length :: as)).Nodup) (h3 : argS (r ++ [some (.own false ds)]) (.s r.length :: as) = some ss)
    (h : wp F (fun d ss' => P d ((putB (r ++ [some (.own false ds)]) (.s r.length :: as) ss').take r.length)) ss) : wp (callT n F ds as) P r := by
  obtain ⟨d, ss', e, q⟩ := h
  refine ⟨d, _, ?_, q⟩
  unfold callT callM
  rw [if_pos ⟨h1, h2⟩, h3]
  dsimp only
  rw [e]
/-- a def's body -/
theorem w_body {P : D → Ro → Prop} {n nl : Nat} {m : M Fl} (hn : r.length = n) (h : wp m (fun f r' => match f with | .nx => P .non (outS r r') | .rt d => P d (outS r r') | _ => False) (r.map pinS ++ List.replicate nl none)) : wp (bodyF n nl m) P r := by
  obtain ⟨f, r', e, q⟩ := h
  cases f with
  | nx => exact ⟨.non, _, by unfold bodyF; rw [if_pos hn, e], q⟩
  | rt d => exact ⟨d, _, by unfold bodyF; rw [if_pos hn, e], q⟩
  | _ => exact q.elim
theorem w_bodyN {P : List D → Ro → Prop} {n nl : Nat} {m : M Fl} (hn : r.length = n) (h : wp m (fun f r' => match f with | .rf d => P d (outS r r') | _ => False) (r.map pinS ++ List.replicate nl none)) : wp (bodyN n nl m) P r := by
  obtain ⟨f, r', e, q⟩ := h
  cases f with
  | rf d => exact ⟨d, _, by unfold bodyN; rw [if_pos hn, e], q⟩
  | _ => exact q.elim
/-- a for loop, by an invariant over the number of turns -/
theorem w_for {P : Fl → Ro → Prop} {f : D → Ro → Option Ro} {b : M Fl} {ds : List D} (I : Nat → Ro → Prop) (h0 : I 0 r)
    (hs : ∀ i d r, ds[i]? = some d → I i r → ∃ r1, f d r = some r1 ∧ wp b (fun fl r2 => match fl with | .nx => I (i + 1) r2 | .ct => I (i + 1) r2 | .bk => P .nx r2 | x => P x r2) r1) (he : ∀ r, I ds.length r → P .nx r) : wp (forM f b ds) P r := by
  have go : ∀ (n : Nat) (i : Nat) (r : Ro), ds.length = i + n → I i r → wp (forM f b (ds.drop i)) P r := fun n => by
    induction n with
    | zero =>
      intro i r hl hi
      rw [List.drop_eq_nil_of_le (by omega)]
      have : i = ds.length := by omega
      subst this
      exact ⟨.nx, r, rfl, he r hi⟩
    | succ n ih =>
      intro i r hl hi
      have hlt : i < ds.length := by omega
      rw [List.drop_eq_getElem_cons hlt]
      obtain ⟨r1, e1, fl, r2, e2, q⟩ := hs i _ r (List.getElem?_eq_getElem hlt) hi
      have un : forM f b (ds[i] :: ds.drop (i + 1)) r = aft (forM f b (ds.drop (i + 1))) (some (fl, r2)) := by
        simp only [forM, e1, e2]
      cases fl with
      | nx =>
        obtain ⟨y, r3, e3, q3⟩ := ih (i + 1) r2 (by omega) q
        exact ⟨y, r3, by rw [un]; exact e3, q3⟩
      | ct =>
        obtain ⟨y, r3, e3, q3⟩ := ih (i + 1) r2 (by omega) q
        exact ⟨y, r3, by rw [un]; exact e3, q3⟩
      | bk => exact ⟨.nx, r2, by rw [un]; rfl, q⟩
      | rt d => exact ⟨.rt d, r2, by rw [un]; rfl, q⟩
      | rf d => exact ⟨.rf d, r2, by rw [un]; rfl, q⟩
  exact go ds.length 0 r (by omega) h0
/-- a while loop, by an invariant and a measure -/
theorem w_while {P : Fl → Ro → Prop} {t : M Bool} {b : M Fl} {N : Nat} (I : Nat → Ro → Prop) {n : Nat} (h0 : I n r) (hn : n < N)
    (hs : ∀ n r, I n r → wp t (fun x r1 => if x = true then wp b (fun fl r2 => match fl with | .nx => ∃ n', n' < n ∧ I n' r2 | .ct => ∃ n', n' < n ∧ I n' r2 | .bk => P .nx r2 | x => P x r2) r1 else P .nx r1) r) : wp (whileM t b N) P r := by
  have go : ∀ (N n : Nat) (r : Ro), n < N → I n r → wp (whileM t b N) P r := fun N => by
    induction N with
    | zero => intro n r h; omega
    | succ N ih =>
      intro n r hn hi
      obtain ⟨x, r1, e1, q⟩ := hs n r hi
      cases x with
      | false =>
        simp only [Bool.false_eq_true, if_false] at q
        exact ⟨.nx, r1, by simp only [whileM, e1], q⟩
      | true =>
        simp only [if_true] at q
        obtain ⟨fl, r2, e2, q⟩ := q
        have un : whileM t b (N + 1) r = aft (whileM t b N) (some (fl, r2)) := by simp only [whileM, e1, e2]
        cases fl with
        | nx =>
          obtain ⟨n', h1, h2⟩ := q
          obtain ⟨y, r3, e3, q3⟩ := ih n' r2 (by omega) h2
          exact ⟨y, r3, by rw [un]; exact e3, q3⟩
        | ct =>
          obtain ⟨n', h1, h2⟩ := q
          obtain ⟨y, r3, e3, q3⟩ := ih n' r2 (by omega) h2
          exact ⟨y, r3, by rw [un]; exact e3, q3⟩
        | bk => exact ⟨.nx, r2, by rw [un]; rfl, q⟩
        | rt d => exact ⟨.rt d, r2, by rw [un]; rfl, q⟩
        | rf d => exact ⟨.rf d, r2, by rw [un]; rfl, q⟩
  exact go N n r hn h0
/-- a comprehension, by an invariant over the turns and what is made so far -/
theorem w_lc {P : D → Ro → Prop} {mi : M (List D)} {f : D → Ro → Option Ro} {t : M Bool} {e : M D} {vs : List Nat} (h : wp mi (fun ds r => okW r vs = true ∧ wp (compM f t e vs ds []) (fun res r' => P (.lst res) (back r r' vs)) (wipeR r vs)) r) : wp (lcM mi f t e vs) P r := by
  obtain ⟨ds, r1, e1, hok, res, r2, e2, q⟩ := h
  exact ⟨.lst res, _, by unfold lcM bd; rw [e1]; dsimp only; rw [if_pos hok, e2], q⟩
theorem w_comp {P : List D → Ro → Prop} {f : D → Ro → Option Ro} {t : M Bool} {e : M D} {vs : List Nat} {ds : List D} (I : Nat → List D → Ro → Prop) (h0 : I 0 [] r)
    (hs : ∀ i d acc r, ds[i]? = some d → I i acc r → ∃ r1, f d r = some r1 ∧ wp t (fun x r2 => if x = true then wp e (fun y r3 => acc.length < sizeLine ∧ I (i + 1) (acc ++ [y]) (wipeR r3 vs)) r2 else I (i + 1) acc (wipeR r2 vs)) r1) (he : ∀ acc r, I ds.length acc r → P acc r) : wp (compM f t e vs ds []) P r := by
  have go : ∀ (n : Nat) (i : Nat) (acc : List D) (r : Ro), ds.length = i + n → I i acc r → wp (compM f t e vs (ds.drop i) acc) P r := fun n => by
    induction n with
    | zero =>
      intro i acc r hl hi
      rw [List.drop_eq_nil_of_le (by omega)]
      have : i = ds.length := by omega
      subst this
      exact ⟨acc, r, rfl, he acc r hi⟩
    | succ n ih =>
      intro i acc r hl hi
      have hlt : i < ds.length := by omega
      rw [List.drop_eq_getElem_cons hlt]
      obtain ⟨r1, e1, x, r2, e2, q⟩ := hs i _ acc r (List.getElem?_eq_getElem hlt) hi
      cases x with
      | false =>
        simp only [Bool.false_eq_true, if_false] at q
        obtain ⟨y, r3, e3, q3⟩ := ih (i + 1) acc _ (by omega) q
        exact ⟨y, r3, by simp only [compM, e1, e2]; exact e3, q3⟩
      | true =>
        simp only [if_true] at q
        obtain ⟨y, r3, e3, hl2, q⟩ := q
        obtain ⟨z, r4, e4, q4⟩ := ih (i + 1) _ _ (by omega) q
        exact ⟨z, r4, by simp only [compM, e1, e2, e3, if_pos hl2]; exact e4, q4⟩
  exact go ds.length 0 [] r (by omega) h0
end
/-! ### single steps -/
theorem w_modD {x y : Int} (h : y ≠ 0) : modD (.int x) (.int y) = some (.int (x.fmod y)) := by simp [modD, onI, h]
theorem w_fdivD {x y : Int} (h : y ≠ 0) (h2 : y.natAbs.log2 < 9000) : fdivD (.int x) (.int y) = some (.int (x.fdiv y)) := by simp [fdivD, onI, h, h2]
theorem w_mulD {x y : Int} (h : x.natAbs.log2 + y.natAbs.log2 < 67108864) : mulD (.int x) (.int y) = some (.int (x * y)) := by simp only [mulD]; rw [if_pos h]
theorem w_powD {x y : Int} (h0 : 0 ≤ y) (h1 : y ≤ 1000000) (h2 : x.natAbs < 2 ^ 64) : powD (.int x) (.int y) = some (.int (x ^ y.toNat)) := by
  have h : decide (0 ≤ y ∧ y ≤ 1000000 ∧ x.natAbs < 2 ^ 64) = true := by rw [decide_eq_true_eq]; exact ⟨h0, h1, h2⟩
  simp only [powD, onI, h, if_true]
theorem w_eqI {x y : Int} : eqD (.int x) (.int y) = some (.bl (x == y)) := by simp [eqD, okEq, eqv, D.py, PyData.canLay0, PyData.depth, PyData.eqv]
theorem w_neI {x y : Int} : neD (.int x) (.int y) = some (.bl (!(x == y))) := by simp [neD, okEq, eqv, D.py, PyData.canLay0, PyData.depth, PyData.eqv]
theorem w_eqS {x y : Str} (hx : PyData.strOk x = true) (hy : PyData.strOk y = true) : eqD (.str x) (.str y) = some (.bl (x == y)) := by simp [eqD, okEq, eqv, D.py, PyData.canLay0, PyData.depth, PyData.eqv, hx, hy]
theorem w_neS {x y : Str} (hx : PyData.strOk x = true) (hy : PyData.strOk y = true) : neD (.str x) (.str y) = some (.bl (!(x == y))) := by simp [neD, okEq, eqv, D.py, PyData.canLay0, PyData.depth, PyData.eqv, hx, hy]
theorem w_itT {β : Type} {a b : M β} {P : β → Ro → Prop} {r : Ro} (h : wp a P r) : wp (if true = true then a else b) P r := by rw [if_pos rfl]; exact h
theorem w_itF {β : Type} {a b : M β} {P : β → Ro → Prop} {r : Ro} (h : wp b P r) : wp (if false = true then a else b) P r := by rw [if_neg Bool.false_ne_true]; exact h
theorem w_it {β : Type} {c : Bool} {a b : M β} {P : β → Ro → Prop} {r : Ro} (h1 : c = true → wp a P r) (h2 : c = false → wp b P r) : wp (if c = true then a else b) P r := by
  cases c with
  | true => exact w_itT (h1 rfl)
  | false => exact w_itF (h2 rfl)
theorem p_itT {a b : Prop} (h : a) : if true = true then a else b := by rw [if_pos rfl]; exact h
theorem p_itF {a b : Prop} (h : b) : if false = true then a else b := by rw [if_neg Bool.false_ne_true]; exact h
theorem p_it {c : Bool} {a b : Prop} (h1 : c = true → a) (h2 : c = false → b) : if c = true then a else b := by
  cases c with
  | true => exact p_itT (h1 rfl)
  | false => exact p_itF (h2 rfl)
theorem w_ifT {β : Type} {c : Bool} {a b : M β} {P : β → Ro → Prop} {r : Ro} (e : c = true) (h : wp a P r) : wp (if c = true then a else b) P r := by rw [if_pos e]; exact h
theorem w_ifF {β : Type} {c : Bool} {a b : M β} {P : β → Ro → Prop} {r : Ro} (e : c = false) (h : wp b P r) : wp (if c = true then a else b) P r := by rw [e, if_neg Bool.false_ne_true]; exact h
theorem p_ifT {c : Bool} {a b : Prop} (e : c = true) (h : a) : if c = true then a else b := by rw [if_pos e]; exact h
theorem p_ifF {c : Bool} {a b : Prop} (e : c = false) (h : b) : if c = true then a else b := by rw [e, if_neg Bool.false_ne_true]; exact h
theorem eqv_int (a b : Int) : eqv (.int a) (.int b) = (a == b) := by simp [eqv, D.py, PyData.eqv]
theorem eqv_str (a b : Str) : eqv (.str a) (.str b) = (a == b) := by simp [eqv, D.py, PyData.eqv]
/-! ### indexes, texts -/
theorem atI_in {α : Type} {xs : List α} {i : Int} (h0 : 0 ≤ i) (h1 : i < (xs.length : Int)) : ∃ x, x ∈ xs ∧ xs[i.toNat]? = some x ∧ L2.atI xs i = some x := by
  have hl : i.toNat < xs.length := by omega
  refine ⟨xs[i.toNat], List.getElem_mem hl, List.getElem?_eq_getElem hl, ?_⟩
  unfold L2.atI ixN
  rw [if_pos h0, if_pos h1]
  exact List.getElem?_eq_getElem hl
theorem w_ixT {ds : List D} {i : Int} (h0 : 0 ≤ i) (h1 : i < (ds.length : Int)) : ∃ x, x ∈ ds ∧ ds[i.toNat]? = some x ∧ ixD (.tup ds) (.int i) = some x := atI_in h0 h1
theorem w_ixL {ds : List D} {i : Int} (h0 : 0 ≤ i) (h1 : i < (ds.length : Int)) : ∃ x, x ∈ ds ∧ ds[i.toNat]? = some x ∧ ixD (.lst ds) (.int i) = some x := atI_in h0 h1
theorem w_ixR {ds : List D} {i : Int} (h0 : 0 ≤ i) (h1 : i < (ds.length : Int)) : ∃ x, x ∈ ds ∧ ds[i.toNat]? = some x ∧ ixD (.ro ds) (.int i) = some x := atI_in h0 h1
theorem w_ixS {z : Str} {i : Int} (hz : z.length ≤ sizeLine) (h0 : 0 ≤ i) (h1 : i < (z.length : Int)) : ∃ c, c ∈ z.cps.toList ∧ ixD (.str z) (.int i) = some (.str ⟨#[c]⟩) := by
  obtain ⟨c, h2, _, h3⟩ := atI_in (xs := z.cps.toList) h0 (by rw [Array.length_toList]; exact h1)
  refine ⟨c, h2, ?_⟩
  simp only [ixD, if_pos hz, h3]
  rfl
/-- a string of the document -/
def COk (c : Nat) : Prop := 32 ≤ c ∧ c ≤ 126 ∧ c ≠ 37
instance (c : Nat) : Decidable (COk c) := by unfold COk; exact inferInstance
def SOk (x : Str) : Prop := (∀ c ∈ x.cps.toList, COk c) ∧ x.length ≤ 100
theorem SOk.str {x : Str} (h : SOk x) : PyData.strOk x = true := by
  unfold PyData.strOk
  rw [← Array.all_toList, List.all_eq_true]
  intro c hc
  have := h.1 c hc
  unfold COk at this
  simp; omega
theorem sok_by {x : Str} (h : (x.cps.toList.all (fun c => decide (COk c)) && decide (x.length ≤ 100)) = true) : SOk x := by
  rw [Bool.and_eq_true, List.all_eq_true, decide_eq_true_eq] at h
  exact ⟨fun c hc => of_decide_eq_true (h.1 c hc), h.2⟩
theorem app_cps (x y : Str) : (x ++ y).cps.toList = x.cps.toList ++ y.cps.toList := by
  show (x.cps ++ y.cps).toList = _
  exact Array.toList_append
theorem app_len (x y : Str) : (x ++ y).length = x.length + y.length := by
  show (x.cps ++ y.cps).size = _
  exact Array.size_append
theorem SOk.app {x y : Str} (hx : ∀ c ∈ x.cps.toList, COk c) (hy : ∀ c ∈ y.cps.toList, COk c) (hl : x.length + y.length ≤ 100) : SOk (x ++ y) := by
  refine ⟨fun c hc => ?_, by rw [app_len]; exact hl⟩
  rw [app_cps] at hc
  rcases List.mem_append.mp hc with h | h
  · exact hx c h
  · exact hy c h
theorem join_cps : ∀ ys : List Str, (Str.join Str.empty ys).cps.toList = (ys.map fun y => y.cps.toList).flatten
  | [] => rfl
  | [x] => by simp [Str.join]
  | x :: y :: r => by
    show (x ++ Str.empty ++ Str.join Str.empty (y :: r)).cps.toList = _
    rw [app_cps, app_cps, join_cps (y :: r)]
    show x.cps.toList ++ [] ++ _ = _
    simp
theorem w_env {β : Type} {m : M β} {P : β → Ro → Prop} {r r' : Ro} (e : r = r') (h : wp m P r') : wp m P r := by rw [e]; exact h
theorem p_env {β : Type} {P : β → Ro → Prop} {x : β} {r r' : Ro} (e : r = r') (h : P x r') : P x r := by rw [e]; exact h
/-! ### one step each, by its head -/
section
variable {r : Ro} {a b : Int} {x y : Str} {ds : List D} {d : D}
theorem o_asB {P : Bool → Ro → Prop} {k : Bool} (h : P k r) : wp (of (asB (.bl k))) P r := w_of rfl h
theorem o_asI {P : Option Int → Ro → Prop} (h : P (some a) r) : wp (of (asI (.int a))) P r := w_of rfl h
theorem o_asS {P : Str → Ro → Prop} (h : P x r) : wp (of (asS (.str x))) P r := w_of rfl h
theorem o_truB {P : Bool → Ro → Prop} {k : Bool} (h : P k r) : wp (of (truD (.bl k))) P r := w_of rfl h
theorem o_truN {P : Bool → Ro → Prop} (h : P false r) : wp (of (truD .non)) P r := w_of rfl h
theorem o_truT {P : Bool → Ro → Prop} (h : P (!ds.isEmpty) r) : wp (of (truD (.tup ds))) P r := w_of rfl h
theorem o_truL {P : Bool → Ro → Prop} (h : P (!ds.isEmpty) r) : wp (of (truD (.lst ds))) P r := w_of rfl h
variable {P : D → Ro → Prop}
theorem o_intI (h : P (.int a) r) : wp (of (intD [.int a])) P r := w_of rfl h
theorem o_intB {k : Bool} (h : P (.int (if k then 1 else 0)) r) : wp (of (intD [.bl k])) P r := w_of rfl h
theorem o_lenT (h : P (.int ds.length) r) : wp (of (lenD [.tup ds])) P r := w_of rfl h
theorem o_lenL (h : P (.int ds.length) r) : wp (of (lenD [.lst ds])) P r := w_of rfl h
theorem o_lenR (h : P (.int ds.length) r) : wp (of (lenD [.ro ds])) P r := w_of rfl h
theorem o_listT (h : P (.lst ds) r) : wp (of (listD [.tup ds])) P r := w_of rfl h
theorem o_listL (h : P (.lst ds) r) : wp (of (listD [.lst ds])) P r := w_of rfl h
theorem o_tupleT (h : P (.tup ds) r) : wp (of (tupleD [.tup ds])) P r := w_of rfl h
theorem o_tupleL (h : P (.tup ds) r) : wp (of (tupleD [.lst ds])) P r := w_of rfl h
theorem o_addI (h : P (.int (a + b)) r) : wp (of (addD (.int a) (.int b))) P r := w_of rfl h
theorem o_subI (h : P (.int (a - b)) r) : wp (of (subD (.int a) (.int b))) P r := w_of rfl h
theorem o_modI (e : b ≠ 0) (h : P (.int (a.fmod b)) r) : wp (of (modD (.int a) (.int b))) P r := w_of (w_modD e) h
theorem o_fdivI (e : b ≠ 0) (e2 : b.natAbs.log2 < 9000) (h : P (.int (a.fdiv b)) r) : wp (of (fdivD (.int a) (.int b))) P r := w_of (w_fdivD e e2) h
theorem o_mulI (e : a.natAbs.log2 + b.natAbs.log2 < 67108864) (h : P (.int (a * b)) r) : wp (of (mulD (.int a) (.int b))) P r := w_of (w_mulD e) h
theorem o_powI (h0 : 0 ≤ b) (h1 : b ≤ 1000000) (h2 : a.natAbs < 2 ^ 64) (h : P (.int (a ^ b.toNat)) r) : wp (of (powD (.int a) (.int b))) P r := w_of (w_powD h0 h1 h2) h
theorem o_negI (h : P (.int (-a)) r) : wp (of (negD (.int a))) P r := w_of rfl h
theorem o_minI (h : P (.int (if b < a then b else a)) r) : wp (of (minD [.int a, .int b])) P r := w_of rfl h
theorem o_maxI (h : P (.int (if b > a then b else a)) r) : wp (of (maxD [.int a, .int b])) P r := w_of rfl h
theorem o_eqI (h : P (.bl (a == b)) r) : wp (of (eqD (.int a) (.int b))) P r := w_of w_eqI h
theorem o_neI (h : P (.bl (!(a == b))) r) : wp (of (neD (.int a) (.int b))) P r := w_of w_neI h
theorem o_eqS (hx : PyData.strOk x = true) (hy : PyData.strOk y = true) (h : P (.bl (x == y)) r) : wp (of (eqD (.str x) (.str y))) P r := w_of (w_eqS hx hy) h
theorem o_neS (hx : PyData.strOk x = true) (hy : PyData.strOk y = true) (h : P (.bl (!(x == y))) r) : wp (of (neD (.str x) (.str y))) P r := w_of (w_neS hx hy) h
theorem o_ltI (h : P (.bl (decide (a < b))) r) : wp (of (ltD (.int a) (.int b))) P r := w_of rfl h
theorem o_leI (h : P (.bl (decide (a ≤ b))) r) : wp (of (leD (.int a) (.int b))) P r := w_of rfl h
theorem o_gtI (h : P (.bl (decide (b < a))) r) : wp (of (gtD (.int a) (.int b))) P r := w_of rfl h
theorem o_geI (h : P (.bl (decide (b ≤ a))) r) : wp (of (geD (.int a) (.int b))) P r := w_of rfl h
theorem o_ltS (h : P (.bl (decide (x.cps.toList < y.cps.toList))) r) : wp (of (ltD (.str x) (.str y))) P r := w_of rfl h
theorem o_gtS (h : P (.bl (decide (y.cps.toList < x.cps.toList))) r) : wp (of (gtD (.str x) (.str y))) P r := w_of rfl h
theorem o_leS (h : P (.bl (!decide (y.cps.toList < x.cps.toList))) r) : wp (of (leD (.str x) (.str y))) P r := w_of rfl h
theorem o_geS (h : P (.bl (!decide (x.cps.toList < y.cps.toList))) r) : wp (of (geD (.str x) (.str y))) P r := w_of rfl h
theorem o_isN (h : P (.bl d.isNon) r) : wp (of (isD d .non)) P r := w_of rfl h
theorem o_isNotN (h : P (.bl (!d.isNon)) r) : wp (of (isNotD d .non)) P r := w_of rfl h
theorem o_mkT {d e f g : D} : (P (.tup []) r → wp (of (mkT [])) P r) ∧ (P (.tup [d]) r → wp (of (mkT [d])) P r) ∧ (P (.tup [d, e]) r → wp (of (mkT [d, e])) P r) ∧ (P (.tup [d, e, f]) r → wp (of (mkT [d, e, f])) P r) ∧ (P (.tup [d, e, f, g]) r → wp (of (mkT [d, e, f, g])) P r) :=
  ⟨fun h => w_of rfl h, fun h => w_of rfl h, fun h => w_of rfl h, fun h => w_of rfl h, fun h => w_of rfl h⟩
theorem o_mkT0 (h : P (.tup []) r) : wp (of (mkT [])) P r := w_of rfl h
theorem o_mkT1 {d : D} (h : P (.tup [d]) r) : wp (of (mkT [d])) P r := w_of rfl h
theorem o_mkT2 {d e : D} (h : P (.tup [d, e]) r) : wp (of (mkT [d, e])) P r := w_of rfl h
theorem o_mkL (hl : ds.length ≤ 1000) (h : P (.lst ds) r) : wp (of (mkL ds)) P r := w_of (by unfold mkL; rw [if_pos (Nat.le_trans hl (by decide))]) h
theorem o_mkT_ (hl : ds.length ≤ 1000) (h : P (.tup ds) r) : wp (of (mkT ds)) P r := w_of (by unfold mkT; rw [if_pos (Nat.le_trans hl (by decide))]) h
theorem o_ixT {i : Nat} (e : ds[i]? = some d) (h : P d r) : wp (of (ixD (.tup ds) (.int (i : Nat)))) P r := w_of (show L2.atI ds _ = _ from atI_nat e) h
theorem o_isi {T : String} {k : Bool} (e : isiD T d = some (.bl k)) (h : P (.bl k) r) : wp (of (isiD T d)) P r := w_of e h
end
section
variable {i : Int} {b : Bool} {x : Str} {ds : List D}
theorem i_int : isiD "int" (.int i) = some (.bl true) ∧ isiD "int" (.bl b) = some (.bl true) ∧ isiD "int" (.str x) = some (.bl false) ∧ isiD "int" (.tup ds) = some (.bl false) ∧ isiD "int" .non = some (.bl false) := ⟨rfl, rfl, rfl, rfl, rfl⟩
theorem i_bool : isiD "bool" (.int i) = some (.bl false) ∧ isiD "bool" (.bl b) = some (.bl true) ∧ isiD "bool" (.str x) = some (.bl false) ∧ isiD "bool" (.tup ds) = some (.bl false) ∧ isiD "bool" .non = some (.bl false) := ⟨rfl, rfl, rfl, rfl, rfl⟩
theorem i_str : isiD "str" (.int i) = some (.bl false) ∧ isiD "str" (.bl b) = some (.bl false) ∧ isiD "str" (.str x) = some (.bl true) ∧ isiD "str" (.tup ds) = some (.bl false) ∧ isiD "str" .non = some (.bl false) := ⟨rfl, rfl, rfl, rfl, rfl⟩
theorem i_tuple : isiD "tuple" (.int i) = some (.bl false) ∧ isiD "tuple" (.bl b) = some (.bl false) ∧ isiD "tuple" (.str x) = some (.bl false) ∧ isiD "tuple" (.tup ds) = some (.bl true) ∧ isiD "tuple" .non = some (.bl false) := ⟨rfl, rfl, rfl, rfl, rfl⟩
end
/-- a comprehension that changes nothing else -/
theorem w_comp_pure {P : List D → Ro → Prop} {f : D → Ro → Option Ro} {t : M Bool} {e : M D} {vs : List Nat} {ds : List D} {r : Ro} (p : D → Bool) (g : D → D)
    (hs : ∀ d ∈ ds, ∃ r1, f d r = some r1 ∧ wp t (fun b r2 => b = p d ∧ r2 = r1) r1 ∧ (p d = true → wp e (fun y r3 => y = g d ∧ wipeR r3 vs = r) r1) ∧ wipeR r1 vs = r) (hl : ds.length ≤ sizeLine) (h : P ((ds.filter p).map g) r) : wp (compM f t e vs ds []) P r := by
  refine w_comp (fun i acc r' => r' = r ∧ acc = ((ds.take i).filter p).map g) ⟨rfl, by simp⟩ ?_ ?_
  · rintro i d acc r' hd ⟨rfl, rfl⟩
    have hm : d ∈ ds := List.mem_of_getElem? hd
    obtain ⟨r1, e1, wt, we, hw⟩ := hs d hm
    have hi : i < ds.length := (List.getElem?_eq_some_iff.mp hd).1
    have ht : ds.take (i + 1) = ds.take i ++ [d] := by
      rw [List.take_succ, hd]; rfl
    refine ⟨r1, e1, w_mono wt ?_⟩
    rintro b r2 ⟨rfl, rfl⟩
    by_cases hp : p d = true
    · rw [if_pos hp]
      refine w_mono (we hp) ?_
      rintro y r3 ⟨rfl, h3⟩
      refine ⟨?_, h3, ?_⟩
      · have : (((ds.take i).filter p).map g).length ≤ i := by
          rw [List.length_map]
          exact Nat.le_trans (List.length_filter_le _ _) (by rw [List.length_take]; omega)
        omega
      · rw [ht, List.filter_append, List.map_append]
        simp [hp]
    · rw [if_neg hp]
      refine ⟨hw, ?_⟩
      rw [ht, List.filter_append]
      simp [hp]
  · rintro acc r' ⟨rfl, rfl⟩
    rw [List.take_length]
    exact h
theorem addT {x y : List D} (h : x.length + y.length ≤ 10000) : addD (.tup x) (.tup y) = some (.tup (x ++ y)) := by
  simp only [addD]
  rw [if_pos (Nat.le_trans h (by decide))]
theorem addL {x y : List D} (h : x.length + y.length ≤ 10000) : addD (.lst x) (.lst y) = some (.lst (x ++ y)) := by
  simp only [addD]
  rw [if_pos (Nat.le_trans h (by decide))]
theorem w_rng {z : Int} (h0 : 0 ≤ z) (h1 : z < 1000000) : rng1 [.int z] = some (rng 0 z.toNat) := by
  show (if -(2 ^ 62) ≤ z ∧ z < 2 ^ 62 then some (rng 0 z.toNat) else none) = _
  rw [if_pos ⟨by omega, by omega⟩]
theorem rng_len (lo : Int) (n : Nat) : (rng lo n).length = n := by simp [rng]
theorem rng_at {lo : Int} {n i : Nat} {d : D} (h : (rng lo n)[i]? = some d) : i < n ∧ d = .int (lo + i) := by
  have hi : i < n := by
    have := (List.getElem?_eq_some_iff.mp h).1
    rwa [rng_len] at this
  unfold rng at h
  rw [List.getElem?_map, List.getElem?_range hi] at h
  exact ⟨hi, (Option.some.inj h).symm⟩
theorem so_list : PyData.strOk (Str.ofString "list") = true := SOk.str (sok_by (by decide +kernel))
theorem so_object : PyData.strOk (Str.ofString "object") = true := SOk.str (sok_by (by decide +kernel))
theorem so_null : PyData.strOk (Str.ofString "null") = true := SOk.str (sok_by (by decide +kernel))
theorem so_bool : PyData.strOk (Str.ofString "bool") = true := SOk.str (sok_by (by decide +kernel))
theorem so_int : PyData.strOk (Str.ofString "int") = true := SOk.str (sok_by (by decide +kernel))
theorem so_text : PyData.strOk (Str.ofString "text") = true := SOk.str (sok_by (by decide +kernel))
theorem nd0 : ([] : List Nat).Nodup := List.nodup_nil
theorem nd1 {i : Nat} : [i].Nodup := by simp
theorem w_chain {g g' : D → D → Option D} {a b c : M D} {P : D → Ro → Prop} {r : Ro} (h : wp (bd a fun x => bd b fun y => bd (of (g x y)) fun z => bd (of (asB z)) fun k => if k = true then bd c fun w => of (g' y w) else rt (.bl false)) P r) : wp (chainM g g' a b c) P r := h
theorem w_andV {a b : M D} {P : D → Ro → Prop} {r : Ro} (h : wp (bd a fun x => bd (of (asB x)) fun k => if k = true then b else rt (.bl false)) P r) : wp (andV a b) P r := h
theorem w_orV {a b : M D} {P : D → Ro → Prop} {r : Ro} (h : wp (bd a fun x => bd (of (asB x)) fun k => if k = true then rt (.bl true) else b) P r) : wp (orV a b) P r := h
theorem o_ix {a b d : D} {P : D → Ro → Prop} {r : Ro} (e : ixD a b = some d) (h : P d r) : wp (of (ixD a b)) P r := w_of e h
end Pk

namespace Pk
open PySem L2 PyProof.Rows
section
variable {X : Cx} {K : KP} {pos : Pos} {tg iter : Expr} {σ : L2.St} {H : Hp} {i : Nat}
theorem comp_coreA {J : It} {ds : List D} {f : D → Ro → Option Ro} {t : M Bool} {me : M D} {vs : List Nat} {G0 H0 : Hp} {r0 : Ro} {σ : L2.St} {acc0 : List V} {accD0 : List D} {Q : Hp → Prop} {C : Hp → Prop} {P : Hp → Hp → Ro → Prop} {res : List D} {rf : Ro} {p : Addr}
    (hW : Wk K J ds G0 C) (hP : ∀ G H r G' H' r', P G H r → Fr G H r (wipe σ vs) G' H' r' (wipe σ vs) → P G' H' r') (hPu : ∀ G H r o, P G H r → P G (upd H p o) r) (hC : ∀ G H r, P G H r → C H) (p0 : P G0 H0 r0)
    (R0 : Rel Θ K G0 H0 r0 (wipe σ vs)) (hw0 : ∀ j, j ∈ vs → ∀ x, r0[j]? ≠ some (some x)) (hp : H0 p = none) (rs0 : Reps K G0 accD0 acc0) (c0 : compM f t me vs ds accD0 r0 = some (res, rf))
    (hQ : ∀ G H acc, Rel Θ K G H rf (wipe σ vs) → (∀ j, j ∈ vs → ∀ x, rf[j]? ≠ some (some x)) → Fr G0 H0 r0 (wipe σ vs) G H rf (wipe σ vs) → H p = some (.lst acc) → G p = none → ¬ Owned rf (wipe σ vs) p → Reps K G res acc → Q H) :
    ∃ W : Nat → Nat → Hp → Prop, (∃ m, W 0 m (upd H0 p (.lst acc0))) ∧ ∀ i m H, W i m H →
      (J.stop i H ∧ Q H) ∨ (J.go i H ∧ ∃ Nx : Hp → Prop, (∀ H', Nx H' → ∃ m', m' < m ∧ W (i + 1) m' H') ∧ ∀ x H', J.yld i H x H' → rdW Θ K vs f x (wipe σ vs) H' fun σ2 H2 => wipe σ2 vs = wipe σ vs ∧ rdT Θ K t σ2 H2 fun b H3 =>
        if b = true then rdE Θ K me σ2 H3 fun y H4 => ∃ acc, H4 p = some (.lst acc) ∧ acc.length < sizeLine ∧ Nx (upd H4 p (.lst (acc ++ [y]))) else Nx H3) := by
  have gp0 : G0 p = none := free_of R0.sub hp
  have op0 : ¬ Owned r0 (wipe σ vs) p := fun ⟨j, q, fs, z1, z2⟩ => by
    obtain ⟨a, us, h1, h2, _⟩ := R0.own j q fs z1
    rw [h1] at z2
    cases z2
    rw [hp] at h2; cases h2
  let St := fun (G H : Hp) (r : Ro) (acc : List V) (accD : List D) => Rel Θ K G H r (wipe σ vs) ∧ (∀ j, j ∈ vs → ∀ x, r[j]? ≠ some (some x)) ∧ Fr G0 H0 r0 (wipe σ vs) G H r (wipe σ vs) ∧ P G H r ∧ H p = some (.lst acc) ∧ G p = none ∧ ¬ Owned r (wipe σ vs) p ∧ Reps K G accD acc
  refine ⟨fun i m H => m = ds.length - i ∧ i ≤ ds.length ∧ ∃ G r acc accD, St G H r acc accD ∧ compM f t me vs (ds.drop i) accD r = some (res, rf), ⟨ds.length, by simp, Nat.zero_le _, G0, r0, acc0, accD0, ⟨side_rel R0 gp0 op0 (.inl hp), hw0, ?_, hPu _ _ _ _ p0, upd_same, gp0, op0, rs0⟩, by simpa using c0⟩, ?_⟩
  · exact ⟨Same.refl _, fun b u e _ n => ⟨by rw [upd_ne (ne_of_none e hp)]; exact e, n, fun z => z⟩, fun j ds z => ⟨⟨ds, z⟩, rfl⟩, fun j z => ⟨z, rfl⟩, fun b h => same_nw (same_new hp _) h⟩
  rintro i m H ⟨rfl, hi, G, r, acc, accD, ⟨R, hw, F, pp, hHp, hGp, hOp, rs⟩, c⟩
  obtain ⟨w1, w2⟩ := hW G H F.le R.sub (hC _ _ _ pp)
  by_cases hlt : i < ds.length
  · have hd : ds[i]? = some ds[i] := List.getElem?_eq_getElem hlt
    obtain ⟨g, y⟩ := w2 i _ hd
    rw [List.drop_eq_getElem_cons hlt] at c
    simp only [compM] at c
    cases e1 : f ds[i] r with
    | none => rw [e1] at c; cases c
    | some r1 =>
      rw [e1] at c
      dsimp only at c
      refine .inr ⟨g, fun H' => ∃ G' r' acc' accD', St G' H' r' acc' accD' ∧ compM f t me vs (ds.drop (i + 1)) accD' r' = some (res, rf), fun H' ⟨G', r', acc', accD', st', c'⟩ => ⟨ds.length - (i + 1), by omega, rfl, hlt, G', r', acc', accD', st', c'⟩, fun x H1 hy => ?_⟩
      obtain ⟨G1, ex, rx⟩ := y x H1 hy
      refine ⟨G1, r, _, r1, ex.rel R, rx, e1, fun σ2 R2 F2 ws => ?_⟩
      rw [wipe_wipe] at ws
      have F1 : Fr G H r (wipe σ vs) G1 H1 r1 σ2 := (ex.fr r _).trans F2
      refine ⟨ws, ?_⟩
      -- from a row over σ2 back to a wiped one
      have fin : ∀ (G5 H5 : Hp) (r5 : Ro), Rel Θ K G5 H5 r5 σ2 → Fr G H r (wipe σ vs) G5 H5 r5 σ2 → Rel Θ K G5 H5 (wipeR r5 vs) (wipe σ vs) ∧ Fr G H r (wipe σ vs) G5 H5 (wipeR r5 vs) (wipe σ vs) := fun G5 H5 r5 R5 F5 => by
        have Rw := wipe_rel (vs := vs) R5
        rw [ws] at Rw
        refine ⟨Rw, F5.le, fun b u e t n => ?_, fun j fs z => ?_, fun j z => ?_, F5.mono⟩
        · obtain ⟨h1, h2, h3⟩ := F5.keep b u e t n
          refine ⟨h1, fun z => h2 ?_, h3⟩
          rw [← ws] at z
          exact wipe_owned z
        · have hj : j ∉ vs := fun hj => hw j hj _ z
          obtain ⟨⟨fs', h1⟩, h2⟩ := F5.pin j fs z
          exact ⟨⟨fs', by rw [wipeR_out hj]; exact h1⟩, rfl⟩
        · have hj : j ∉ vs := fun hj => hw j hj _ z
          obtain ⟨h1, h2⟩ := F5.lck j z
          exact ⟨by rw [wipeR_out hj]; exact h1, rfl⟩
      have hww : ∀ (r5 : Ro) (j : Nat), j ∈ vs → ∀ x, (wipeR r5 vs)[j]? ≠ some (some x) := fun r5 j hj x z => (wipeR_get z).2 hj
      cases e2 : t r1 with
      | none => rw [e2] at c; cases c
      | some q =>
        obtain ⟨bb, r2⟩ := q
        rw [e2] at c
        refine ⟨G1, r1, R2, bb, r2, e2, fun G3 H3 R3 F3 => ?_⟩
        have F13 := F1.trans F3
        cases bb with
        | false =>
          dsimp only at c ⊢
          rw [if_neg Bool.false_ne_true]
          obtain ⟨Rw, Fw⟩ := fin G3 H3 r2 R3 F13
          obtain ⟨k1, k2, k3⟩ := Fw.keep p _ hHp rfl hOp
          exact ⟨G3, wipeR r2 vs, acc, accD, ⟨Rw, hww r2, F.trans Fw, hP _ _ _ _ _ _ pp Fw, k1, k3 hGp, k2, Reps.mono Fw.le _ _ rs⟩, c⟩
        | true =>
          dsimp only at c ⊢
          rw [if_pos rfl]
          cases e3 : me r2 with
          | none => rw [e3] at c; cases c
          | some q =>
            obtain ⟨yy, r3⟩ := q
            rw [e3] at c
            dsimp only at c
            refine ⟨G3, r2, R3, yy, r3, e3, fun G4 H4 R4 F4 vy ry => ?_⟩
            have F14 := F13.trans F4
            obtain ⟨Rw, Fw⟩ := fin G4 H4 r3 R4 F14
            obtain ⟨k1, k2, k3⟩ := Fw.keep p _ hHp rfl hOp
            split at c
            · rename_i hl
              refine ⟨acc, k1, by rw [rs.length]; exact hl, G4, wipeR r3 vs, acc ++ [vy], accD ++ [yy], ⟨side_rel Rw (k3 hGp) k2 (.inr ⟨_, k1⟩), hww r3, ?_, hPu _ _ _ _ (hP _ _ _ _ _ _ pp Fw), upd_same, k3 hGp, k2, (Reps.mono Fw.le _ _ rs).snoc ry⟩, c⟩
              have FF := F.trans Fw
              exact ⟨FF.le, fun b u e t n => by
                obtain ⟨h1, h2, h3⟩ := FF.keep b u e t n
                exact ⟨by rw [upd_ne (ne_of_none e hp)]; exact h1, h2, h3⟩, FF.pin, FF.lck, fun b h => FF.mono b (by
                  by_cases e : b = p
                  · subst e; cases h _ upd_same
                  · exact fun u z => h u (by rw [upd_ne e]; exact z))⟩
            · cases c
  · have e : i = ds.length := by omega
    subst e
    rw [List.drop_length] at c
    simp only [compM] at c
    cases c
    exact .inl ⟨w1 _ (Nat.le_refl _), hQ G H acc R hw F hHp hGp hOp rs⟩

/-- a heap without an address -/
def rub (H : Hp) (p : Addr) : Hp := fun b => if b = p then none else H b
theorem rub_ne {H : Hp} {p b : Addr} (h : b ≠ p) : rub H p b = H b := if_neg h
theorem rub_same {H : Hp} {p : Addr} : rub H p p = none := if_pos rfl
theorem rub_upd {H : Hp} {p : Addr} {o : HO} (h : H p = some o) : upd (rub H p) p o = H := by
  funext b
  by_cases e : b = p
  · subst e; rw [upd_same, h]
  · rw [upd_ne e, rub_ne e]
theorem rub_tab {Θ : List (Addr × Str)} {G H : Hp} (t : Tb Θ G H) {p : Addr} {vs : List V} (h : H p = some (.lst vs)) : Tb Θ G (rub H p) := by
  refine ⟨fun e he => ?_, t.out, t.cl⟩
  obtain ⟨ps, a1, a2, a3⟩ := t.ok e he
  refine ⟨ps, by rw [rub_ne (fun z => by rw [z, h] at a1; cases a1)]; exact a1, a2, fun pos cv hc => ?_⟩
  obtain ⟨c, e1, e2⟩ := a3 pos cv hc
  exact ⟨c, e1, by rw [rub_ne (fun z => by rw [z, h] at e2; unfold LamX.CodeO at e2; cases e2)]; exact e2⟩
theorem rub_rel {G H : Hp} {r : Ro} {σ : L2.St} (R : Rel Θ K G H r σ) {p : Addr} (hG : G p = none) (hO : ¬ Owned r σ p) {vs : List V} (hp : H p = some (.lst vs)) : Rel Θ K G (rub H p) r σ := by
  refine ⟨R.len, fun b u e => ?_, R.get, fun j q ds z => ?_, R.sep, rub_tab R.tab hp⟩
  · rw [rub_ne (fun z => by subst z; rw [hG] at e; cases e)]
    exact R.sub _ _ e
  · obtain ⟨a, vs, h1, h2, h3, h4⟩ := R.own j q ds z
    exact ⟨a, vs, h1, by rw [rub_ne (fun z' => hO ⟨j, q, ds, z, by rw [← z']; exact h1⟩)]; exact h2, h3, h4⟩
theorem fr_rub {G0 H0 G H : Hp} {r0 r : Ro} {σ0 σ : L2.St} {p : Addr} (F : Fr G0 H0 r0 σ0 G H r σ) (hp : H0 p = none) : Fr G0 H0 r0 σ0 G (rub H p) r σ :=
  ⟨F.le, fun b u e t n => by
    obtain ⟨h1, h2, h3⟩ := F.keep b u e t n
    exact ⟨by rw [rub_ne (ne_of_none e hp)]; exact h1, h2, h3⟩, F.pin, F.lck, fun b h => by
      by_cases e : b = p
      · subst e; exact nw_none hp
      · exact F.mono b fun u z => h u (by rw [rub_ne e]; exact z)⟩
theorem fr_wipe {G0 H0 G H : Hp} {r0 r : Ro} {σ0 σ : L2.St} {vs : List Nat} (F : Fr G0 H0 r0 σ0 G H r σ) (hw : ∀ j, j ∈ vs → ∀ x, r0[j]? ≠ some (some x)) : Fr G0 H0 r0 σ0 G H (wipeR r vs) (wipe σ vs) :=
  ⟨F.le, fun b u e t n => by
    obtain ⟨h1, h2, h3⟩ := F.keep b u e t n
    exact ⟨h1, fun z => h2 (wipe_owned z), h3⟩, fun j fs z => by
      have hj : j ∉ vs := fun hj => hw j hj _ z
      obtain ⟨⟨fs', h1⟩, h2⟩ := F.pin j fs z
      exact ⟨⟨fs', by rw [wipeR_out hj]; exact h1⟩, by rw [wipe_outS hj]; exact h2⟩, fun j z => by
      have hj : j ∉ vs := fun hj => hw j hj _ z
      obtain ⟨h1, h2⟩ := F.lck j z
      exact ⟨by rw [wipeR_out hj]; exact h1, by rw [wipe_outS hj]; exact h2⟩, F.mono⟩
theorem wipe_sub {σ : L2.St} {vs us : List Nat} (h : ∀ j, j ∈ us → j ∈ vs) : wipe (wipe σ us) vs = wipe σ vs :=
  wipe_ext (wipe_length _ _) fun j hj => wipe_outS fun z => hj (h j z)
/-- the turns of a comprehension of two clauses -/
def comp2M (f : D → Ro → Option Ro) (t : M Bool) (mi : M (List D)) (f2 : D → Ro → Option Ro) (t2 : M Bool) (e : M D) (vs us : List Nat) : List D → List D → M (List D)
  | [], acc => fun r => some (acc, r)
  | d :: ds, acc => fun r => match f d r with
    | none => none
    | some r1 => match t r1 with
      | none => none
      | some (false, r2) => comp2M f t mi f2 t2 e vs us ds acc (wipeR r2 vs)
      | some (true, r2) => match mi r2 with
        | none => none
        | some (es, r3) => match compM f2 t2 e us es acc (wipeR r3 us) with
          | none => none
          | some (acc', r4) => comp2M f t mi f2 t2 e vs us ds acc' (wipeR r4 vs)
theorem comp2_core {J : It} {ds : List D} {f f2 : D → Ro → Option Ro} {t t2 : M Bool} {mi : M (List D)} {me : M D} {vs us : List Nat} {G0 H0 : Hp} {r0 : Ro} {σ : L2.St} {Q : V → Hp → Prop} {res : List D} {rf : Ro} {p : Addr}
    (hu : ∀ j, j ∈ us → j ∈ vs) (hW : Wk K J ds G0 (fun _ => True))
    (R0 : Rel Θ K G0 H0 r0 (wipe σ vs)) (hw0 : ∀ j, j ∈ vs → ∀ x, r0[j]? ≠ some (some x)) (hp : H0 p = none) (c0 : comp2M f t mi f2 t2 me vs us ds [] r0 = some (res, rf))
    (hQ : ∀ G H acc, Rel Θ K G H rf (wipe σ vs) → (∀ j, j ∈ vs → ∀ x, rf[j]? ≠ some (some x)) → Fr G0 H0 r0 (wipe σ vs) G H rf (wipe σ vs) → H p = some (.lst acc) → G p = none → ¬ Owned rf (wipe σ vs) p → Reps K G res acc → Q (.ref p) H) :
    ∃ W : Nat → Nat → Hp → Prop, (∃ m, W 0 m (upd H0 p (.lst []))) ∧ ∀ i m H, W i m H →
      (J.stop i H ∧ Q (.ref p) H) ∨ (J.go i H ∧ ∃ Nx : Hp → Prop, (∀ H', Nx H' → ∃ m', m' < m ∧ W (i + 1) m' H') ∧ ∀ x H', J.yld i H x H' → rdW Θ K vs f x (wipe σ vs) H' fun σ2 H2 => wipe σ2 vs = wipe σ vs ∧ rdT Θ K t σ2 H2 fun b H3 =>
        if b = true then rdI Θ K mi σ2 H3 fun J1 H4 => ∃ W1 : Nat → Nat → Hp → Prop, (∃ m, W1 0 m H4) ∧ ∀ j k H, W1 j k H →
          (J1.stop j H ∧ Nx H) ∨ (J1.go j H ∧ ∃ Nx1 : Hp → Prop, (∀ H', Nx1 H' → ∃ k', k' < k ∧ W1 (j + 1) k' H') ∧ ∀ x H', J1.yld j H x H' → rdW Θ K us f2 x (wipe σ2 us) H' fun σ3 H5 => wipe σ3 us = wipe σ2 us ∧ rdT Θ K t2 σ3 H5 fun b H6 =>
            if b = true then rdE Θ K me σ3 H6 fun y H7 => ∃ acc, H7 p = some (.lst acc) ∧ acc.length < sizeLine ∧ Nx1 (upd H7 p (.lst (acc ++ [y]))) else Nx1 H6)
        else Nx H3) := by
  have gp0 : G0 p = none := free_of R0.sub hp
  have op0 : ¬ Owned r0 (wipe σ vs) p := fun ⟨j, q, fs, z1, z2⟩ => by
    obtain ⟨a, us, h1, h2, _⟩ := R0.own j q fs z1
    rw [h1] at z2
    cases z2
    rw [hp] at h2; cases h2
  let St := fun (G H : Hp) (r : Ro) (acc : List V) (accD : List D) => Rel Θ K G H r (wipe σ vs) ∧ (∀ j, j ∈ vs → ∀ x, r[j]? ≠ some (some x)) ∧ Fr G0 H0 r0 (wipe σ vs) G H r (wipe σ vs) ∧ H p = some (.lst acc) ∧ G p = none ∧ ¬ Owned r (wipe σ vs) p ∧ Reps K G accD acc
  refine ⟨fun i m H => m = ds.length - i ∧ i ≤ ds.length ∧ ∃ G r acc accD, St G H r acc accD ∧ comp2M f t mi f2 t2 me vs us (ds.drop i) accD r = some (res, rf), ⟨ds.length, by simp, Nat.zero_le _, G0, r0, [], [], ⟨side_rel R0 gp0 op0 (.inl hp), hw0, ?_, upd_same, gp0, op0, .nil⟩, by simpa using c0⟩, ?_⟩
  · exact ⟨Same.refl _, fun b u e _ n => ⟨by rw [upd_ne (ne_of_none e hp)]; exact e, n, fun z => z⟩, fun j ds z => ⟨⟨ds, z⟩, rfl⟩, fun j z => ⟨z, rfl⟩, fun b h => same_nw (same_new hp _) h⟩
  rintro i m H ⟨rfl, hi, G, r, acc, accD, ⟨R, hw, F, hHp, hGp, hOp, rs⟩, c⟩
  obtain ⟨w1, w2⟩ := hW G H F.le R.sub trivial
  by_cases hlt : i < ds.length
  · have hd : ds[i]? = some ds[i] := List.getElem?_eq_getElem hlt
    obtain ⟨g, y⟩ := w2 i _ hd
    rw [List.drop_eq_getElem_cons hlt] at c
    simp only [comp2M] at c
    cases e1 : f ds[i] r with
    | none => rw [e1] at c; cases c
    | some r1 =>
      rw [e1] at c
      dsimp only at c
      refine .inr ⟨g, fun H' => ∃ G' r' acc' accD', St G' H' r' acc' accD' ∧ comp2M f t mi f2 t2 me vs us (ds.drop (i + 1)) accD' r' = some (res, rf), fun H' ⟨G', r', acc', accD', st', c'⟩ => ⟨ds.length - (i + 1), by omega, rfl, hlt, G', r', acc', accD', st', c'⟩, fun x H1 hy => ?_⟩
      obtain ⟨G1, ex, rx⟩ := y x H1 hy
      refine ⟨G1, r, _, r1, ex.rel R, rx, e1, fun σ2 R2 F2 ws => ?_⟩
      rw [wipe_wipe] at ws
      have F1 : Fr G H r (wipe σ vs) G1 H1 r1 σ2 := (ex.fr r _).trans F2
      refine ⟨ws, ?_⟩
      have hww : ∀ (r5 : Ro) (j : Nat), j ∈ vs → ∀ x, (wipeR r5 vs)[j]? ≠ some (some x) := fun r5 j hj x z => (wipeR_get z).2 hj
      cases e2 : t r1 with
      | none => rw [e2] at c; cases c
      | some q =>
        obtain ⟨bb, r2⟩ := q
        rw [e2] at c
        refine ⟨G1, r1, R2, bb, r2, e2, fun G3 H3 R3 F3 => ?_⟩
        have F13 := F1.trans F3
        cases bb with
        | false =>
          dsimp only at c ⊢
          rw [if_neg Bool.false_ne_true]
          have Rw := wipe_rel (vs := vs) R3
          have Fw := fr_wipe F13 hw
          rw [ws] at Rw Fw
          obtain ⟨k1, k2, k3⟩ := Fw.keep p _ hHp rfl hOp
          exact ⟨G3, wipeR r2 vs, acc, accD, ⟨Rw, hww r2, F.trans Fw, k1, k3 hGp, k2, Reps.mono Fw.le _ _ rs⟩, c⟩
        | true =>
          dsimp only at c ⊢
          rw [if_pos rfl]
          cases e3 : mi r2 with
          | none => rw [e3] at c; cases c
          | some q =>
            obtain ⟨es, r3⟩ := q
            rw [e3] at c
            dsimp only at c
            cases e4 : compM f2 t2 me us es accD (wipeR r3 us) with
            | none => rw [e4] at c; cases c
            | some q =>
              obtain ⟨accD', r4⟩ := q
              rw [e4] at c
              dsimp only at c
              refine ⟨G3, r2, R3, es, r3, e3, fun G4 H4 R4 F4 J1 hW1 => ?_⟩
              have F14 := F13.trans F4
              obtain ⟨k1, k2, k3⟩ := F14.keep p _ hHp rfl hOp
              have hG4 := k3 hGp
              have Rz := rub_rel (wipe_rel (vs := us) R4) hG4 (fun z => k2 (wipe_owned z)) k1
              have hz0 : ∀ j, j ∈ us → ∀ x, (wipeR r3 us)[j]? ≠ some (some x) := fun j hj x z => (wipeR_get z).2 hj
              have core := comp_coreA (K := K) (J := J1) (ds := es) (f := f2) (t := t2) (me := me) (vs := us) (G0 := G4) (H0 := rub H4 p) (r0 := wipeR r3 us) (σ := σ2) (acc0 := acc) (accD0 := accD) (Q := fun H' => ∃ G' r' acc' accD', St G' H' r' acc' accD' ∧ comp2M f t mi f2 t2 me vs us (ds.drop (i + 1)) accD' r' = some (res, rf)) (C := fun _ => True) (P := fun _ _ _ => True) (p := p) hW1 (fun _ _ _ _ _ _ _ _ => trivial) (fun _ _ _ _ _ => trivial) (fun _ _ _ _ => trivial) trivial Rz hz0 rub_same (Reps.mono F14.le _ _ rs) e4 fun G5 H5 acc' R5 hz5 F5 h1 h2 h3 h4 => ?_
              · obtain ⟨W1, ⟨m1, hm1⟩, st1⟩ := core
                rw [rub_upd k1] at hm1
                exact ⟨W1, ⟨m1, hm1⟩, st1⟩
              · have Rw := wipe_rel (vs := vs) R5
                have Fa := (fr_wipe (vs := us) (fr_rub (F.trans F14) hp) (fun j hj => hw0 j (hu j hj))).trans F5
                have Fw := fr_wipe (vs := vs) Fa hw0
                rw [wipe_sub hu, ws] at Rw Fw
                exact ⟨G5, wipeR r4 vs, acc', accD', ⟨Rw, hww r4, Fw, h1, h2, fun z => h3 (wipe_owned (vs := vs) (by rw [wipe_sub hu, ws]; exact z)), h4⟩, c⟩
  · have e : i = ds.length := by omega
    subst e
    rw [List.drop_length] at c
    simp only [comp2M] at c
    cases c
    exact .inl ⟨w1 _ (Nat.le_refl _), hQ G H acc R hw F hHp hGp hOp rs⟩
def lcM2 (m0 : M (List D)) (f : D → Ro → Option Ro) (t : M Bool) (mi : M (List D)) (f2 : D → Ro → Option Ro) (t2 : M Bool) (e : M D) (vs us : List Nat) : M D := bd m0 fun ds r => if okW r vs then match comp2M f t mi f2 t2 e vs us ds [] (wipeR r vs) with
    | some (res, r') => some (.lst res, back r r' vs)
    | none => none
  else none
theorem lc2_read {m0 mi : M (List D)} {f f2 : D → Ro → Option Ro} {t t2 : M Bool} {me : M D} {vs us : List Nat} {Q : VK} (hu : ∀ j, j ∈ us → j ∈ vs) (q : rdE Θ K (lcM2 m0 f t mi f2 t2 me vs us) σ H Q) : tLc2 (rdI Θ K m0) (rdW Θ K vs f) (rdT Θ K t) (rdI Θ K mi) (rdW Θ K us f2) (rdT Θ K t2) (rdE Θ K me) vs us σ H Q := by
  obtain ⟨G, r, R, c⟩ := q
  refine ⟨G, r, R, (cn_bd c).mono fun ds G1 H1 ⟨r1, R1, s1, c1⟩ J hW p hp => ?_⟩
  obtain ⟨d, r', e, k⟩ := c1
  split at e
  · rename_i hok
    cases e2 : comp2M f t mi f2 t2 me vs us ds [] (wipeR r1 vs) with
    | none => rw [e2] at e; cases e
    | some q =>
      obtain ⟨res, rf⟩ := q
      rw [e2] at e
      cases e
      refine comp2_core hu hW (wipe_rel R1) (fun j hj x z => (wipeR_get z).2 hj) hp e2 fun G2 H2 acc R2 hw2 F2 h1 h2 h3 h4 => ?_
      obtain ⟨R3, F3⟩ := back_rel hok R1 R2 hw2 F2
      have le : Same G2 (upd G2 p (.lst acc)) := same_new h2 _
      have h3' : ¬ Owned (back r1 rf vs) σ p := fun ⟨j, q, fs, z1, z2⟩ => by
        obtain ⟨a, us, g1, g2, _⟩ := R3.own j q fs z1
        rw [z2] at g1; cases g1
        by_cases hj : j ∈ vs
        · have hlt : j < rf.length := by
            have := (List.getElem?_eq_some_iff.mp z1).1
            rwa [back_length] at this
          rw [back_in hlt (by rw [R2.len, wipe_length, ← R1.len] at hlt; exact hlt) hj] at z1
          rcases okW_at hok hj with e | ⟨d, e⟩ <;> (rw [e] at z1; cases z1)
        · rw [back_out hj] at z1
          exact h3 ⟨j, q, fs, z1, by rw [wipe_outS hj]; exact z2⟩
      refine k (upd G2 p (.lst acc)) H2 ⟨R3.len, fun b u e => ?_, fun j d z => ?_, fun j q fs z => ?_, R3.sep, R3.tab.frz le fun b u e z => by
        by_cases q : b = p
        · subst q; rw [upd_same] at e; cases e; exact ⟨acc, rfl, h1⟩
        · rw [upd_ne q, z] at e; cases e⟩ ⟨F3.le.trans le, fun b u e t n => ?_, F3.pin, F3.lck, F3.mono⟩ (.ref p) (.lst_of upd_same (Reps.mono le _ _ h4))
      · by_cases z : b = p
        · subst z; rw [upd_same] at e; cases e; exact h1
        · rw [upd_ne z] at e; exact R3.sub _ _ e
      · obtain ⟨v, g1, g2⟩ := R3.get j d z
        exact ⟨v, g1, Rep.mono le _ _ g2⟩
      · obtain ⟨a, us, g1, g2, g3, g4⟩ := R3.own j q fs z
        exact ⟨a, us, g1, g2, by rw [upd_ne (fun z' => by subst z'; exact h3' ⟨j, q, fs, z, g1⟩)]; exact g3, Reps.mono le _ _ g4⟩
      · obtain ⟨g1, g2, g3⟩ := F3.keep b u e t n
        exact ⟨g1, g2, fun z => by rw [upd_ne (ne_of_none e hp)]; exact g3 z⟩
  · cases e

theorem se_lc2 {elt tg1 iter1 : Expr} {ifs ifs1 : List Expr} {scope : Scope} {own : List (Str × Nat)} {vs1 : List Nat} {m0 mi : M (List D)} {f f2 : D → Ro → Option Ro} {t t2 : M Bool} {me : M D} (hc : X.calm = true) (hN : X.N.Nodup) (hi : SI Θ X tg iter m0) (ok : BlkOk X.N X.env.scope scope own) (hv : ∀ i ∈ vs1, i ∈ own.map (·.2))
    (hg : ∀ (s : Shared) (H : Hp) (C : Addr) (cl : List (Str × Addr)) (fp : List Addr), SGw Θ (X.blk s H scope (compEnvC scope cl C X.env) fp) (own.map (·.2)) tg f) (ht : ∀ (s : Shared) (H : Hp) (C : Addr) (cl : List (Str × Addr)) (fp : List Addr), SQ Θ (X.blk s H scope (compEnvC scope cl C X.env) fp) ifs t)
    (hi1 : ∀ (s : Shared) (H : Hp) (C : Addr) (cl : List (Str × Addr)) (fp : List Addr), SI Θ (X.blk s H scope (compEnvC scope cl C X.env) fp) tg1 iter1 mi)
    (hg1 : ∀ (s : Shared) (H : Hp) (C : Addr) (cl : List (Str × Addr)) (fp : List Addr), SGw Θ (X.blk s H scope (compEnvC scope cl C X.env) fp) vs1 tg1 f2) (ht1 : ∀ (s : Shared) (H : Hp) (C : Addr) (cl : List (Str × Addr)) (fp : List Addr), SQ Θ (X.blk s H scope (compEnvC scope cl C X.env) fp) ifs1 t2)
    (he : ∀ (s : Shared) (H : Hp) (C : Addr) (cl : List (Str × Addr)) (fp : List Addr), SE Θ (X.blk s H scope (compEnvC scope cl C X.env) fp) elt me) (hs : ∀ x, foldedSetIterable iter X.env x = pure x := by intro _; rfl) (hs1 : ∀ (env : Env) x, foldedSetIterable iter1 env x = pure x := by intro _ _; rfl) :
    SE Θ X (.ListComp elt [⟨tg, iter, ifs, 0⟩, ⟨tg1, iter1, ifs1, 0⟩] scope pos) (lcM2 m0 f t mi f2 t2 me (own.map (·.2)) vs1) :=
  pe_imp (pe_lc2 hc hN hi ok hv hg ht hi1 hg1 ht1 he hs hs1) fun σ H Q q => lc2_read hv q
theorem ss_setLc2 {y : Str} {py spos : Pos} {elt tg1 iter1 : Expr} {ifs ifs1 : List Expr} {scope : Scope} {own : List (Str × Nat)} {vs1 : List Nat} {m0 mi : M (List D)} {f f2 : D → Ro → Option Ro} {t t2 : M Bool} {me : M D} (hc : X.calm = true) (hN : X.N.Nodup) (hy : X.N[i]? = some y) (hyl : X.env.scope.names.lookup y = some .local)
    (hsw : swapsWith (.ListComp elt [⟨tg, iter, ifs, 0⟩, ⟨tg1, iter1, ifs1, 0⟩] scope pos) (some (.Name y py)) spos.line X.env = pure true) (hi : SI Θ X tg iter m0) (ok : BlkOk X.N X.env.scope scope own) (hv : ∀ i ∈ vs1, i ∈ own.map (·.2))
    (hg : ∀ (s : Shared) (H : Hp) (C : Addr) (cl : List (Str × Addr)) (fp : List Addr), SGw Θ (X.blk s H scope (compEnvC scope cl C X.env) fp) (own.map (·.2)) tg f) (ht : ∀ (s : Shared) (H : Hp) (C : Addr) (cl : List (Str × Addr)) (fp : List Addr), SQ Θ (X.blk s H scope (compEnvC scope cl C X.env) fp) ifs t)
    (hi1 : ∀ (s : Shared) (H : Hp) (C : Addr) (cl : List (Str × Addr)) (fp : List Addr), SI Θ (X.blk s H scope (compEnvC scope cl C X.env) fp) tg1 iter1 mi)
    (hg1 : ∀ (s : Shared) (H : Hp) (C : Addr) (cl : List (Str × Addr)) (fp : List Addr), SGw Θ (X.blk s H scope (compEnvC scope cl C X.env) fp) vs1 tg1 f2) (ht1 : ∀ (s : Shared) (H : Hp) (C : Addr) (cl : List (Str × Addr)) (fp : List Addr), SQ Θ (X.blk s H scope (compEnvC scope cl C X.env) fp) ifs1 t2)
    (he : ∀ (s : Shared) (H : Hp) (C : Addr) (cl : List (Str × Addr)) (fp : List Addr), SE Θ (X.blk s H scope (compEnvC scope cl C X.env) fp) elt me) (hs : ∀ x, foldedSetIterable iter X.env x = pure x := by intro _; rfl) (hs1 : ∀ (env : Env) x, foldedSetIterable iter1 env x = pure x := by intro _ _; rfl) :
    SS Θ X (.Assign [.Name y py] (.ListComp elt [⟨tg, iter, ifs, 0⟩, ⟨tg1, iter1, ifs1, 0⟩] scope pos) spos) (bd (lcM2 m0 f t mi f2 t2 me (own.map (·.2)) vs1) fun d => nxt (setD i d)) :=
  ps_imp (ps_setLc2 hc hN hy hyl hsw hi ok hv hg ht hi1 hg1 ht1 he hs hs1) fun σ H E q => by
    have q' : tAsg (rdE Θ X.kp (lcM2 m0 f t mi f2 t2 me (own.map (·.2)) vs1)) (gName i) E σ H := asg_read nm_read q
    exact lc2_read hv q'
end
end Pk

namespace Pk
open PySem L2 PyProof.Rows
/-! ### sorted(.., key=lambda x: x[0]) of pairs with a text ahead -/
theorem idx0 {its : Array Value} {u : Value} (h : its[0]? = some u) : seqIndex? 0 its.size = some 0 := by
  have h1 : 0 < its.size := (Array.getElem?_eq_some_iff.mp h).1
  unfold seqIndex?
  simp [h1]
theorem lam_first {X : Cx} {pins : List (Addr × Obj)} {σ : L2.St} {H : Hp} {s : Shared} (I : L2.Inv X pins σ H s) {A : Around} {f c' : Addr} {pm ctv : Value} {params : Arguments} {scope : Scope} {q x : Str} {cl : List (Str × Addr)} {kd : Nat} {p1 p2 p3 : Pos}
    (hf : s.heap.get? f = some (PySem.W.kla_obj "<lambda>" q params (.Subscript (.Name x p1) (.Constant (.int 0) kd p2) p3) scope cl pm c' ctv)) (hc : H c' = some (LamX.CodeO c' q))
    (hb : ∀ v : Value, bindArgs (PySem.W.kla_fn "<lambda>" q params (.Subscript (.Name x p1) (.Constant (.int 0) kd p2) p3) scope cl pm (.ref c') ctv) { pos := [v] } = pure [(x, v)])
    (hk : scope.kind = .function) (co : scope.isCoroutine = false) (gen : scope.isGenerator = false) (hx : scope.names.lookup x = some .local) (hn : ∀ y ∈ scope.names, y.2 ≠ .cell) (hxd : (x == ("__debug__" : Str)) = false)
    (hd : A.depth < recursionLimit) {t : Addr} {its : Array Value} (ht : IsTup s.heap t its) {k : Str} {tk0 : Tok} (h0 : its[0]? = some (.str k tk0)) (h : Heap) (tk : Nat) (he : ∀ (b : Addr) (o : Obj), s.heap.get? b = some o → h.get? b = some o) :
    wpAny (model X.prog X.w) A (call (.ref f) [.ref t]) (PySem.W.KeyPure (.str k) { heap := h, gens := s.gens, drawn := s.drawn, toks := tk, os := s.os }) (fun _ _ => False) { heap := h, gens := s.gens, drawn := s.drawn, toks := tk, os := s.os } := by
  have I1 : L2.Inv X pins σ H { heap := h, gens := s.gens, drawn := s.drawn, toks := tk, os := s.os } := I.kept he
  have hcode := I1.hok c' _ hc
  unfold LamX.CodeO at hcode
  rw [ObjOk.eq_13] at hcode
  obtain ⟨oc, vs, tq, g1, g2, g3⟩ := hcode.1
  refine wpAny_call (PySem.W.kla_callFunE hd (he _ _ hf) rfl co gen rfl ⟨c', oc, vs, tq, rfl, g1, g2, g3⟩ ?_)
  rw [hb]
  refine wpAny_pure ?_
  refine wpAny_newFunctionEnv hn (fun y hy => by simp at hy; subst hy; exact hx) (fun h' hns same => ?_) hk
  have he2 : ∀ (b : Addr) (o : Obj), h.get? b = some o → h'.get? b = some o := fun b o e => by
    have hb' : b < h.objs.size := Heap.lt_size e
    rw [same.2 b (Nat.ne_of_lt hb')]
    exact Heap.get?_push_of_some _ e
  have I2 : L2.Inv X pins σ H { heap := h', gens := s.gens, drawn := s.drawn, toks := tk + 1, os := s.os } := I1.kept he2
  refine ⟨I2.nolimit, PySem.W.kla_codeExpr ?_⟩
  refine wpAny_Subscript_Constant_late ?_
  refine ldG hns (v := .ref t) (by show List.lookup x [(x, Value.ref t)] = _; rw [List.lookup_cons, beq_self_eq_true]) ?_ hk hx hxd
  refine lit_int _ fun v tk2 hv => ?_
  obtain ⟨u, rfl⟩ : ∃ u, v = .int 0 u := by
    have := hv h
    cases this
    exact ⟨_, rfl⟩
  have ht2 : IsTup h' t its := by
    obtain ⟨o, e1, e2, n, e3⟩ := ht
    exact ⟨o, he2 _ _ (he _ _ e1), e2, n, e3⟩
  refine ⟨"tuple", "tuple.__getitem__", by rfl, ht2.typeIs, getItem_tuple (j := 0) ht2 (by decide) (by decide) ?_ h0 ?_⟩
  · exact idx0 h0
  · exact ⟨h', _, rfl, he2, .str k tk0⟩
/-- the name of a pair -/
def nmS : D → Str
  | .tup (.str x :: _) => x
  | _ => ⟨#[]⟩
def isP : D → Bool
  | .tup (.str _ :: _) => true
  | _ => false
def leN (a b : D) : Bool := PySem.W.dataLe false (fun d => PyData.str (nmS d)) a b
def sortN : D → Option D
  | .lst ds => if ds.all isP then some (.lst (ds.mergeSort leN)) else none
  | _ => none
def RelP (K : KP) (G : Hp) (w : Value) (d : D) : Prop := ∃ v, RelV v w ∧ Rep K G d v
theorem each_of {K : KP} {G : Hp} : ∀ {ds : List D} {vs : List V} {us : List Value}, Reps K G ds vs → Vals vs us → PySem.W.EachIs (RelP K G) us ds
  | [], vs, us, r, v => by
    have := r.nil_inv
    subst this
    cases v
    exact .nil
  | d :: ds, vs, us, r, v => by
    obtain ⟨x, xs, rfl, r1, r2⟩ := r.cons_inv
    cases v with
    | cons v1 v2 => exact .cons ⟨x, v1, r1⟩ (each_of r2 v2)
theorem of_each {K : KP} {G : Hp} {us : List Value} {ds : List D} (h : PySem.W.EachIs (RelP K G) us ds) : ∃ vs, Reps K G ds vs ∧ Vals vs us := by
  induction h with
  | nil => exact ⟨[], .nil, .nil⟩
  | cons h1 h2 ih =>
    obtain ⟨v, r1, r2⟩ := h1
    obtain ⟨vs, r3, r4⟩ := ih
    exact ⟨v :: vs, .cons r2 r3, .cons r1 r4⟩
theorem isP_inv {d : D} (h : isP d = true) : ∃ x ds, d = .tup (.str x :: ds) := by
  unfold isP at h
  split at h
  · exact ⟨_, _, rfl⟩
  · cases h
theorem se_sortK {X : Cx} {e : Expr} {m : M D} {c P : Addr} {x : Str} {params : Arguments} {scope : Scope} {kd k : Nat} {p p1 p2 p3 lpos kp pos : Pos}
    (hs : SE Θ X e m) (hg : Gl X "sorted") (hm : X.mg "sorted" = none) (hv : bootBuiltins "sorted" = some (.builtin "sorted"))
    (tb : LamX.TabB X.base X.mg c P) (hcode : X.env.code = .ref c) (hT : (P, X.env.qual ++ "<lambda>") ∈ Θ) (hU : ∀ q ∈ Θ, q.1 = P → q.2 = X.env.qual ++ "<lambda>") (hr : Room k X.A)
    (hdef : defaultsOf params X.env = ([], []))
    (hb : ∀ (q : Str) (cl : List (Str × Addr)) (pm cv ctv v : Value), bindArgs (PySem.W.kla_fn "<lambda>" q params (.Subscript (.Name x p1) (.Constant (.int 0) kd p2) p3) scope cl pm cv ctv) { pos := [v] } = pure [(x, v)])
    (hk : scope.kind = .function) (co : scope.isCoroutine = false) (gen : scope.isGenerator = false) (hx : scope.names.lookup x = some .local) (hn0 : (scope.names.all fun y => match y.2 with | .local => true | _ => false) = true) (hxd : (x == ("__debug__" : Str)) = false)
    (he : starEach [e] X.env = (false, eval e X.env) :: starEach [] X.env := by rfl) (hbk : backTo pos (starEach [e] X.env) = (false, eval e X.env) :: backTo pos (starEach [] X.env) := by rfl) (hpl : ((backTo pos (starEach [e] X.env)).any fun x => x.1) = false := by rfl) :
    SE Θ X (.Call (.Name "sorted" p) [e] [⟨some "key", .Lambda params (.Subscript (.Name x p1) (.Constant (.int 0) kd p2) p3) scope lpos, kp⟩] pos) (bd m fun d => of (sortN d)) := ⟨fun pins s σ H Q I q => by
  have hn : ∀ y ∈ scope.names, y.2 = .local := fun y hy => by
    have := List.all_eq_true.mp hn0 y hy
    split at this
    · assumption
    · cases this
  obtain ⟨G, r, R, z, r', e1, kk⟩ := q
  obtain ⟨d, r1, e2, e3⟩ := bd_some e1
  obtain ⟨e4, rfl⟩ := of_some e3
  have arg := (sa_cons (Θ := Θ) hs sa_nil he).run pos pins s σ H (fun vs H1 => ∃ G1 v, vs = [v] ∧ Rel Θ X.kp G1 H1 r' σ ∧ Fr G H r σ G1 H1 r' σ ∧ Rep X.kp G1 d v) I ⟨G, r, R, [d], r', by unfold bd; rw [e2]; rfl, fun G1 H1 R1 F1 vs rs => by
    obtain ⟨v, vs', rfl, a1, a2⟩ := rs.cons_inv
    exact ⟨G1, v, by rw [a2.nil_inv], R1, F1, a1⟩⟩
  refine wpAny_Call_Name_kw (ld_blt I hg hm hv ?_)
  refine callWith_kw ?_ hbk hpl rfl rfl
  refine wpAny_mono arg (fun us s1 ⟨vs, H1, I1, vv, G1, v, hvs, R1, F1, rv⟩ => ?_) fun _ _ h => h
  subst hvs
  obtain ⟨ds, rfl⟩ : ∃ ds, d = .lst ds := by
    unfold sortN at e4
    split at e4
    · exact ⟨_, rfl⟩
    · cases e4
  simp only [sortN] at e4
  split at e4
  · rename_i hall
    cases e4
    obtain ⟨a, xs, rfl, hrd, rs⟩ := rv.lst_inv
    cases vv with
    | cons v1 v2 =>
    cases v2
    cases v1
    refine kws_cons ?_
    refine LamX.lam_make2 I1 tb hcode hT hU R1.tab.ok hdef (fun y hy z => by rw [hn y hy] at z; cases z) fun f c' pm ctv H2 s2 I2 ext tabs hf hHf hfs hc => ?_
    refine kws_nil ?_
    show wpAny _ _ (call (.builtin "sorted") [.ref a] [("key", .ref f)]) _ _ _
    have hs2 : Same G1 H2 := fun b u q => ext b u (R1.sub _ _ q) fun ts z => R1.tab.cl b ts (by rw [← z]; exact q)
    obtain ⟨its, hvs, ⟨o, n, o1, o2, o3, o4⟩, hxl⟩ := I2.list (.inl (rd_mono hs2 hrd))
    have hper := each_of rs hvs
    have hlen : ds.length ≤ sizeLine := by rw [← rs.length]; exact hxl
    refine PySem.W.sorted_key_data (b := false) (R := RelP X.kp G1) (bs := ds) (fun d => PyData.str (nmS d)) ⟨o, o1, o2, n, o4⟩ hper ?_ ?_ hlen ?_ (ksk_s1 _ _) (fun y => ksk_l1 _ _) (fun y => ksk_t1 f y) ?_ ?_
    · intro u hu u' hu'
      obtain ⟨d1, _, rfl⟩ := List.mem_map.mp hu
      obtain ⟨d2, _, rfl⟩ := List.mem_map.mp hu'
      rfl
    · refine .inr fun u hu => ?_
      obtain ⟨d1, _, rfl⟩ := List.mem_map.mp hu
      exact ⟨(by intro z; cases z), (by intro xs z; cases z)⟩
    · intro y hy
      have := hr.un
      show X.A.units + 2 + (PyData.str _).depth < cLine
      rw [show (PyData.str (nmS y)).depth = 0 from rfl]
      omega
    · rintro w y ⟨v, rv1, rv2⟩ hy h tk hh
      obtain ⟨nm, rest, rfl⟩ := isP_inv (List.all_eq_true.mp hall y hy)
      obtain ⟨t, us2, rfl, sq, rs3⟩ := rv2.tup_inv
      cases rv1
      obtain ⟨its2, hv2, htup, hl2⟩ := I2.tuple (sqT_mono hs2 sq)
      obtain ⟨v3, vs3, rfl, r4, r5⟩ := rs3.cons_inv
      have := r4.str_inv
      subst this
      cases hv2 with
      | cons q1 q2 =>
      obtain ⟨tk0, rfl⟩ := q1
      have hd := hr.dp
      exact lam_first I2 hf hc (fun v => hb _ _ _ _ _ v) hk co gen hx (fun y hy => by rw [hn y hy]; intro z; cases z) hxd (by show X.A.depth < recursionLimit; omega) htup (k := nm) (tk0 := tk0) (by simp) h tk hh
    · intro out cc h' tk hh hnone hget hol each
      obtain ⟨ys, r3, r4⟩ := of_each each
      have hp : H2 (s2.heap.objs.size + 1) = none := by
        have I3 := I2.kept (h' := s2.heap.push { cls := .none, data := .plain }) (t' := 0) fun b o q => Heap.get?_push_of_some _ q
        have q := I3.fresh
        have z : (s2.heap.push { cls := .none, data := .plain }).objs.size = s2.heap.objs.size + 1 := Array.size_push ..
        rw [← z]; exact q
      have hys : ys.length ≤ sizeLine := by rw [r3.length, List.length_mergeSort]; exact hlen
      have R2 : Rel Θ X.kp G1 H2 r' σ := by
        refine ⟨R1.len, hs2, R1.get, fun i p ds z => ?_, R1.sep, ⟨tabs, R1.tab.out, R1.tab.cl⟩⟩
        obtain ⟨a, vs, g1, g2, g3, g4⟩ := R1.own i p ds z
        exact ⟨a, vs, g1, ext _ _ g2 (fun ts z => by cases z), g3, g4⟩
      have F2 : Fr G1 H1 r' σ G1 H2 r' σ := by
        refine ⟨Same.refl _, fun b u q t n => ⟨ext b u q (fun ts z => by subst z; cases t), n, fun z => z⟩, fun i ds q => ⟨⟨ds, q⟩, rfl⟩, fun i q => ⟨q, rfl⟩, fun b h u q => ?_⟩
        cases t : tf u with
        | false => rfl
        | true =>
          have := h u (ext b u q fun ts z => by subst z; cases t)
          rw [t] at this; cases this
      have EX := Ext.new hs2 hp (.lst ys)
      refine ⟨.ref (s2.heap.objs.size + 1), _, I2.laid hh (Nat.le_succ _) ?_, rfl, kk _ _ (EX.rel R2) ((F1.trans F2).trans (EX.fr _ _)) _ (.lst_of upd_same (Reps.mono EX.le _ _ r3))⟩
      rw [ObjOk.eq_1]
      exact ⟨hys, out, cc, r4, hget⟩
  · cases e4⟩
theorem bo_sorted : bootBuiltins "sorted" = some (.builtin "sorted") := by decide +kernel
/-- a def whose code's address is known -/
structure FunC (K : PySem.W.Frag) (x qual : Str) (st : Stmt) (f : Addr) (fd : FuncData) (c : Addr) : Prop where
  lk : ∃ (dV kV doc pm ct oc : Value) (an od : Option Addr) (osl : Array (Option Value)), K.lookup f = some ⟨oc, od, .func fd, osl⟩ ∧ fd = PySem.W.fnOf x qual (defArgs st) (defBody st) (defScope st) dV kV doc pm an (.ref c) ct
  cd : PySem.W.codeIn K (.ref c) qual = true
theorem fn_okC {P : Program} {w : World} {K : PySem.W.Frag} {mg : Str → Option Value} {base : Heap} {x qual : Str} {st : Stmt} {f c : Addr} {fd : FuncData} {N ps : List Str} {k n nl : Nat} {m : M Fl} (F : FunC K x qual st f fd c) (Sc : FnScope N ps (defScope st)) (hn : ps.length = n) (hN : N.length = n + nl)
    (hbody : ∀ (A : Around) (outer : List Env) (s : Shared) (H : Hp) (E : XK), Room k (A.deeper (envOfC qual (defScope st) s.heap.objs.size f (.ref c))) →
      SB Θ (cxOf CX0 P w K mg base N qual (defScope st) f (.ref c) A outer s H E) (defBody st) m) : FnOk P w K mg base CX0 (k + 1) f fd ps (spF Θ ⟨K, P, w⟩ n (bodyF n nl m)) := by
  obtain ⟨dV, kV, doc, pm, ct, oc, an, od, osl, lk, rfl⟩ := F.lk
  exact ⟨fun vs H Q E h => by rw [hn]; exact h.1, fun A outer s H args us vs Q E hr env bt vv h => LamX.run_ofS lk F.cd Sc hr env bt vv (by rw [hn]; exact h.1) fun hr' => ⟨_, hbody A outer s H E hr', body_read hN h.2⟩⟩
theorem tab_code {K : PySem.W.Frag} {x : Str} {f c P : Addr} {oc : Value} {od : Option Addr} {fd : FuncData} {osl : Array (Option Value)} (t : PySem.W.tabIn K x = some (c, P)) (a : PySem.W.nsIn K mainGlobals x = some (some (.ref f))) (l : K.lookup f = some ⟨oc, od, .func fd, osl⟩) : fd.code = .ref c := by
  unfold PySem.W.tabIn at t
  rw [a] at t
  dsimp only at t
  rw [l] at t
  dsimp only at t
  split at t
  · rename_i c' hc
    split at t
    · split at t
      · cases t; exact hc
      · cases t
    · cases t
  · cases t
end Pk

namespace Pk
open PySem PySem.Spec PyProof.Rows L2
/-! ### shorter words for what a reading comes to -/
section
variable {α β : Type} {P : D → Ro → Prop} {r : Ro}
/-- a call, by the callee's word -/
theorem w_cl {Q : D → Ro → Prop} {n : Nat} {F : M D} {as : List Ar} {ss : Ro} (h3 : argS r as = some ss) (h1 : as.length = n) (h2 : (slots as).Nodup) (h : wp F Q ss) (i : ∀ d r', Q d r' → P d (putB r as r')) : wp (callM n F as) P r :=
  w_call h1 h2 h3 (w_mono h i)
theorem w_clN {P : List D → Ro → Prop} {Q : List D → Ro → Prop} {n : Nat} {F : M (List D)} {as : List Ar} {ss : Ro} (h3 : argS r as = some ss) (h1 : as.length = n) (h2 : (slots as).Nodup) (h : wp F Q ss) (i : ∀ d r', Q d r' → P d (putB r as r')) : wp (callN n F as) P r :=
  w_callN h1 h2 h3 (w_mono h i)
theorem w_itD {p : Prop} [Decidable p] {a b : M β} {P : β → Ro → Prop} (h1 : p → wp a P r) (h2 : ¬ p → wp b P r) : wp (if decide p = true then a else b) P r :=
  w_it (fun h => h1 (of_decide_eq_true h)) (fun h => h2 (of_decide_eq_false h))
theorem w_itE {x y : Int} {a b : M β} {P : β → Ro → Prop} (h1 : x = y → wp a P r) (h2 : x ≠ y → wp b P r) : wp (if (x == y) = true then a else b) P r :=
  w_it (fun h => h1 (by simpa using h)) (fun h => h2 (by simpa using h))
theorem w_itN {x : Bool} {a b : M β} {P : β → Ro → Prop} (h : wp (if x = true then b else a) P r) : wp (if (!x) = true then a else b) P r := by
  cases x with
  | true => exact h
  | false => exact h
theorem p_itD {p : Prop} [Decidable p] {a b : Prop} (h1 : p → a) (h2 : ¬ p → b) : if decide p = true then a else b :=
  p_it (fun h => h1 (of_decide_eq_true h)) (fun h => h2 (of_decide_eq_false h))
theorem p_itE {x y : Int} {a b : Prop} (h1 : x = y → a) (h2 : x ≠ y → b) : if (x == y) = true then a else b :=
  p_it (fun h => h1 (by simpa using h)) (fun h => h2 (by simpa using h))
theorem p_itN {x : Bool} {a b : Prop} (h : if x = true then b else a) : if (!x) = true then a else b := by
  cases x with
  | true => exact h
  | false => exact h
/-- a written list at a drawn place -/
theorem o_pick2 {a b : D} {i : Int} (h0 : 0 ≤ i) (h1 : i < 2) (ha : i = 0 → P a r) (hb : i = 1 → P b r) : wp (of (ixD (.lst [a, b]) (.int i))) P r := by
  have : i = 0 ∨ i = 1 := by omega
  rcases this with rfl | rfl
  · exact w_of rfl (ha rfl)
  · exact w_of rfl (hb rfl)
theorem o_pick3 {a b c : D} {i : Int} (h0 : 0 ≤ i) (h1 : i < 3) (ha : i = 0 → P a r) (hb : i = 1 → P b r) (hc : i = 2 → P c r) : wp (of (ixD (.lst [a, b, c]) (.int i))) P r := by
  have : i = 0 ∨ i = 1 ∨ i = 2 := by omega
  rcases this with rfl | rfl | rfl
  · exact w_of rfl (ha rfl)
  · exact w_of rfl (hb rfl)
  · exact w_of rfl (hc rfl)
theorem o_pick4 {a b c d : D} {i : Int} (h0 : 0 ≤ i) (h1 : i < 4) (ha : i = 0 → P a r) (hb : i = 1 → P b r) (hc : i = 2 → P c r) (hd : i = 3 → P d r) : wp (of (ixD (.lst [a, b, c, d]) (.int i))) P r := by
  have : i = 0 ∨ i = 1 ∨ i = 2 ∨ i = 3 := by omega
  rcases this with rfl | rfl | rfl | rfl
  · exact w_of rfl (ha rfl)
  · exact w_of rfl (hb rfl)
  · exact w_of rfl (hc rfl)
  · exact w_of rfl (hd rfl)
/-- any written list at a drawn place: one that has what all have -/
theorem o_pick {A : D → Prop} {ds : List D} {i : Int} (hA : ∀ d ∈ ds, A d) (h0 : 0 ≤ i) (h1 : i < (ds.length : Int)) (h : ∀ d, A d → P d r) : wp (of (ixD (.lst ds) (.int i))) P r := by
  obtain ⟨d, hd, _, e⟩ := w_ixL h0 h1
  exact w_of e (h d (hA d hd))
theorem o_pickT {A : D → Prop} {ds : List D} {i : Int} (hA : ∀ d ∈ ds, A d) (h0 : 0 ≤ i) (h1 : i < (ds.length : Int)) (h : ∀ d, A d → P d r) : wp (of (ixD (.tup ds) (.int i))) P r := by
  obtain ⟨d, hd, _, e⟩ := w_ixT h0 h1
  exact w_of e (h d (hA d hd))
theorem o_mkT3 {d e f : D} (h : P (.tup [d, e, f]) r) : wp (of (mkT [d, e, f])) P r := w_of rfl h
theorem o_mkT4 {d e f g : D} (h : P (.tup [d, e, f, g]) r) : wp (of (mkT [d, e, f, g])) P r := w_of rfl h
theorem o_mkT5 {d e f g i : D} (h : P (.tup [d, e, f, g, i]) r) : wp (of (mkT [d, e, f, g, i])) P r := w_of rfl h
theorem o_mkL0 (h : P (.lst []) r) : wp (of (mkL [])) P r := w_of rfl h
theorem o_mkL1 {d : D} (h : P (.lst [d]) r) : wp (of (mkL [d])) P r := w_of rfl h
theorem o_mkL2 {d e : D} (h : P (.lst [d, e]) r) : wp (of (mkL [d, e])) P r := w_of rfl h
theorem o_mkL3 {d e f : D} (h : P (.lst [d, e, f]) r) : wp (of (mkL [d, e, f])) P r := w_of rfl h
theorem o_mkL4 {d e f g : D} (h : P (.lst [d, e, f, g]) r) : wp (of (mkL [d, e, f, g])) P r := w_of rfl h
theorem o_seqT {ds : List D} {P : List D → Ro → Prop} (h : P ds r) : wp (of (seqOf (.tup ds))) P r := w_of rfl h
theorem o_seqL {ds : List D} {P : List D → Ro → Prop} (h : P ds r) : wp (of (seqOf (.lst ds))) P r := w_of rfl h
theorem o_seqR {ds : List D} {P : List D → Ro → Prop} (h : P ds r) : wp (of (seqOf (.ro ds))) P r := w_of rfl h
theorem o_rng {z : Int} {P : List D → Ro → Prop} (h0 : 0 ≤ z) (h1 : z < 1000000) (h : P (rng 0 z.toNat) r) : wp (of (rng1 [.int z])) P r := w_of (w_rng h0 h1) h
theorem o_lenS {x : Str} (hx : x.length ≤ 100000) (h : P (.int x.length) r) : wp (of (lenD [.str x])) P r := w_of (show (if x.length ≤ sizeLine then some (D.int x.length) else none) = _ from if_pos (Nat.le_trans hx (by decide))) h
theorem o_isN0 {d : D} (h : P (.bl d.isNon) r) : wp (of (isD d .non)) P r := w_of rfl h
/-- a comprehension, each item by itself -/
theorem w_compI {P : List D → Ro → Prop} {f : D → Ro → Option Ro} {e : M D} {vs : List Nat} {ds : List D} (A : D → Prop) (E : Nat → Ro → Prop) (h0 : E 0 r) (hn : ds.length ≤ 10000)
    (hs : ∀ i d r, ds[i]? = some d → E i r → ∃ r1, f d r = some r1 ∧ wp e (fun y r3 => A y ∧ E (i + 1) (wipeR r3 vs)) r1) (he : ∀ acc r, (∀ a ∈ acc, A a) → acc.length = ds.length → E ds.length r → P acc r) : wp (compM f (rt true) e vs ds []) P r := by
  refine w_comp (fun i acc r => (∀ a ∈ acc, A a) ∧ acc.length = i ∧ i ≤ ds.length ∧ E i r) ⟨by simp, rfl, by omega, h0⟩ ?_ ?_
  · rintro i d acc r hd ⟨ha, hl, hi, hE⟩
    have hi2 : i < ds.length := (List.getElem?_eq_some_iff.mp hd).1
    obtain ⟨r1, e1, w⟩ := hs i d r hd hE
    refine ⟨r1, e1, w_rt (p_itT (w_mono w ?_))⟩
    rintro y r3 ⟨hy, hE'⟩
    refine ⟨Nat.lt_of_lt_of_le (show acc.length < 10001 by omega) (by decide), fun a h => ?_, by simp [hl], by omega, hE'⟩
    rcases List.mem_append.mp h with h | h
    · exact ha a h
    · simp at h; subst h; exact hy
  · rintro acc r ⟨ha, hl, hi, hE⟩
    exact he acc r ha hl hE
theorem w_compR {P : List D → Ro → Prop} {e : M D} {j : Nat} {n : Nat} (A : D → Prop) (E : Nat → Ro → Prop) (h0 : E 0 r) (hn : n ≤ 10000)
    (hs : ∀ (i : Nat) r, i < n → E i r → ∃ r1, setD j (.int (0 + (i : Int))) r = some r1 ∧ wp e (fun y r3 => A y ∧ E (i + 1) (wipeR r3 [j])) r1) (he : ∀ acc r, (∀ a ∈ acc, A a) → acc.length = n → E n r → P acc r) : wp (compM (setD j) (rt true) e [j] (rng 0 n) []) P r := by
  refine w_compI A E h0 (by rw [rng_len]; exact hn) ?_ ?_
  · intro i d r hd hE
    obtain ⟨hi, rfl⟩ := rng_at hd
    exact hs i r hi hE
  · intro acc r h1 h2 h3
    rw [rng_len] at h2 h3
    exact he acc r h1 h2 h3
theorem w_compM {P : List D → Ro → Prop} {f : D → Ro → Option Ro} {e : M D} {vs : List Nat} {ds : List D} (g : D → D) (hn : ds.length ≤ 1000000)
    (hs : ∀ d ∈ ds, ∃ r1, f d r = some r1 ∧ wp e (fun y r3 => y = g d ∧ wipeR r3 vs = r) r1) (h : P (ds.map g) r) : wp (compM f (rt true) e vs ds []) P r := by
  refine w_comp (fun i acc r' => r' = r ∧ acc = (ds.take i).map g) ⟨rfl, by simp⟩ ?_ ?_
  · rintro i d acc r' hd ⟨rfl, rfl⟩
    have hi : i < ds.length := (List.getElem?_eq_some_iff.mp hd).1
    have ht : ds.take (i + 1) = ds.take i ++ [d] := by
      rw [List.take_succ, hd]; rfl
    obtain ⟨r1, e1, w⟩ := hs d (List.mem_of_getElem? hd)
    refine ⟨r1, e1, w_rt (p_itT (w_mono w ?_))⟩
    rintro y r3 ⟨rfl, h3⟩
    refine ⟨Nat.lt_of_lt_of_le (show ((ds.take i).map g).length < 1000001 by rw [List.length_map, List.length_take]; omega) (by decide), h3, ?_⟩
    rw [ht, List.map_append]; rfl
  · rintro acc r' ⟨rfl, rfl⟩
    rw [List.take_length]
    exact h
end
end Pk

namespace Pk
open PySem PySem.Spec PyProof.Rows L2
section
variable {X : Cx} {e a b c tg iter : Expr} {es : List Expr} {pos p : Pos} {ma mb mc m : M D} {i : Nat} {ml : M (List D)} {mr : M (List Ar)} {x : Str}
/-! ### a list written among the arguments, the last of them -/
theorem sf_lit {lpos : Pos} (ha : SA Θ X es ml) : SF Θ X (.List es lpos) (bd ml fun ds r => if ds.length ≤ sizeLine then some (ds, r) else none) := pe_imp (pe_lst ha) fun σ H Q q => by
  obtain ⟨G, r, R, ds, r', e, k⟩ := q
  obtain ⟨ds0, r1, e1, e2⟩ := bd_some e
  refine ⟨G, r, R, ds0, r1, e1, fun G1 H1 R1 F1 vs rs => ?_⟩
  split at e2
  · rename_i hc
    cases e2
    refine ⟨by rw [rs.length]; exact hc, fun p hp => ?_⟩
    obtain ⟨R3, F3⟩ := new_side R1 hp (.lst vs)
    obtain ⟨g, n⟩ := new_out R1 hp
    exact k G1 _ p vs R3 (F1.trans F3) (F1.mono p (nw_none hp)) upd_same g n rs
  · cases e2
def rdRT (Θ : List (Addr × Str)) (K : KP) (m : M (List Ar × List D)) : TA := fun σ H Q => ∃ G r, Rel Θ K G H r σ ∧ ∃ ads r', m r = some (ads, r') ∧
  ∀ G' H' p us vs, Rel Θ K G' H' r' σ → Fr G H r σ G' H' r' σ → nw H p → H' p = some (.lst us) → G' p = none → ¬ Owned r' σ p → Reps K G' ads.2 us → ArR K G' σ ads.1 vs → Q (vs ++ [.ref p]) H'
abbrev SRT (Θ : List (Addr × Str)) (X : Cx) (es : List Expr) (m : M (List Ar × List D)) : Prop := PA X es (rdRT Θ X.kp m)
theorem srt_z (hf : SF Θ X e ml) (hs : starEach [e] X.env = (false, eval e X.env) :: starEach [] X.env := by rfl) : SRT Θ X [e] (bd ml fun ds => rt ([], ds)) := pa_imp (pa_cons hf pa_nil hs) fun σ H Q q => by
  obtain ⟨G, r, R, ads, r', e, k⟩ := q
  obtain ⟨ds, r1, e1, e2⟩ := bd_some e
  obtain ⟨rfl, rfl⟩ := rt_some e2
  exact ⟨G, r, R, ds, r', e1, fun G1 H1 p us R1 F1 h1 h2 h3 h4 h5 => k G1 H1 p us [] R1 F1 h1 h2 h3 h4 h5 rfl⟩
theorem srt_v {mt : M (List Ar × List D)} (ha : SE Θ X e m) (hr : SRT Θ X es mt) (hs : starEach (e :: es) X.env = (false, eval e X.env) :: starEach es X.env := by rfl) : SRT Θ X (e :: es) (bd m fun x => bd mt fun a => rt (.v x :: a.1, a.2)) := pa_imp (pa_cons ha hr hs) fun σ H Q q => by
  obtain ⟨G, r, R, ads, r', e, k⟩ := q
  obtain ⟨x, r1, e1, e2⟩ := bd_some e
  obtain ⟨a, r2, e3, e4⟩ := bd_some e2
  obtain ⟨rfl, rfl⟩ := rt_some e4
  refine ⟨G, r, R, x, r1, e1, fun G1 H1 R1 F1 vx rx => ⟨G1, r1, R1, a, r', e3, fun G2 H2 p us vs R2 F2 h1 h2 h3 h4 h5 h6 => ?_⟩⟩
  exact k G2 H2 p us (vx :: vs) R2 (F1.trans F2) (F1.mono p h1) h2 h3 h4 h5 ⟨vx, vs, rfl, Rep.mono F2.le _ _ rx, h6⟩
theorem srt_s {mt : M (List Ar × List D)} (ha : PE X e (tVar i)) (hr : SRT Θ X es mt) (hs : starEach (e :: es) X.env = (false, eval e X.env) :: starEach es X.env := by rfl) : SRT Θ X (e :: es) (bd (own i) fun _ => bd mt fun a => rt (.s i :: a.1, a.2)) := pa_imp (pa_cons ha hr hs) fun σ H Q q => by
  obtain ⟨G, r, R, ads, r', e, k⟩ := q
  obtain ⟨x, r1, e1, e2⟩ := bd_some e
  obtain ⟨a, r2, e3, e4⟩ := bd_some e2
  obtain ⟨rfl, rfl⟩ := rt_some e4
  obtain ⟨p0, ds0, hi0, rfl⟩ : ∃ p ds, r[i]? = some (some (.own p ds)) ∧ r1 = r := by
    unfold own at e1
    split at e1
    · cases e1; exact ⟨_, _, by assumption, rfl⟩
    · cases e1
  obtain ⟨ad, vs0, h1, h2, h3, h4⟩ := R.own i p0 ds0 hi0
  refine ⟨.ref ad, h1, G, r1, R, a, r', e3, fun G2 H2 p us vs R2 F2 h1' h2' h3' h4' h5 h6 => ?_⟩
  exact k G2 H2 p us (.ref ad :: vs) R2 F2 h1' h2' h3' h4' h5 ⟨_, vs, rfl, h1, h6⟩
def callZ (n : Nat) (F : M D) (a : List Ar × List D) : M D := fun r => match callM n F (a.1 ++ [.s r.length]) (r ++ [some (.own false a.2)]) with
  | some (d, r') => some (d, r'.take r.length)
  | none => none
theorem arR_snoc {K : KP} {G : Hp} {σ : L2.St} {i : Nat} {u : V} (hi : σ[i]? = some (some u)) : ∀ {as : List Ar} {vs : List V}, ArR K G σ as vs → ArR K G σ (as ++ [.s i]) (vs ++ [u])
  | [], _, h => by obtain rfl := (show _ = [] from h); exact ⟨u, [], rfl, hi, rfl⟩
  | .v d :: as, _, ⟨w, r, e, h1, h2⟩ => by subst e; exact ⟨w, _, rfl, h1, arR_snoc hi h2⟩
  | .s j :: as, _, ⟨w, r, e, h1, h2⟩ => by subst e; exact ⟨w, _, rfl, h1, arR_snoc hi h2⟩
theorem se_callZ {k n : Nat} {f : Addr} {fd : FuncData} {ps : List Str} {F : M D} {mt : M (List Ar × List D)} (G : FnOk X.prog X.w X.kp X.mg X.base CX0 k f fd ps (spF Θ X.kp n F)) (hr : Room k X.A) (hg : Gl X x) (hm : X.mg x = some (.ref f)) (hk : PySem.W.keepIn X.kp (.ref f) = true) (hb : Binds X.kp fd ps [])
    (ha : SRT Θ X (e :: es) mt) (hdb : (x == ("__debug__" : Str)) = false := by decide) (he : starEach (e :: es) X.env = (false, eval e X.env) :: starEach es X.env := by rfl) (hpl : (backTo pos (starEach es X.env)).any (·.1) = false := by rfl) :
    SE Θ X (.Call (.Name x p) (e :: es) [] pos) (bd mt fun a => callZ n F a) :=
  pe_imp (pe_call (E := E0) G hr hg hm hk hb .nil pass0 ha hdb he hpl) fun σ H Q q => by
    obtain ⟨G, r, R, d, r', e, k⟩ := q
    obtain ⟨as, r2, e3, e4⟩ := bd_some e
    refine ⟨G, r, R, as, r2, e3, fun G2 H2 p us vs R2 F2 h1 k1 k3 k2 h5 rs => ?_⟩
    unfold callZ at e4
    split at e4
    · rename_i d' r3 e5
      cases e4
      have RP := push_rel R2 h5 k1 k3 k2
      have rs' : ArR X.kp G2 (σ ++ [some (.ref p)]) (as.1 ++ [.s r2.length]) (vs ++ [.ref p]) := arR_snoc (by rw [R2.len, List.getElem?_append_right (Nat.le_refl _)]; simp) (arR_push rs)
      obtain ⟨hn, hd, ss, ss', g1, g2, rfl⟩ := callM_some e5
      show spF Θ X.kp n F ((vs ++ [V.ref p]) ++ []) H2 Q E0
      rw [List.append_nil]
      refine ⟨by rw [arR_length rs']; exact hn, G2, ss, args_rel RP g1 rs' hd, d, ss', g2, fun G3 H3 R3 F3 => ?_⟩
      obtain ⟨R4, F4⟩ := call_rel RP g1 rs' hd R3 F3
      have R5 := cut_rel (r := r2) R4 R2.len
      refine k G3 H3 R5 ⟨F2.le.trans F4.le, fun b u eb t nb => ?_, fun j fs z => ?_, fun j z => ?_, fun b h => F2.mono b (F4.mono b h)⟩
      · obtain ⟨m1, m2, m3⟩ := F2.keep b u eb t nb
        have np : b ≠ p := nw_ne h1 eb t
        have no : ¬ Owned (r2 ++ [some (.own false as.2)]) (σ ++ [some (.ref p)]) b := fun ⟨j, q, es, z1, z2⟩ => by
          by_cases hj : j < r2.length
          · rw [List.getElem?_append_left hj] at z1
            rw [List.getElem?_append_left (by rw [← R2.len]; exact hj)] at z2
            exact m2 ⟨j, q, es, z1, z2⟩
          · have : j = r2.length := by
              have := (List.getElem?_eq_some_iff.mp z1).1
              simp at this; omega
            rw [this, R2.len, List.getElem?_append_right (Nat.le_refl _)] at z2
            simp at z2
            exact np z2.symm
        obtain ⟨n1, n2, n3⟩ := F4.keep b u m1 t no
        refine ⟨n1, fun ⟨j, q, es, z1, z2⟩ => n2 ?_, fun z => n3 (m3 z)⟩
        have hj := (List.getElem?_eq_some_iff.mp z1).1
        rw [List.length_take] at hj
        rw [List.getElem?_take_of_lt (by omega)] at z1
        exact ⟨j, q, es, z1, by rw [List.getElem?_append_left (by rw [← R2.len]; omega)]; exact z2⟩
      · obtain ⟨⟨fs1, z1⟩, _⟩ := F2.pin j fs z
        have hj := (List.getElem?_eq_some_iff.mp z1).1
        obtain ⟨⟨fs2, z2⟩, _⟩ := F4.pin j fs1 (by rw [List.getElem?_append_left hj]; exact z1)
        exact ⟨⟨fs2, by rw [List.getElem?_take_of_lt hj]; exact z2⟩, rfl⟩
      · obtain ⟨z1, _⟩ := F2.lck j z
        have hj := (List.getElem?_eq_some_iff.mp z1).1
        obtain ⟨z2, _⟩ := F4.lck j (by rw [List.getElem?_append_left hj]; exact z1)
        exact ⟨by rw [List.getElem?_take_of_lt hj]; exact z2, rfl⟩
    · cases e4
theorem w_callZ {P : D → Ro → Prop} {r : Ro} {n : Nat} {F : M D} {as : List Ar} {ds : List D} {ss : Ro} (h3 : argS (r ++ [some (.own false ds)]) (as ++ [.s r.length]) = some ss) (h1 : (as ++ [Ar.s r.length]).length = n) (h2 : (slots (as ++ [.s r.length])).Nodup)
    {Q : D → Ro → Prop} (h : wp F Q ss) (i : ∀ d ss', Q d ss' → P d ((putB (r ++ [some (.own false ds)]) (as ++ [.s r.length]) ss').take r.length)) : wp (callZ n F (as, ds)) P r := by
  obtain ⟨d, ss', e, q⟩ := h
  refine ⟨d, _, ?_, i _ _ q⟩
  unfold callZ callM
  dsimp only
  rw [if_pos ⟨h1, h2⟩, h3]
  dsimp only
  rw [e]
/-! ### a def taken from a table of the module -/
def tCallH (k i : Nat) (X : Cx) (t : TA) : TE := fun σ H Q => ∃ f sp, Held X.prog X.w X.kp X.mg X.base k f sp ∧ σ[i]? = some (some (.ref f)) ∧ t σ H fun vs H1 => sp vs H1 Q (fun _ _ _ => False)
theorem pe_callH {k : Nat} {t : TA} (hr : Room k X.A) (hN : X.N[i]? = some x) (hv : Vis X.env.scope x) (ha : PA X (e :: es) t)
    (hdb : (x == ("__debug__" : Str)) = false := by decide) (hcd : (x == ("__classdict__" : Str)) = false := by decide)
    (he : starEach (e :: es) X.env = (false, eval e X.env) :: starEach es X.env := by rfl) (hpl : (backTo pos (starEach es X.env)).any (·.1) = false := by rfl) : PE X (.Call (.Name x p) (e :: es) [] pos) (tCallH k i X t) := by
  refine ⟨fun pins s σ H Q I h => ?_⟩
  obtain ⟨f, sp, A, hs, ht⟩ := h
  obtain ⟨fd, ps, F, hk, hb⟩ := A.ex
  refine (pe_callL (i := i) (f := f) (sp := sp) (dvs := []) (E := fun _ _ _ => False) F hr hN hv hk hb .nil (fun _ _ _ _ _ _ _ z => z.elim) ha hdb hcd he hpl).run pins s σ H Q I ⟨hs, ?_⟩
  have e0 : (fun (vs : List V) (H1 : Hp) => sp (vs ++ []) H1 Q (fun _ _ _ => False)) = fun vs H1 => sp vs H1 Q (fun _ _ _ => False) := by
    funext vs H1
    rw [List.append_nil]
  show t σ H (fun vs H1 => sp (vs ++ []) H1 Q (fun _ _ _ => False))
  rw [e0]
  exact ht
/-- the slot is forgotten -/
def clr (i : Nat) : Ro → Option Ro := fun r => if free r i = true then some (r.set i none) else none
def tabD (T : List (Str × M D)) : D → Option (M D)
  | .str z => T.lookup z
  | _ => none
/-- x = T[w]; return x(..) -/
def tabM (T : List (Str × M D)) (mw : M D) (i n : Nat) (mr : M (List Ar)) : M Fl := bd mw fun d => bd (of (tabD T d)) fun F => seqM (nxt (clr i)) (retM (bd mr fun as => callM n F as))
theorem clr_rel {K : KP} {G H : Hp} {r r' : Ro} {σ : L2.St} (R : Rel Θ K G H r σ) (h : clr i r = some r') (v : V) :
    Rel Θ K G H r' (σ.set i (some v)) ∧ Fr G H r σ G H r' (σ.set i (some v)) := by
  unfold clr at h
  split at h
  · rename_i hf
    cases h
    have hl := free_lt hf
    have get : ∀ {j : Nat} {s : S}, (r.set i none)[j]? = some (some s) → j ≠ i ∧ r[j]? = some (some s) := fun {j s} z => by
      by_cases hj : i = j
      · subst hj; rw [List.getElem?_set_self hl] at z; cases z
      · rw [List.getElem?_set_ne hj] at z; exact ⟨fun e => hj e.symm, z⟩
    have sig : ∀ {j : Nat}, j ≠ i → (σ.set i (some v))[j]? = σ[j]? := fun {j} n => List.getElem?_set_ne (fun z => n z.symm)
    refine ⟨⟨by rw [List.length_set, List.length_set]; exact R.len, R.sub, fun j d z => ?_, fun j q es z => ?_, fun j k q es q' es' a z1 z2 e1 e2 => ?_, R.tab⟩, Same.refl _, fun b u e t n => ⟨e, fun ⟨j, q, es, z1, z2⟩ => ?_, fun z => z⟩, fun j fs z => ?_, fun j z => ?_, fun _ h => h⟩
    · obtain ⟨n, z⟩ := get z; rw [sig n]; exact R.get j d z
    · obtain ⟨n, z⟩ := get z; rw [sig n]; exact R.own j q es z
    · obtain ⟨n1, z1⟩ := get z1
      obtain ⟨n2, z2⟩ := get z2
      rw [sig n1] at e1; rw [sig n2] at e2
      exact R.sep j k q es q' es' a z1 z2 e1 e2
    · obtain ⟨n1, z1⟩ := get z1
      rw [sig n1] at z2
      exact n ⟨j, q, es, z1, z2⟩
    · have n : j ≠ i := fun e => by subst e; exact free_pin hf z
      exact ⟨⟨fs, by rw [List.getElem?_set_ne (fun e => n e.symm)]; exact z⟩, sig n⟩
    · have n : j ≠ i := fun e => by subst e; exact free_lock hf z
      exact ⟨by rw [List.getElem?_set_ne (fun e => n e.symm)]; exact z, sig n⟩
  · cases h
theorem sb_tab {t : Str} {pt px px2 ps pa pr : Pos} {w : Expr} {mw : M D} {tp : Addr} {T : List (Str × M D)} {k n : Nat} (hN : X.N.Nodup) (hi : X.N[i]? = some x) (hx : Loc X.env.scope x) (hv : Vis X.env.scope x)
    (hg : Gl X t) (hm : X.mg t = some (.ref tp)) (hT : ∀ z F, T.lookup z = some F → ∃ f, KDct X.kp X.w tp z (.ref f) ∧ Held X.prog X.w X.kp X.mg X.base k f (spF Θ X.kp n F))
    (hw : SE Θ X w mw) (hsx : PlainIx w) (hr : Room k X.A) (ha : SR Θ X (e :: es) mr)
    (hs : swapsWith (.Subscript (.Name t pt) w ps) (some (.Name x px)) pa.line X.env = pure false := by rfl) (hf : X.fn x = true ∨ X.env.scope.names.lookup x = some .local := by first | exact .inl rfl | exact .inr rfl | assumption)
    (hdt : (t == ("__debug__" : Str)) = false := by decide)
    (hdb : (x == ("__debug__" : Str)) = false := by decide) (hcd : (x == ("__classdict__" : Str)) = false := by decide)
    (he : starEach (e :: es) X.env = (false, eval e X.env) :: starEach es X.env := by rfl) (hpl : (backTo pos (starEach es X.env)).any (·.1) = false := by rfl) :
    SB Θ X [.Assign [.Name x px] (.Subscript (.Name t pt) w ps) pa, .Return (some (.Call (.Name x px2) (e :: es) [] pos)) pr] (tabM T mw i n mr) := by
  refine pss_imp (pss_cons (ps_set hN hi hx (pe_ix ix_kdict (pe_glob hg hm (v := .ref tp) rfl hdt) hw hsx) hs hf) (pss_one (ps_ret (pe_callH (k := k) (i := i) hr hi hv ha hdb hcd he hpl)))) fun σ H E q => ?_
  obtain ⟨G, r, R, fl, r', e, kk⟩ := q
  obtain ⟨d, r1, e1, e2⟩ := bd_some e
  obtain ⟨F, r2, e3, e4⟩ := bd_some e2
  obtain ⟨e3', er⟩ := of_some e3
  subst er
  refine ⟨G, r, R, d, _, e1, fun G1 H1 R1 F1 v rv => ?_⟩
  cases d with
  | str z =>
    obtain rfl := rv.str_inv
    obtain ⟨f, kd, hld⟩ := hT z F e3'
    refine ⟨tp, z, .ref f, rfl, rfl, kd, ?_⟩
    unfold seqM nxt at e4
    cases ec : clr i r2 with
    | none => rw [ec] at e4; cases e4
    | some r3 =>
      rw [ec] at e4
      dsimp only at e4
      obtain ⟨R3, F3⟩ := clr_rel R1 ec (.ref f)
      have hsz : i < σ.length := by
        unfold clr at ec
        split at ec
        · rw [← R1.len]; exact free_lt (by assumption)
        · cases ec
      refine ⟨f, _, hld, List.getElem?_set_self hsz, ?_⟩
      unfold retM at e4
      obtain ⟨d5, r5, e5, e6⟩ := bd_some e4
      cases e6
      have := call_rd (X := X) (E := fun _ _ _ => False) (Q := fun v H' => E.rt v H') (σ := σ.set i (some (.ref f))) (H := H1) ⟨G1, r3, R3, d5, r', e5, fun G' H' R' F' v rv => (kk G' H' _ R' ((F1.trans F3).trans F')) v rv⟩
      have e0 : (fun (vs : List V) (H1 : Hp) => spF Θ X.kp n F (vs ++ []) H1 (fun v H' => E.rt v H') (fun _ _ _ => False)) = fun vs H1 => spF Θ X.kp n F vs H1 (fun v H' => E.rt v H') (fun _ _ _ => False) := by
        funext vs H1
        rw [List.append_nil]
      have h2 : rdR Θ X.kp mr (σ.set i (some (.ref f))) H1 (fun vs H1 => spF Θ X.kp n F (vs ++ []) H1 (fun v H' => E.rt v H') (fun _ _ _ => False)) := this
      rw [e0] at h2
      exact h2
  | _ => cases e3'
/-! ### enumerate of a list -/
def enumD (ds : List D) : List D := ds.mapIdx fun i d => .tq [.int i, d]
def enumOf : List D → Option (List D)
  | [.lst ds] => some (enumD ds)
  | _ => none
theorem wk_enum {K : KP} {G : Hp} {a : Addr} {ds : List D} {vs : List V} (q : Rd G a (.lst vs)) (rs : Reps K G ds vs) : Wk K (Ite K a) (enumD ds) G (fun _ => True) := fun G' H' g s _ => by
  have q1 : SqL K H' a vs := .inl (rd_mono (g.trans s) q)
  have rs1 := Reps.mono g _ _ rs
  refine ⟨fun i hi => ⟨vs, q1, by rw [rs.length]; simpa [enumD] using hi⟩, fun i d hd => ?_⟩
  unfold enumD at hd
  rw [List.getElem?_mapIdx] at hd
  cases hx : ds[i]? with
  | none => rw [hx] at hd; cases hd
  | some y =>
    rw [hx] at hd
    cases hd
    obtain ⟨v, hv, rv⟩ := rs1.get hx
    refine ⟨⟨vs, v, q1, hv⟩, fun x H2 hy => ?_⟩
    obtain ⟨T, w, rfl, hT, rfl, hw⟩ := hy
    have := hw vs q1
    rw [hv] at this
    cases this
    have ex : Ext G' H' (upd G' T (.tup [.int (i : Nat), v])) (upd H' T (.tup [.int (i : Nat), v])) := Ext.new s hT _
    exact ⟨_, ex, Rep.tq_of (.inl (.inl upd_same)) (.cons .int_of (.cons (Rep.mono ex.le _ _ rv) .nil))⟩
theorem si_enum {p tpos : Pos} {elts : List Expr} {kk : Nat} (hg : Gl X "enumerate") (hm : X.mg "enumerate" = none) (ha : SA Θ X [e] ml) (hs : starEach [e] X.env = [(false, eval e X.env)] := by rfl) :
    SI Θ X (.Tuple elts kk tpos) (.Call (.Name "enumerate" p) [e] [] pos) (bd ml fun ds => of (enumOf ds)) :=
  pi_imp (pi_enum hg hm ha hs) fun σ H Q q => by
    obtain ⟨G, r, R, c⟩ := q
    refine ⟨G, r, R, (cn_bd c).mono fun xs G1 H1 ⟨r1, R1, s1, c1⟩ vs rs => ?_⟩
    obtain ⟨z, hz, k⟩ := cn_of R1 c1
    unfold enumOf at hz
    split at hz
    · cases hz
      obtain ⟨v, rfl, r⟩ := rs.one
      obtain ⟨a, us, rfl, q, rr⟩ := r.lst_inv
      exact ⟨a, us, rfl, .inl (rd_mono R1.sub q), k G1 H1 (Ext.refl _ _) _ (wk_enum q rr)⟩
    · cases hz
/-! ### a comprehension over a list of one's own: locked while it is walked -/
theorem lock_get {r : Ro} {i j : Nat} {s0 : S} {x : S} (hi : r[i]? = some (some s0)) (z : (r.set i (some .lock))[j]? = some (some x)) : (j = i ∧ x = .lock) ∨ (j ≠ i ∧ r[j]? = some (some x)) := by
  have hl : i < r.length := (List.getElem?_eq_some_iff.mp hi).1
  by_cases hj : i = j
  · subst hj; rw [List.getElem?_set_self hl] at z; cases z; exact .inl ⟨rfl, rfl⟩
  · rw [List.getElem?_set_ne hj] at z; exact .inr ⟨fun e => hj e.symm, z⟩
theorem lock_rel {K : KP} {G H : Hp} {r : Ro} {σ : L2.St} (R : Rel Θ K G H r σ) {p : Bool} {ds : List D} (hi : r[i]? = some (some (.own p ds))) : Rel Θ K G H (r.set i (some .lock)) σ := by
  refine ⟨by rw [List.length_set]; exact R.len, R.sub, fun j d z => ?_, fun j q es z => ?_, fun j k q es q' es' a z1 z2 e1 e2 => ?_, R.tab⟩
  · rcases lock_get hi z with ⟨_, e⟩ | ⟨_, z⟩
    · cases e
    · exact R.get j d z
  · rcases lock_get hi z with ⟨_, e⟩ | ⟨_, z⟩
    · cases e
    · exact R.own j q es z
  · rcases lock_get hi z1 with ⟨_, e⟩ | ⟨_, z1⟩
    · cases e
    · rcases lock_get hi z2 with ⟨_, e⟩ | ⟨_, z2⟩
      · cases e
      · exact R.sep j k q es q' es' a z1 z2 e1 e2
theorem lock_own {r : Ro} {σ : L2.St} {p : Bool} {ds : List D} (hi : r[i]? = some (some (.own p ds))) {b : Addr} (o : Owned (r.set i (some .lock)) σ b) : ∃ j q es, j ≠ i ∧ r[j]? = some (some (.own q es)) ∧ σ[j]? = some (some (.ref b)) := by
  obtain ⟨j, q, es, z, e⟩ := o
  rcases lock_get hi z with ⟨_, e'⟩ | ⟨n, z⟩
  · cases e'
  · exact ⟨j, q, es, n, z, e⟩
theorem unlock {K : KP} {G H G' H' : Hp} {r r' : Ro} {σ : L2.St} (R : Rel Θ K G H r σ) {p : Bool} {ds : List D} (hi : r[i]? = some (some (.own p ds))) {a : Addr} {vs : List V} (ha : σ[i]? = some (some (.ref a))) (h2 : H a = some (.lst vs)) (h3 : G a = none)
    (rs : Reps K G ds vs) (R' : Rel Θ K G' H' r' σ) (F : Fr G H (r.set i (some .lock)) σ G' H' r' σ) :
    r'[i]? = some (some .lock) ∧ Rel Θ K G' H' (r'.set i (some (.own p ds))) σ ∧ Fr G H r σ G' H' (r'.set i (some (.own p ds))) σ := by
  have hl : i < r.length := (List.getElem?_eq_some_iff.mp hi).1
  have l1 : r'[i]? = some (some .lock) := (F.lck i (List.getElem?_set_self hl)).1
  have hl' : i < r'.length := (List.getElem?_eq_some_iff.mp l1).1
  have na : ¬ Owned (r.set i (some .lock)) σ a := fun o => by
    obtain ⟨j, q, es, n, z, e⟩ := lock_own hi o
    exact n (R.sep j i q es p ds a z hi e ha)
  obtain ⟨k1, k2, k3⟩ := F.keep a _ h2 rfl na
  have get : ∀ {j : Nat} {x : S}, (r'.set i (some (.own p ds)))[j]? = some (some x) → (j = i ∧ x = .own p ds) ∨ (j ≠ i ∧ r'[j]? = some (some x)) := fun {j x} z => by
    by_cases hj : i = j
    · subst hj; rw [List.getElem?_set_self hl'] at z; cases z; exact .inl ⟨rfl, rfl⟩
    · rw [List.getElem?_set_ne hj] at z; exact .inr ⟨fun e => hj e.symm, z⟩
  refine ⟨l1, ⟨by rw [List.length_set]; exact R'.len, R'.sub, fun j d z => ?_, fun j q es z => ?_, fun j k q es q' es' b z1 z2 e1 e2 => ?_, R'.tab⟩, F.le, fun b u e t n => ?_, fun j fs z => ?_, fun j z => ?_, F.mono⟩
  · rcases get z with ⟨_, e⟩ | ⟨_, z⟩
    · cases e
    · exact R'.get j d z
  · rcases get z with ⟨rfl, e⟩ | ⟨_, z⟩
    · cases e; exact ⟨a, vs, ha, k1, k3 h3, Reps.mono F.le _ _ rs⟩
    · exact R'.own j q es z
  · rcases get z1 with ⟨w1, _⟩ | ⟨n1, y1⟩
    · rcases get z2 with ⟨w2, _⟩ | ⟨n2, y2⟩
      · rw [w1, w2]
      · rw [w1, ha] at e1; cases e1
        exact absurd ⟨k, q', es', y2, e2⟩ k2
    · rcases get z2 with ⟨w2, _⟩ | ⟨n2, y2⟩
      · rw [w2, ha] at e2; cases e2
        exact absurd ⟨j, q, es, y1, e1⟩ k2
      · exact R'.sep j k q es q' es' b y1 y2 e1 e2
  · have nb : b ≠ a := fun z => n ⟨i, p, ds, hi, by rw [z]; exact ha⟩
    obtain ⟨g1, g2, g3⟩ := F.keep b u e t (fun o => by
      obtain ⟨j, q, es, _, z, e⟩ := lock_own hi o
      exact n ⟨j, q, es, z, e⟩)
    refine ⟨g1, fun ⟨j, q, es, z, e⟩ => ?_, g3⟩
    rcases get z with ⟨rfl, _⟩ | ⟨_, z⟩
    · rw [ha] at e; cases e; exact nb rfl
    · exact g2 ⟨j, q, es, z, e⟩
  · by_cases hj : j = i
    · subst hj
      rw [hi] at z; cases z
      exact ⟨⟨_, List.getElem?_set_self hl'⟩, rfl⟩
    · obtain ⟨⟨ds', g1⟩, g2⟩ := F.pin j fs (by rw [List.getElem?_set_ne (fun e => hj e.symm)]; exact z)
      exact ⟨⟨ds', by rw [List.getElem?_set_ne (fun e => hj e.symm)]; exact g1⟩, g2⟩
  · have hj : j ≠ i := fun e => by subst e; rw [hi] at z; cases z
    obtain ⟨g1, g2⟩ := F.lck j (by rw [List.getElem?_set_ne (fun e => hj e.symm)]; exact z)
    exact ⟨by rw [List.getElem?_set_ne (fun e => hj e.symm)]; exact g1, g2⟩
def lcO (i : Nat) (f : D → Ro → Option Ro) (t : M Bool) (e : M D) (vs : List Nat) : M D := fun r => match r[i]? with
  | some (some (.own p ds)) => match lcM (rt ds) f t e vs (r.set i (some .lock)) with
    | some (d, r') => some (d, r'.set i (some (.own p ds)))
    | none => none
  | _ => none
theorem wk_own {K : KP} {G : Hp} {a : Addr} {ds : List D} {vs : List V} (rs : Reps K G ds vs) : Wk K (Itl K a) ds G (fun H => H a = some (.lst vs)) := fun G' H' g s hC => by
  have q1 : SqL K H' a vs := SqL.of hC
  have rs1 := Reps.mono g _ _ rs
  refine ⟨fun i hi => ⟨vs, q1, by rw [rs.length]; exact hi⟩, fun i d hd => ?_⟩
  obtain ⟨v, hv, rv⟩ := rs1.get hd
  refine ⟨⟨vs, v, q1, hv⟩, fun x H2 hy => ?_⟩
  obtain ⟨h1, h2⟩ := hy
  have := h2 vs q1
  rw [hv] at this
  cases this
  subst h1
  exact ⟨G', Ext.refl _ _, rv⟩
theorem lcO_read {K : KP} {i : Nat} {f : D → Ro → Option Ro} {t : M Bool} {me : M D} {vs : List Nat} {σ : L2.St} {H : Hp} {Q : VK} (hni : i ∉ vs) (q : rdE Θ K (lcO i f t me vs) σ H Q) :
    tLc (iList K (tVar i)) (rdW Θ K vs f) (rdT Θ K t) (rdE Θ K me) vs σ H Q := by
  obtain ⟨G, r, R, d, r', e, k⟩ := q
  unfold lcO at e
  split at e
  · rename_i p ds hi
    split at e
    · rename_i d' rb e1
      cases e
      unfold lcM at e1
      obtain ⟨ds', r1, e2, e3⟩ := bd_some e1
      obtain ⟨rfl, rfl⟩ := rt_some e2
      obtain ⟨a, us, h1, h2, h3, h4⟩ := R.own i p ds' hi
      have R1 := lock_rel R hi
      refine ⟨.ref a, h1, a, rfl, ⟨us, SqL.of h2⟩, fun pp hp => ?_⟩
      split at e3
      · rename_i hok
        cases e4 : compM f t me vs ds' [] (wipeR (r.set i (some .lock)) vs) with
        | none => rw [e4] at e3; cases e3
        | some q =>
          obtain ⟨res, rf⟩ := q
          rw [e4] at e3
          cases e3
          have na0 : ¬ Owned (wipeR (r.set i (some .lock)) vs) (wipe σ vs) a := fun o => by
            obtain ⟨j, q, es, n, z, e⟩ := lock_own hi (wipe_owned o)
            exact n (R.sep j i q es p ds' a z hi e h1)
          refine comp_core (C := fun H => H a = some (.lst us)) (P := fun G H r => H a = some (.lst us) ∧ G a = none ∧ ¬ Owned r (wipe σ vs) a) (wk_own h4)
            (fun G H r G' H' r' pq F => by
              obtain ⟨g1, g2, g3⟩ := pq
              obtain ⟨k1, k2, k3⟩ := F.keep a _ g1 rfl g3
              exact ⟨k1, k3 g2, k2⟩)
            (fun G H r o pq => ⟨by rw [upd_ne (fun z => by subst z; rw [hp] at h2; cases h2)]; exact pq.1, pq.2⟩) (fun _ _ _ pq => pq.1) ⟨h2, h3, na0⟩ (wipe_rel R1) (fun j hj x z => (wipeR_get z).2 hj) hp e4 fun G2 H2 acc R2 hw2 F2 h1' h2' h3' h4' => ?_
          obtain ⟨R3, F3⟩ := back_rel hok R1 R2 hw2 F2
          have le : Same G2 (upd G2 pp (.lst acc)) := same_new h2' _
          have h3'' : ¬ Owned (back (r.set i (some .lock)) rf vs) σ pp := fun ⟨j, q, fs, z1, z2⟩ => by
            obtain ⟨a', us', g1, g2, _⟩ := R3.own j q fs z1
            rw [z2] at g1; cases g1
            by_cases hj : j ∈ vs
            · have hlt : j < rf.length := by
                have := (List.getElem?_eq_some_iff.mp z1).1
                rwa [back_length] at this
              rw [back_in hlt (by rw [R2.len, wipe_length, ← R1.len] at hlt; exact hlt) hj] at z1
              rcases okW_at hok hj with e | ⟨d, e⟩ <;> (rw [e] at z1; cases z1)
            · rw [back_out hj] at z1
              exact h3' ⟨j, q, fs, z1, by rw [wipe_outS hj]; exact z2⟩
          have R4 : Rel Θ K (upd G2 pp (.lst acc)) H2 (back (r.set i (some .lock)) rf vs) σ := ⟨R3.len, fun b u e => by
              by_cases z : b = pp
              · subst z; rw [upd_same] at e; cases e; exact h1'
              · rw [upd_ne z] at e; exact R3.sub _ _ e, fun j d z => by
              obtain ⟨v, g1, g2⟩ := R3.get j d z
              exact ⟨v, g1, Rep.mono le _ _ g2⟩, fun j q fs z => by
              obtain ⟨a', us', g1, g2, g3, g4⟩ := R3.own j q fs z
              exact ⟨a', us', g1, g2, by rw [upd_ne (fun z' => by subst z'; exact h3'' ⟨j, q, fs, z, g1⟩)]; exact g3, Reps.mono le _ _ g4⟩, R3.sep, R3.tab.frz le fun b u e z => by
            by_cases q : b = pp
            · subst q; rw [upd_same] at e; cases e; exact ⟨acc, rfl, h1'⟩
            · rw [upd_ne q, z] at e; cases e⟩
          have F4 : Fr G H (r.set i (some .lock)) σ (upd G2 pp (.lst acc)) H2 (back (r.set i (some .lock)) rf vs) σ := ⟨F3.le.trans le, fun b u e t n => by
              obtain ⟨g1, g2, g3⟩ := F3.keep b u e t n
              exact ⟨g1, g2, fun z => by rw [upd_ne (ne_of_none e hp)]; exact g3 z⟩, F3.pin, F3.lck, F3.mono⟩
          obtain ⟨_, R5, F5⟩ := unlock R hi h1 h2 h3 h4 R4 F4
          exact k _ H2 R5 F5 (.ref pp) (.lst_of upd_same (Reps.mono le _ _ h4'))
      · cases e3
    · cases e
  · cases e
theorem se_lcO {elt : Expr} {ifs : List Expr} {scope : Scope} {own : List (Str × Nat)} {f : D → Ro → Option Ro} {t : M Bool} {me : M D} (hc : X.calm = true) (hN : X.N.Nodup) (hi : PE X iter (tVar i)) (hni : i ∉ own.map (·.2)) (ok : BlkOk X.N X.env.scope scope own)
    (hg : ∀ (s : Shared) (H : Hp) (C : Addr) (cl : List (Str × Addr)) (fp : List Addr), SGw Θ (X.blk s H scope (compEnvC scope cl C X.env) fp) (own.map (·.2)) tg f) (ht : ∀ (s : Shared) (H : Hp) (C : Addr) (cl : List (Str × Addr)) (fp : List Addr), SQ Θ (X.blk s H scope (compEnvC scope cl C X.env) fp) ifs t)
    (he : ∀ (s : Shared) (H : Hp) (C : Addr) (cl : List (Str × Addr)) (fp : List Addr), SE Θ (X.blk s H scope (compEnvC scope cl C X.env) fp) elt me) (hs : ∀ x, foldedSetIterable iter X.env x = pure x := by intro _; rfl) :
    SE Θ X (.ListComp elt [⟨tg, iter, ifs, 0⟩] scope pos) (lcO i f t me (own.map (·.2))) :=
  pe_imp (pe_lc hc hN (pi_list hi) ok hg ht he hs) fun σ H Q q => lcO_read hni q
/-- what it comes to -/
theorem w_lcO {P : D → Ro → Prop} {f : D → Ro → Option Ro} {t : M Bool} {me : M D} {vs : List Nat} {r : Ro} {p : Bool} {ds : List D} (hi : r[i]? = some (some (.own p ds)))
    (hok : okW (r.set i (some .lock)) vs = true) (h : wp (compM f t me vs ds []) (fun res r' => P (.lst res) ((back (r.set i (some .lock)) r' vs).set i (some (.own p ds)))) (wipeR (r.set i (some .lock)) vs)) : wp (lcO i f t me vs) P r := by
  obtain ⟨res, r2, e2, q⟩ := h
  refine ⟨.lst res, _, ?_, q⟩
  unfold lcO
  rw [hi]
  dsimp only
  unfold lcM bd rt
  dsimp only
  rw [if_pos hok, e2]
theorem tab_nil {C : Str → M D → Prop} : ∀ z F, ([] : List (Str × M D)).lookup z = some F → C z F := fun _ _ h => by cases h
theorem tab_cons {C : Str → M D → Prop} {z0 : Str} {F0 : M D} {T : List (Str × M D)} (h0 : C z0 F0) (h : ∀ z F, T.lookup z = some F → C z F) : ∀ z F, ((z0, F0) :: T).lookup z = some F → C z F := fun z F e => by
  rw [List.lookup_cons] at e
  split at e
  · rename_i hz
    cases e
    rw [eq_of_beq hz]
    exact h0
  · exact h z F e
theorem w_tab {P : Fl → Ro → Prop} {r : Ro} {T : List (Str × M D)} {mw : M D} {i n : Nat} {mr : M (List Ar)} (h : wp mw (fun d r1 => ∃ F, tabD T d = some F ∧ ∃ r2, clr i r1 = some r2 ∧ wp (bd mr fun as => callM n F as) (fun d r3 => P (.rt d) r3) r2) r) : wp (tabM T mw i n mr) P r := by
  unfold tabM
  refine w_bd (w_mono h ?_)
  rintro d r1 ⟨F, e, r2, e2, q⟩
  exact w_bd (w_of e (w_seq (w_nxt e2 (w_ret q))))
end
end Pk

namespace Pk
open PySem PySem.Spec PyProof.Rows L2
/-! ### new lists among the arguments, anywhere -/
inductive Ar2 where
  | v (d : D) | s (i : Nat) | n (ds : List D)
def ArN (K : KP) (H0 G H : Hp) (r : Ro) (σ : L2.St) : List Ar2 → List V → List (Addr × List D) → Prop
  | [], vs, ps => vs = [] ∧ ps = []
  | .v d :: as, vs, ps => ∃ u t, vs = u :: t ∧ Rep K G d u ∧ ArN K H0 G H r σ as t ps
  | .s i :: as, vs, ps => ∃ u t, vs = u :: t ∧ σ[i]? = some (some u) ∧ ArN K H0 G H r σ as t ps
  | .n ds :: as, vs, ps => ∃ p us t qs, vs = .ref p :: t ∧ ps = (p, ds) :: qs ∧ nw H0 p ∧ H p = some (.lst us) ∧ G p = none ∧ ¬ Owned r σ p ∧ Reps K G ds us ∧ (∀ q ∈ qs, q.1 ≠ p) ∧ ArN K H0 G H r σ as t qs
section
variable {K : KP} {H0 H1 G H G' H' : Hp} {r r' : Ro} {σ : L2.St}
theorem arN_back (m : ∀ b, nw H1 b → nw H0 b) : ∀ {as : List Ar2} {vs : List V} {ps}, ArN K H1 G H r σ as vs ps → ArN K H0 G H r σ as vs ps
  | [], _, _, h => h
  | .v d :: as, _, _, ⟨u, t, e, h1, h2⟩ => ⟨u, t, e, h1, arN_back m h2⟩
  | .s i :: as, _, _, ⟨u, t, e, h1, h2⟩ => ⟨u, t, e, h1, arN_back m h2⟩
  | .n ds :: as, _, _, ⟨p, us, t, qs, e1, e2, h1, h2, h3, h4, h5, h6, h7⟩ => ⟨p, us, t, qs, e1, e2, m _ h1, h2, h3, h4, h5, h6, arN_back m h7⟩
theorem arN_new : ∀ {as : List Ar2} {vs : List V} {ps}, ArN K H0 G H r σ as vs ps → ∀ q ∈ ps, nw H0 q.1
  | [], _, _, h, q, hq => by rw [h.2] at hq; cases hq
  | .v d :: as, _, _, ⟨u, t, e, h1, h2⟩, q, hq => arN_new h2 q hq
  | .s i :: as, _, _, ⟨u, t, e, h1, h2⟩, q, hq => arN_new h2 q hq
  | .n ds :: as, _, _, ⟨p, us, t, qs, e1, e2, h1, h2, h3, h4, h5, h6, h7⟩, q, hq => by
    subst e2
    rcases List.mem_cons.mp hq with rfl | hq
    · exact h1
    · exact arN_new h7 q hq
end
def rdRN (Θ : List (Addr × Str)) (K : KP) (m : M (List Ar2)) : TA := fun σ H Q => ∃ G r, Rel Θ K G H r σ ∧ ∃ as r', m r = some (as, r') ∧
  ∀ G' H' vs ps, Rel Θ K G' H' r' σ → Fr G H r σ G' H' r' σ → ArN K H G' H' r' σ as vs ps → Q vs H'
abbrev SRN (Θ : List (Addr × Str)) (X : Cx) (es : List Expr) (m : M (List Ar2)) : Prop := PA X es (rdRN Θ X.kp m)
section
variable {X : Cx} {e : Expr} {es : List Expr} {pos p : Pos} {m : M D} {i : Nat} {ml : M (List D)} {mt : M (List Ar2)} {x : Str}
theorem srn_nil : SRN Θ X [] (rt []) := pa_imp pa_nil fun σ H Q q => by
  obtain ⟨G, r, R, as, r', e, k⟩ := q
  obtain ⟨rfl, rfl⟩ := rt_some e
  exact k G H [] [] R (Fr.refl _ _ _ _) ⟨rfl, rfl⟩
theorem srn_v (ha : SE Θ X e m) (hr : SRN Θ X es mt) (hs : starEach (e :: es) X.env = (false, eval e X.env) :: starEach es X.env := by rfl) : SRN Θ X (e :: es) (bd m fun x => bd mt fun a => rt (.v x :: a)) := pa_imp (pa_cons ha hr hs) fun σ H Q q => by
  obtain ⟨G, r, R, as, r', e, k⟩ := q
  obtain ⟨x, r1, e1, e2⟩ := bd_some e
  obtain ⟨a, r2, e3, e4⟩ := bd_some e2
  obtain ⟨rfl, rfl⟩ := rt_some e4
  refine ⟨G, r, R, x, r1, e1, fun G1 H1 R1 F1 vx rx => ⟨G1, r1, R1, a, r', e3, fun G2 H2 vs ps R2 F2 h => ?_⟩⟩
  exact k G2 H2 (vx :: vs) ps R2 (F1.trans F2) ⟨vx, vs, rfl, Rep.mono F2.le _ _ rx, arN_back F1.mono h⟩
theorem srn_s (ha : PE X e (tVar i)) (hr : SRN Θ X es mt) (hs : starEach (e :: es) X.env = (false, eval e X.env) :: starEach es X.env := by rfl) : SRN Θ X (e :: es) (bd (own i) fun _ => bd mt fun a => rt (.s i :: a)) := pa_imp (pa_cons ha hr hs) fun σ H Q q => by
  obtain ⟨G, r, R, as, r', e, k⟩ := q
  obtain ⟨x, r1, e1, e2⟩ := bd_some e
  obtain ⟨a, r2, e3, e4⟩ := bd_some e2
  obtain ⟨rfl, rfl⟩ := rt_some e4
  obtain ⟨p0, ds0, hi0, rfl⟩ : ∃ p ds, r[i]? = some (some (.own p ds)) ∧ r1 = r := by
    unfold own at e1
    split at e1
    · cases e1; exact ⟨_, _, by assumption, rfl⟩
    · cases e1
  obtain ⟨ad, vs0, h1, h2, h3, h4⟩ := R.own i p0 ds0 hi0
  refine ⟨.ref ad, h1, G, r1, R, a, r', e3, fun G2 H2 vs ps R2 F2 h => ?_⟩
  exact k G2 H2 (.ref ad :: vs) ps R2 F2 ⟨_, vs, rfl, h1, h⟩
theorem srn_n (hf : SF Θ X e ml) (hr : SRN Θ X es mt) (hs : starEach (e :: es) X.env = (false, eval e X.env) :: starEach es X.env := by rfl) : SRN Θ X (e :: es) (bd ml fun ds => bd mt fun a => rt (.n ds :: a)) := pa_imp (pa_cons hf hr hs) fun σ H Q q => by
  obtain ⟨G, r, R, as, r', e, k⟩ := q
  obtain ⟨ds, r1, e1, e2⟩ := bd_some e
  obtain ⟨a, r2, e3, e4⟩ := bd_some e2
  obtain ⟨rfl, rfl⟩ := rt_some e4
  refine ⟨G, r, R, ds, r1, e1, fun G1 H1 p us R1 F1 h1 h2 h3 h4 h5 => ⟨G1, r1, R1, a, r', e3, fun G2 H2 vs ps R2 F2 h => ?_⟩⟩
  obtain ⟨k1, k2, k3⟩ := F2.keep p _ h2 rfl h4
  exact k G2 H2 (.ref p :: vs) ((p, ds) :: ps) R2 (F1.trans F2) ⟨p, us, vs, ps, rfl, rfl, h1, k1, k3 h3, k2, Reps.mono F2.le _ _ h5, fun q hq e => nw_ne (arN_new h q hq) h2 rfl e.symm, arN_back F1.mono h⟩
/-- the new lists as slots behind the others -/
def lay (n : Nat) : List Ar2 → List Ar
  | [] => []
  | .v d :: as => .v d :: lay n as
  | .s i :: as => .s i :: lay n as
  | .n _ :: as => .s n :: lay (n + 1) as
def news : List Ar2 → Ro
  | [] => []
  | .n ds :: as => some (.own false ds) :: news as
  | _ :: as => news as
def callW (n : Nat) (F : M D) (as : List Ar2) : M D := fun r => match callM n F (lay r.length as) (r ++ news as) with
  | some (d, r') => some (d, r'.take r.length)
  | none => none
theorem arN_lay {K : KP} {H0 G H : Hp} {r : Ro} {σ : L2.St} : ∀ {as : List Ar2} {vs : List V} {ps : List (Addr × List D)} {τ : L2.St}, (∀ (i : Nat) (u : V), σ[i]? = some (some u) → τ[i]? = some (some u)) → ArN K H0 G H r σ as vs ps →
    ArR K G (τ ++ ps.map fun q => some (.ref q.1)) (lay τ.length as) vs
  | [], _, _, τ, _, h => h.1
  | .v d :: as, _, ps, τ, ht, ⟨u, t, e, h1, h2⟩ => ⟨u, t, e, h1, arN_lay ht h2⟩
  | .s i :: as, _, ps, τ, ht, ⟨u, t, e, h1, h2⟩ => by
    refine ⟨u, t, e, ?_, arN_lay ht h2⟩
    have := ht i u h1
    rw [List.getElem?_append_left (List.getElem?_eq_some_iff.mp this).1]
    exact this
  | .n ds :: as, _, ps, τ, ht, ⟨p, us, t, qs, e1, e2, h1, h2, h3, h4, h5, h6, h7⟩ => by
    subst e2
    refine ⟨.ref p, t, e1, ?_, ?_⟩
    · rw [List.getElem?_append_right (Nat.le_refl _)]; simp
    · have := arN_lay (τ := τ ++ [some (.ref p)]) (fun i u hi => by
        have := ht i u hi
        rw [List.getElem?_append_left (List.getElem?_eq_some_iff.mp this).1]; exact this) h7
      rw [List.length_append, List.length_singleton, List.append_assoc] at this
      exact this
theorem push_owned {r : Ro} {σ : L2.St} {ds : List D} {p b : Addr} (hl : r.length = σ.length) (o : Owned (r ++ [some (.own false ds)]) (σ ++ [some (.ref p)]) b) : Owned r σ b ∨ b = p := by
  obtain ⟨j, q, es, z1, z2⟩ := o
  by_cases hj : j < r.length
  · rw [List.getElem?_append_left hj] at z1
    rw [List.getElem?_append_left (by rw [← hl]; exact hj)] at z2
    exact .inl ⟨j, q, es, z1, z2⟩
  · have : j = r.length := by
      have := (List.getElem?_eq_some_iff.mp z1).1
      simp at this; omega
    rw [this, hl, List.getElem?_append_right (Nat.le_refl _)] at z2
    simp at z2
    exact .inr z2.symm
/-- all of them pushed -/
theorem arN_push {K : KP} {H0 G H : Hp} {r0 : Ro} {σ0 : L2.St} : ∀ {as : List Ar2} {vs : List V} {ps : List (Addr × List D)} {r : Ro} {σ : L2.St}, ArN K H0 G H r0 σ0 as vs ps → Rel Θ K G H r σ → (∀ q ∈ ps, ¬ Owned r σ q.1) →
    Rel Θ K G H (r ++ news as) (σ ++ ps.map fun q => some (.ref q.1)) ∧ ∀ b, Owned (r ++ news as) (σ ++ ps.map fun q => some (.ref q.1)) b → Owned r σ b ∨ ∃ q ∈ ps, b = q.1
  | [], _, _, r, σ, h, R, _ => by
    rw [h.2]
    simp only [news, List.append_nil, List.map_nil]
    exact ⟨R, fun b o => .inl o⟩
  | .v d :: as, _, ps, r, σ, ⟨u, t, e, h1, h2⟩, R, no => by
    have := arN_push (as := as) h2 R no
    exact this
  | .s i :: as, _, ps, r, σ, ⟨u, t, e, h1, h2⟩, R, no => by
    have := arN_push (as := as) h2 R no
    exact this
  | .n ds :: as, _, ps, r, σ, ⟨p, us, t, qs, e1, e2, h1, h2, h3, h4, h5, h6, h7⟩, R, no => by
    subst e2
    have np := no (p, ds) (List.mem_cons_self ..)
    have R1 := push_rel R h5 h2 h3 np
    obtain ⟨R2, o2⟩ := arN_push h7 R1 fun q hq o => by
      rcases push_owned R.len o with o | o
      · exact no q (List.mem_cons_of_mem _ hq) o
      · exact h6 q hq o
    have e1 : r ++ news (Ar2.n ds :: as) = r ++ [some (.own false ds)] ++ news as := by rw [List.append_assoc]; rfl
    have e2 : (σ ++ ((p, ds) :: qs).map fun q => some (V.ref q.1)) = σ ++ [some (.ref p)] ++ qs.map fun q => some (V.ref q.1) := by rw [List.append_assoc]; rfl
    rw [e1, e2]
    refine ⟨R2, fun b o => ?_⟩
    rcases o2 b o with o | ⟨q, hq, rfl⟩
    · rcases push_owned R.len o with o | o
      · exact .inl o
      · exact .inr ⟨(p, ds), List.mem_cons_self .., o⟩
    · exact .inr ⟨q, List.mem_cons_of_mem _ hq, rfl⟩
theorem cut_relN {K : KP} {G H : Hp} {r r' : Ro} {σ τ : L2.St} (R : Rel Θ K G H r' (σ ++ τ)) (hl : r.length = σ.length) : Rel Θ K G H (r'.take r.length) σ := by
  have l' := R.len
  rw [List.length_append] at l'
  have get : ∀ {j : Nat} {y : Option S}, (r'.take r.length)[j]? = some y → j < r.length ∧ r'[j]? = some y := fun {j y} z => by
    have h := (List.getElem?_eq_some_iff.mp z).1
    rw [List.length_take] at h
    rw [List.getElem?_take_of_lt (by omega)] at z
    exact ⟨by omega, z⟩
  have sl : ∀ {j : Nat}, j < r.length → (σ ++ τ)[j]? = σ[j]? := fun {j} h => List.getElem?_append_left (by omega)
  refine ⟨by rw [List.length_take]; omega, R.sub, fun j d z => ?_, fun j q es z => ?_, fun j k q es q' es' a z1 z2 e1 e2 => ?_, R.tab⟩
  · obtain ⟨h, z⟩ := get z
    rw [← sl h]; exact R.get j d z
  · obtain ⟨h, z⟩ := get z
    rw [← sl h]; exact R.own j q es z
  · obtain ⟨h1, z1⟩ := get z1
    obtain ⟨h2, z2⟩ := get z2
    exact R.sep j k q es q' es' a z1 z2 (by rw [sl h1]; exact e1) (by rw [sl h2]; exact e2)
theorem arN_no {K : KP} {H0 G H : Hp} {r : Ro} {σ : L2.St} : ∀ {as : List Ar2} {vs : List V} {ps : List (Addr × List D)}, ArN K H0 G H r σ as vs ps → ∀ q ∈ ps, ¬ Owned r σ q.1
  | [], _, _, h, q, hq => by rw [h.2] at hq; cases hq
  | .v d :: as, _, _, ⟨u, t, e, h1, h2⟩, q, hq => arN_no h2 q hq
  | .s i :: as, _, _, ⟨u, t, e, h1, h2⟩, q, hq => arN_no h2 q hq
  | .n ds :: as, _, _, ⟨p, us, t, qs, e1, e2, h1, h2, h3, h4, h5, h6, h7⟩, q, hq => by
    subst e2
    rcases List.mem_cons.mp hq with rfl | hq
    · exact h4
    · exact arN_no h7 q hq
theorem se_callW {k n : Nat} {f : Addr} {fd : FuncData} {ps : List Str} {F : M D} (G : FnOk X.prog X.w X.kp X.mg X.base CX0 k f fd ps (spF Θ X.kp n F)) (hr : Room k X.A) (hg : Gl X x) (hm : X.mg x = some (.ref f)) (hk : PySem.W.keepIn X.kp (.ref f) = true) (hb : Binds X.kp fd ps [])
    (ha : SRN Θ X (e :: es) mt) (hdb : (x == ("__debug__" : Str)) = false := by decide) (he : starEach (e :: es) X.env = (false, eval e X.env) :: starEach es X.env := by rfl) (hpl : (backTo pos (starEach es X.env)).any (·.1) = false := by rfl) :
    SE Θ X (.Call (.Name x p) (e :: es) [] pos) (bd mt fun a => callW n F a) :=
  pe_imp (pe_call (E := E0) G hr hg hm hk hb .nil pass0 ha hdb he hpl) fun σ H Q q => by
    obtain ⟨G, r, R, d, r', e, k⟩ := q
    obtain ⟨as, r2, e3, e4⟩ := bd_some e
    refine ⟨G, r, R, as, r2, e3, fun G2 H2 vs ps R2 F2 h => ?_⟩
    unfold callW at e4
    split at e4
    · rename_i d' r3 e5
      cases e4
      obtain ⟨RP, oP⟩ := arN_push h R2 (arN_no h)
      have rs' := arN_lay (τ := σ) (fun _ _ z => z) h
      rw [← R2.len] at rs'
      obtain ⟨hn, hd, ss, ss', g1, g2, rfl⟩ := callM_some e5
      show spF Θ X.kp n F (vs ++ []) H2 Q E0
      rw [List.append_nil]
      refine ⟨by rw [arR_length rs']; exact hn, G2, ss, args_rel RP g1 rs' hd, d, ss', g2, fun G3 H3 R3 F3 => ?_⟩
      obtain ⟨R4, F4⟩ := call_rel RP g1 rs' hd R3 F3
      have R5 := cut_relN (r := r2) R4 R2.len
      refine k G3 H3 R5 ⟨F2.le.trans F4.le, fun b u eb t nb => ?_, fun j fs z => ?_, fun j z => ?_, fun b h => F2.mono b (F4.mono b h)⟩
      · obtain ⟨m1, m2, m3⟩ := F2.keep b u eb t nb
        have no : ¬ Owned (r2 ++ news as) (σ ++ ps.map fun q => some (V.ref q.1)) b := fun o => by
          rcases oP b o with o | ⟨q, hq, e⟩
          · exact m2 o
          · exact nw_ne (arN_new h q hq) eb t e
        obtain ⟨n1, n2, n3⟩ := F4.keep b u m1 t no
        refine ⟨n1, fun ⟨j, q, es, z1, z2⟩ => n2 ?_, fun z => n3 (m3 z)⟩
        have hj := (List.getElem?_eq_some_iff.mp z1).1
        rw [List.length_take] at hj
        rw [List.getElem?_take_of_lt (by omega)] at z1
        exact ⟨j, q, es, z1, by rw [List.getElem?_append_left (by rw [← R2.len]; omega)]; exact z2⟩
      · obtain ⟨⟨fs1, z1⟩, _⟩ := F2.pin j fs z
        have hj := (List.getElem?_eq_some_iff.mp z1).1
        obtain ⟨⟨fs2, z2⟩, _⟩ := F4.pin j fs1 (by rw [List.getElem?_append_left hj]; exact z1)
        exact ⟨⟨fs2, by rw [List.getElem?_take_of_lt hj]; exact z2⟩, rfl⟩
      · obtain ⟨z1, _⟩ := F2.lck j z
        have hj := (List.getElem?_eq_some_iff.mp z1).1
        obtain ⟨z2, _⟩ := F4.lck j (by rw [List.getElem?_append_left hj]; exact z1)
        exact ⟨by rw [List.getElem?_take_of_lt hj]; exact z2, rfl⟩
    · cases e4
theorem w_callW {P : D → Ro → Prop} {r : Ro} {n : Nat} {F : M D} {as : List Ar2} {ss : Ro} (h3 : argS (r ++ news as) (lay r.length as) = some ss) (h1 : (lay r.length as).length = n) (h2 : (slots (lay r.length as)).Nodup)
    {Q : D → Ro → Prop} (h : wp F Q ss) (i : ∀ d ss', Q d ss' → P d ((putB (r ++ news as) (lay r.length as) ss').take r.length)) : wp (callW n F as) P r := by
  obtain ⟨d, ss', e, q⟩ := h
  refine ⟨d, _, ?_, i _ _ q⟩
  unfold callW callM
  rw [if_pos ⟨h1, h2⟩, h3]
  dsimp only
  rw [e]
/-! ### x in a list or tuple of data, whatever its depth -/
def itemsD : D → Option (List D)
  | .lst ds => some ds
  | .tup ds => some ds
  | .ro ds => some ds
  | _ => none
def okIn (x : D) (ds : List D) : Bool := x.py.canLay0 && PyData.canLayAll0 (pys ds) && decide (x.py.depth ≤ 100)
def inA (x y : D) : Option D := match itemsD y with
  | some ds => if okIn x ds then some (.bl (ds.any fun z => eqv z x)) else none
  | none => none
def notInA (x y : D) : Option D := match itemsD y with
  | some ds => if okIn x ds then some (.bl (!ds.any fun z => eqv z x)) else none
  | none => none
def rInS (K : KP) (neg : Bool) : R2 := fun x y H Q => ∃ d e ds, Dp K H x d ∧ Dp K H y e ∧ (e = .list ds ∨ e = .tuple ds) ∧ d.canLay0 = true ∧ PyData.canLayAll0 ds = true ∧ d.depth ≤ 100 ∧ Q (.bl (if neg then !ds.any fun z => PyData.eqv z d else ds.any fun z => PyData.eqv z d)) H
theorem op_inS (hu : X.A.units + 200 < cLine) : OpR X (compareOp .In) (rInS X.kp false) := by
  intro pins s σ H x y v u Q I rx ry h
  obtain ⟨d, e, ds, hd, he, ee, sd, se, dd, q⟩ := h
  obtain ⟨as, r1⟩ := Dp.reads I d x v hd rx
  obtain ⟨bs, r2⟩ := Dp.reads I e y u he ry
  have hm : min (PyData.depthAll ds) d.depth ≤ 100 := Nat.le_trans (Nat.min_le_right _ _) dd
  rcases ee with rfl | rfl
  · exact SeqAt.in_list_reads r2 r1 se sd (by omega) ⟨.bl _, H, I, rfl, q⟩
  · exact SeqAt.in_tuple_reads r2 r1 se sd (by omega) ⟨.bl _, H, I, rfl, q⟩
theorem op_notInS (hu : X.A.units + 200 < cLine) : OpR X (compareOp .NotIn) (rInS X.kp true) := by
  intro pins s σ H x y v u Q I rx ry h
  obtain ⟨d, e, ds, hd, he, ee, sd, se, dd, q⟩ := h
  obtain ⟨as, r1⟩ := Dp.reads I d x v hd rx
  obtain ⟨bs, r2⟩ := Dp.reads I e y u he ry
  have hm : min (PyData.depthAll ds) d.depth ≤ 100 := Nat.le_trans (Nat.min_le_right _ _) dd
  rcases ee with rfl | rfl
  · exact SeqAt.notIn_list_reads r2 r1 se sd (by omega) ⟨.bl _, H, I, rfl, q⟩
  · exact SeqAt.notIn_tuple_reads r2 r1 se sd (by omega) ⟨.bl _, H, I, rfl, q⟩
theorem itemsD_py {y : D} {ds : List D} (h : itemsD y = some ds) : y.py = .list (pys ds) ∨ y.py = .tuple (pys ds) := by
  cases y with
  | lst _ => cases h; exact .inl (by rw [D.py])
  | ro _ => cases h; exact .inl (by rw [D.py])
  | tup _ => cases h; exact .inr (by rw [D.py])
  | _ => cases h
theorem itemsD_lay {y : D} {ds : List D} (h : itemsD y = some ds) (c : PyData.canLayAll0 (pys ds) = true) : y.py.canLay0 = true := by
  rcases itemsD_py h with e | e <;> (rw [e]; simpa only [PyData.canLay0] using c)
theorem opg_inA (hu : X.A.units + 200 < cLine) : OpG X (compareOp .In) inA := by
  refine ⟨_, op_inS hu, fun x y z e G H vx vy Q s rx ry k => ?_⟩
  unfold inA at e
  split at e
  · rename_i ds hi
    split at e
    · rename_i hc
      cases e
      unfold okIn at hc
      simp only [Bool.and_eq_true, decide_eq_true_eq] at hc
      refine ⟨_, _, pys ds, Rep.dp s x vx rx hc.1.1, Rep.dp s y vy ry (itemsD_lay hi hc.1.2), itemsD_py hi, hc.1.1, hc.1.2, hc.2, ?_⟩
      rw [any_pys]
      exact fin_flat (z := .bl (ds.any fun z => eqv z x)) k .bl_of
    · cases e
  · cases e
theorem opg_notInA (hu : X.A.units + 200 < cLine) : OpG X (compareOp .NotIn) notInA := by
  refine ⟨_, op_notInS hu, fun x y z e G H vx vy Q s rx ry k => ?_⟩
  unfold notInA at e
  split at e
  · rename_i ds hi
    split at e
    · rename_i hc
      cases e
      unfold okIn at hc
      simp only [Bool.and_eq_true, decide_eq_true_eq] at hc
      refine ⟨_, _, pys ds, Rep.dp s x vx rx hc.1.1, Rep.dp s y vy ry (itemsD_lay hi hc.1.2), itemsD_py hi, hc.1.1, hc.1.2, hc.2, ?_⟩
      rw [any_pys]
      exact fin_flat (z := .bl (!ds.any fun z => eqv z x)) k .bl_of
    · cases e
  · cases e
/-! ### a text among the names of a dict -/
def dkey {α : Type} : List Str → List α → Str → Option α
  | k :: ks, v :: vs, x => if k = x then some v else dkey ks vs x
  | _, _, _ => none
theorem dkey_val : ∀ {ks : List Str} {vs : List V} {x : Str}, valV (dkv ks vs) (.inr x) = dkey ks vs x
  | [], _, _ => by simp [dkv, dkey, valV]
  | _ :: _, [], _ => by simp [dkv, dkey, valV]
  | k :: ks, v :: vs, x => by
    rw [dkv, dkey]
    by_cases e : k = x
    · rw [if_pos e]
      exact valV_pos (by rw [e])
    · rw [if_neg e, valV_neg (by simpa using e)]
      exact dkey_val
theorem dkey_some {α : Type} : ∀ {ks : List Str} {vs : List α} {x : Str}, ks.length = vs.length → ((dkey ks vs x).isSome = decide (x ∈ ks))
  | [], [], _, _ => by simp [dkey]
  | k :: ks, v :: vs, x, h => by
    rw [dkey]
    by_cases e : k = x
    · rw [if_pos e]; simp [e]
    · rw [if_neg e, dkey_some (by simpa using h)]
      have : ¬ x = k := fun z => e z.symm
      simp [this]
theorem dkey_rep {K : KP} {G : Hp} : ∀ {ks : List Str} {ds : List D} {vs : List V} {x : Str}, Reps K G ds vs → (dkey ks ds x = none ∧ dkey ks vs x = none) ∨ ∃ d v, dkey ks ds x = some d ∧ dkey ks vs x = some v ∧ Rep K G d v
  | [], _, _, _, _ => .inl ⟨by simp [dkey], by simp [dkey]⟩
  | k :: ks, [], _, x, r => by
    rw [r.nil_inv]
    exact .inl ⟨by simp [dkey], by simp [dkey]⟩
  | k :: ks, d :: ds, _, x, r => by
    obtain ⟨v, t, rfl, q, r⟩ := r.cons_inv
    rw [dkey, dkey]
    by_cases e : k = x
    · rw [if_pos e, if_pos e]; exact .inr ⟨d, v, rfl, rfl, q⟩
    · rw [if_neg e, if_neg e]; exact dkey_rep r
def dinD : D → D → Option D
  | .str x, .dct ks _ => some (.bl (decide (x ∈ ks)))
  | _, _ => none
def dnotinD : D → D → Option D
  | .str x, .dct ks _ => some (.bl (!decide (x ∈ ks)))
  | _, _ => none
theorem dget_of {K : KP} {G H : Hp} (s : Same G H) {a : Addr} {ks : List Str} {vs : List V} (h : Rd G a (.dK (dkv ks vs))) (x : Str) : DGet H a (.str x) (dkey ks vs x) :=
  .inl ⟨dkv ks vs, .inr x, rd_mono s h, rfl, dkey_val.symm⟩
theorem op_dinK (hu : X.A.units + 1 < cLine) : OpR X (compareOp .In) fun x y H Q => ∃ a o, y = .ref a ∧ DGet H a x o ∧ Q (.bl o.isSome) H := by
  intro pins s σ H x y v u Q I rx ry h
  obtain ⟨a, o, ey, g, q⟩ := h
  subst ey
  obtain rfl : u = Value.ref a := ry
  exact d_in hu I g rx fun s3 I3 => ⟨.bl o.isSome, H, I3, rfl, q⟩
theorem op_dnotinK (hu : X.A.units + 1 < cLine) : OpR X (compareOp .NotIn) fun x y H Q => ∃ a o, y = .ref a ∧ DGet H a x o ∧ Q (.bl (!o.isSome)) H := by
  intro pins s σ H x y v u Q I rx ry h
  obtain ⟨a, o, ey, g, q⟩ := h
  subst ey
  obtain rfl : u = Value.ref a := ry
  exact d_notIn hu I g rx fun s3 I3 => ⟨.bl (!o.isSome), H, I3, rfl, q⟩
theorem opg_din (hu : X.A.units + 200 < cLine) : OpG X (compareOp .In) dinD := by
  refine ⟨_, op_dinK (by omega), fun x y z e G H vx vy Q s rx ry k => ?_⟩
  unfold dinD at e
  split at e
  · rename_i w ks ds
    cases e
    obtain rfl := rx.str_inv
    obtain ⟨a, vs, rfl, q, l, r⟩ := ry.dct_inv
    refine ⟨a, _, rfl, dget_of (K := X.kp) s q w, ?_⟩
    rw [dkey_some l]
    exact fin_flat (z := .bl (decide (w ∈ ks))) k .bl_of
  · cases e
theorem opg_dnotin (hu : X.A.units + 200 < cLine) : OpG X (compareOp .NotIn) dnotinD := by
  refine ⟨_, op_dnotinK (by omega), fun x y z e G H vx vy Q s rx ry k => ?_⟩
  unfold dnotinD at e
  split at e
  · rename_i w ks ds
    cases e
    obtain rfl := rx.str_inv
    obtain ⟨a, vs, rfl, q, l, r⟩ := ry.dct_inv
    refine ⟨a, _, rfl, dget_of (K := X.kp) s q w, ?_⟩
    rw [dkey_some l]
    exact fin_flat (z := .bl (!decide (w ∈ ks))) k .bl_of
  · cases e
def inD2 (x y : D) : Option D := match y with
  | .dct _ _ => dinD x y
  | _ => inA x y
def notInD2 (x y : D) : Option D := match y with
  | .dct _ _ => dnotinD x y
  | _ => notInA x y
theorem opg_in2 (hu : X.A.units + 200 < cLine) : OpG X (compareOp .In) inD2 := OpG.or (opg_inA hu) (opg_din hu) fun x y z h => by
  unfold inD2 at h
  split at h
  · exact .inr h
  · exact .inl h
theorem opg_notIn2 (hu : X.A.units + 200 < cLine) : OpG X (compareOp .NotIn) notInD2 := OpG.or (opg_notInA hu) (opg_dnotin hu) fun x y z h => by
  unfold notInD2 at h
  split at h
  · exact .inr h
  · exact .inl h
theorem inD2_items {x y : D} {ds : List D} (hi : itemsD y = some ds) : inD2 x y = inA x y ∧ notInD2 x y = notInA x y := by
  cases y with
  | dct _ _ => cases hi
  | _ => exact ⟨rfl, rfl⟩
theorem o_notIn {P : D → Ro → Prop} {r : Ro} {x y : D} {ds : List D} (hi : itemsD y = some ds) (ho : okIn x ds = true) (h : P (.bl (!ds.any fun z => eqv z x)) r) : wp (of (notInD2 x y)) P r :=
  w_of (by rw [(inD2_items hi).2]; unfold notInA; rw [hi]; dsimp only; rw [if_pos ho]) h
theorem o_in {P : D → Ro → Prop} {r : Ro} {x y : D} {ds : List D} (hi : itemsD y = some ds) (ho : okIn x ds = true) (h : P (.bl (ds.any fun z => eqv z x)) r) : wp (of (inD2 x y)) P r :=
  w_of (by rw [(inD2_items hi).1]; unfold inA; rw [hi]; dsimp only; rw [if_pos ho]) h
theorem o_inK {P : D → Ro → Prop} {r : Ro} {x : Str} {ks : List Str} {ds : List D} (h : P (.bl (decide (x ∈ ks))) r) : wp (of (inD2 (.str x) (.dct ks ds))) P r := w_of rfl h
theorem o_notInK {P : D → Ro → Prop} {r : Ro} {x : Str} {ks : List Str} {ds : List D} (h : P (.bl (!decide (x ∈ ks))) r) : wp (of (notInD2 (.str x) (.dct ks ds))) P r := w_of rfl h
theorem o_ixh {P : D → Ro → Prop} {r : Ro} {d : D} {ds : List D} (h : P d r) : wp (of (ixD (.tup (d :: ds)) (.int 0))) P r :=
  w_of (show L2.atI (d :: ds) 0 = some d from by unfold L2.atI L2.ixN; simp) h
end
end Pk

set_option maxHeartbeats 2000000
/-! any, all of a generator expression whose element may call defs -/
namespace GnX
open PySem PySem.Spec PyProof.Rows L2 LamX GenW
section
variable {X : Cx} {pins : List (Addr × Obj)} {σ : L2.St} {H : Hp} {s : Shared}
/-- the code object is made, or found in the table -/
theorem gen_code {T : List (Addr × Str)} {c P : Addr} {scope : Scope} {pos : Pos} {E : Value → Shared → Prop} {Q : Value → Shared → Prop} (I : Inv X pins σ H s) (TB : LamX.TabB X.base X.mg c P) (hcode : X.env.code = .ref c)
    (hm : (P, X.env.qual ++ "<genexpr>") ∈ T) (hu : ∀ p ∈ T, p.1 = P → p.2 = X.env.qual ++ "<genexpr>") (hT : Tabs T H)
    (h : ∀ (code : Value) (H1 : Hp) (s' : Shared), Inv X pins σ H1 s' → ExtN H H1 → Tabs T H1 → (∀ b o, b ≠ P → s.heap.get? b = some o → s'.heap.get? b = some o) → s.heap.objs.size ≤ s'.heap.objs.size → (∃ o, s'.heap.get? P = some o ∧ o.data ≠ .plain ∧ ∀ es n, o.data ≠ .dict es n) → (∀ b, H b = none → b < s.heap.objs.size → H1 b = none) → Q code s') :
    wpAny (model X.prog X.w) X.A (genexprCode X.env pos (X.env.qual ++ "<genexpr>") scope) Q E s := by
  obtain ⟨ps, hP, ht, ha⟩ := hT _ hm
  have hP' : s.heap.get? P = some { cls := .none, data := .fields ps } := I.hok P _ hP
  have C := TB.code.keeps I.bk
  cases hc : codeAmong pos ps.toList with
  | none =>
    refine wpAny_genexprCodeX hcode (C.code hP' ht) (C.tab hP') hc fun c' h' tk hx hge hlt hco hrec htb _ => ?_
    obtain ⟨c2, oc, vs, t, e2, hoc, hd, hv⟩ := hrec
    cases e2
    have nC : H c' = none := I.hok.fresh hge
    have I1 := inv_table (t' := tk) (more := #[rawInt pos.line, rawInt pos.col, .ref c']) (h' := h') I hP (fun b o hb e => hx b o hb e) htb.2 hge ⟨oc, vs, t, hoc, hd, hv⟩
    have hE : ExtN H (upd (upd H P (.tbl (ps ++ #[rawInt pos.line, rawInt pos.col, .ref c']))) c' (CodeO c' (X.env.qual ++ "<genexpr>"))) := fun b o e n => by
      rw [upd_ne (ne_of_none e nC), upd_ne (fun z => n ps (Option.some.inj (e.symm.trans (by rw [z]; exact hP))))]
      exact e
    have eL : (ps ++ #[rawInt pos.line, rawInt pos.col, .ref c']).toList = ps.toList ++ [rawInt pos.line, rawInt pos.col, .ref c'] := by simp
    refine h (.ref c') _ _ I1 hE (fun p hp => ?_) (fun b o hb e => hx b o hb e) (Nat.le_trans hge (Nat.le_of_lt hlt)) ⟨_, htb.2, by simp, by simp⟩ (fun b hb hl => by rw [upd_ne (Nat.ne_of_lt (Nat.lt_of_lt_of_le hl hge)), upd_ne (fun z => by rw [z, hP] at hb; cases hb)]; exact hb)
    by_cases hb : p.1 = P
    · rw [hu p hp hb, hb]
      refine ⟨_, by rw [upd_ne (ne_of_none hP nC), upd_same], by rw [eL]; exact PySem.TriplesOk_snoc _ _ _ _ ht, fun p' cv hcv => ?_⟩
      rw [eL] at hcv
      rcases among_app _ ht hcv with z | z
      · obtain ⟨c0, e1, e2⟩ := ha p' cv z
        exact ⟨c0, e1, hE _ _ e2 codeO_ne⟩
      · exact ⟨c', z, upd_same⟩
    · obtain ⟨ps', a1, a2, a3⟩ := hT p hp
      refine ⟨ps', by rw [upd_ne (ne_of_none a1 nC), upd_ne hb]; exact a1, a2, fun p' cv hcv => ?_⟩
      obtain ⟨c0, e1, e2⟩ := a3 p' cv hcv
      exact ⟨c0, e1, hE _ _ e2 codeO_ne⟩
  | some cv =>
    refine wpAny_genexprCode_hit hcode (C.code hP' ht) hc ?_
    exact h cv H s I (ExtN.refl H) hT (fun _ _ _ e => e) (Nat.le_refl _) ⟨_, hP', by simp, by simp⟩ (fun b hb _ => hb)
/-- the built-in names are where they were -/
theorem gen_blt {c P : Addr} {E : Value → Shared → Prop} {Q : Addr → Shared → Prop} (I : Inv X pins σ H s) (TB : LamX.TabB X.base X.mg c P) (h : Q builtinsNs s) :
    wpAny (model X.prog X.w) X.A (builtinsFor X.env.globals X.env.builtins) Q E s := by
  obtain ⟨bm, ob, e1, e2, e3, e4, e5, e6, e7, e8⟩ := TB.bm
  exact wpAny_builtinsFor (m := X.mg) (by rw [I.ok.glob]; exact I.mod.glob.keeps I.bk) e1 e2 (I.bk _ _ e5) e6 e7 e8 h

/-! ### the block -/
/-- the context in which a generator expression's turns run -/
abbrev gblk (X : Cx) (s : Shared) (H : Hp) (ge : Env) (A : Around) (fp : List Addr) (pn : List (Addr × Obj)) : Cx :=
  { X with A := A.deeper ge, s_0 := s, H_0 := H, env := ge, outer := X.stack, stack := ge :: X.stack, ex := fp, fn := fun _ => false, pn := pn, xe := fun _ _ => False }
abbrev gEnv (X : Cx) (scope : Scope) (C : Addr) (code : Value) : Env := genEnv scope (cloFrom X.env.cells scope.names []) C code builtinsNs X.env
structure GenOk (scope : Scope) : Prop where
  co : scope.isCoroutine = false
  cell : ∀ y ∈ scope.names, y.2 ≠ .cell
  dot : scope.names.lookup (".0" : Str) = some NameKind.local
theorem gblk_start {scope : Scope} {own : List (Str × Nat)} {fp : List Addr} {code : Value} {A : Around} {a : Addr} {go : Obj} {h5 : Heap} {tk : Nat} {G : Array GenState} {m : Str → Option Value}
    (I : Inv X pins σ H s) (ok : BlkOk X.N X.env.scope scope own) (gk : GenOk scope) (hN : X.N.Nodup) (hA : A.handled = none) (hAf : A.frames = some X.stack) (hfp : ∀ b ∈ fp, FpOk X pins H b ∧ b < s.heap.objs.size)
    (kp : ∀ b o, s.heap.get? b = some o → h5.get? b = some o) (hns : h5.Ns s.heap.objs.size m) (ha : s.heap.objs.size < a) (hgo : h5.get? a = some go) (hgd : ∀ v, go.data ≠ .cell v) (hG : AllBare G) :
    Inv (gblk X s H (gEnv X scope s.heap.objs.size code) A fp [(a, go)]) [] (wipe σ (own.map (·.2))) H { s with heap := h5, gens := G, toks := tk } := by
  have hfree : ∀ y ∈ scope.names, y.2 = .free → ∃ c, X.env.cells.lookup y.1 = some c := fun y hy e => by
    rcases ok.free y hy e with k | k
    · exact I.ok.has _ (.inl k)
    · exact I.ok.has _ (.inr k)
  generalize hge : gEnv X scope s.heap.objs.size code = ge
  have hL : ge.locals = s.heap.objs.size := by rw [← hge]; rfl
  have hcl : ge.cells = cloFrom X.env.cells scope.names [] := by rw [← hge]; rfl
  have hsc : ge.scope = scope := by rw [← hge]; rfl
  have cm : ∀ {y c}, (y, c) ∈ cloFrom X.env.cells scope.names [] → X.env.cells.lookup y = some c ∧ c < s.heap.objs.size := fun {y c} hm => by
    rcases cloFrom_mem hm with hm | ⟨h1, rfl⟩
    · cases hm
    · obtain ⟨c, hc⟩ := hfree _ h1 rfl
      rw [hc]
      obtain ⟨w, z⟩ := I.cell _ _ hc
      exact ⟨rfl, z.lt⟩
  have mem : ∀ {y c}, ge.cells.lookup y = some c → X.env.cells.lookup y = some c ∧ c < s.heap.objs.size := fun {y c} e => by
    rw [hcl] at e
    exact cm (PySem.mem_of_lookup e)
  have look : ∀ {y}, scope.names.lookup y = some .free → ∃ c, ge.cells.lookup y = some c ∧ X.env.cells.lookup y = some c := fun {y} hl => by
    have hy : (y, NameKind.free) ∈ scope.names := PySem.mem_of_lookup hl
    obtain ⟨c', e'⟩ := L2.mem_lookup (cloFrom_has (cells := X.env.cells) (acc := []) hy)
    rw [← hcl] at e'
    exact ⟨c', e', (mem e').1⟩
  have kd : ∀ y, ge.kindOf y = scope.names.lookup y := fun y => by unfold Env.kindOf; rw [hsc]
  have okB : (gblk X s H ge A fp [(a, go)]).Ok := by
    refine ⟨I.ok.mod, by show ge.scope.kind = _; rw [hsc]; exact ok.kind, by show ge.globals = _; rw [← hge]; exact I.ok.glob, by show ge.builtins = _; rw [← hge]; rfl, by show s.heap.objs.size ≤ ge.locals; rw [hL]; exact Nat.le_refl _,
      fun y z c e1 e2 => I.ok.inj y z c (mem e1).1 (mem e2).1, fun y hy => ?_, fun y c z e => (by cases z), fun _ => hA, by show A.frames.map (ge :: ·) = _; rw [hAf]; rfl, .inr ⟨rfl, by rw [← hge]; rfl⟩, fun b hb => ⟨?_, fun y c e z => ?_⟩, I.bs, Nat.le_trans I.ok.bsz I.sz, fun b o e hb => ?_, fun b hb z => ?_, I.stack, I.stkFree⟩
    · show ∃ c, ge.cells.lookup y = some c
      have hy' : ge.kindOf y = some .cell ∨ ge.kindOf y = some .free := hy
      rw [kd] at hy'
      rcases hy' with hy | hy
      · exact absurd rfl (gk.cell _ (PySem.mem_of_lookup hy))
      · obtain ⟨c, h1, _⟩ := look hy
        exact ⟨c, h1⟩
    · show b ≠ ge.locals
      rw [hL]; exact Nat.ne_of_lt (hfp b hb).2
    · exact (hfp b hb).1.2.2.2.2.1 y c (mem e).1 z
    · rcases (hfp b hb).1.2.2.2.1 with z | z
      · exact I.ok.noex b o e z
      · exact absurd (Nat.lt_of_lt_of_le (Heap.lt_size e) (Nat.le_trans I.ok.bsz z)) (Nat.lt_irrefl _)
    · rcases List.mem_cons.mp (I.stkSub b z) with z | z
      · exact (hfp b hb).1.2.1 z
      · exact (hfp b hb).1.2.2.1 z
  refine ⟨okB, rfl, hG, Un.kept kp, ⟨m, ?_, fun i y av e1 e2 e3 => ?_⟩, fun y c e => ?_, ?_, fun y c e => ?_, fun p hp => ?_, I.hok.kept kp, by rw [wipe_length]; exact I.len⟩
  · show Heap.Ns _ ge.locals _
    rw [hL]
    exact hns
  · obtain ⟨e2, hne⟩ := wipe_some e2
    have e3 : Vis ge.scope y := e3
    rw [hsc] at e3
    have hfr : scope.names.lookup y = some .free := by
      have no : ∀ k', scope.names.lookup y = some k' → ¬ (k' = .local ∨ k' = .cell) := fun k' e hh => by
        rcases ok.own _ (PySem.mem_of_lookup e) hh with e' | e'
        · obtain ⟨p, hp, hpy⟩ := List.mem_map.mp e'
          have e3 := ok.ix p hp
          have : p.1 = y := hpy
          rw [this] at e3
          exact hne (List.mem_map.mpr ⟨p, hp, nodup_ix hN e3 e1⟩)
        · exact e' (List.mem_of_getElem? e1)
      rcases e3 with e3 | e3 | e3
      · exact absurd (.inl rfl) (no _ e3)
      · exact absurd (.inr rfl) (no _ e3)
      · exact e3
    obtain ⟨m', hn, hl⟩ := I.loc
    have hvis : Vis X.env.scope y := (ok.free _ (PySem.mem_of_lookup hfr) rfl).elim (fun k => .inr (.inl k)) (fun k => .inr (.inr k))
    obtain ⟨w, r, q⟩ := hl i y av e1 e2 hvis
    refine ⟨w, r, .inr ⟨.inr (by show ge.kindOf y = _; rw [kd]; exact hfr), ?_⟩⟩
    obtain ⟨c, h1, h2⟩ := look hfr
    rcases q with ⟨k, _⟩ | ⟨_, c', e', z⟩
    · have k : X.env.scope.names.lookup y = some .local := k
      rcases ok.free _ (PySem.mem_of_lookup hfr) rfl with k' | k' <;> rw [show X.env.scope.names.lookup y = _ from k'] at k <;> cases k
    · rw [h2] at e'; cases e'
      exact ⟨c, h1, z.keeps kp⟩
  · have e : ge.cells.lookup y = some c := e
    obtain ⟨w, z⟩ := I.cell y c (mem e).1
    exact ⟨w, z.keeps kp⟩
  · show H ge.locals = none
    rw [hL]; exact I.hok.fresh (Nat.le_refl _)
  · have e : ge.cells.lookup y = some c := e
    exact I.freeC y c (mem e).1
  · have hp : p ∈ [(a, go)] ++ ([] : List (Addr × Obj)) := hp
    rw [List.append_nil] at hp
    rw [List.mem_singleton.mp hp]
    refine ⟨hgo, I.hok.fresh (Nat.le_of_lt ha), by show a ≠ ge.locals; rw [hL]; exact Nat.ne_of_gt ha, fun z => ?_, hgd⟩
    have z : a ∈ frs X.stack := z
    rcases List.mem_cons.mp (I.stkSub a z) with z | z
    · have := I.lt
      rw [← z] at this
      exact absurd (Nat.lt_trans this ha) (Nat.lt_irrefl _)
    · exact I.nofs (Nat.le_of_lt ha) z
end
end GnX

set_option maxHeartbeats 2000000
namespace GnX
open PySem PySem.Spec PyProof.Rows L2 LamX GenW
section
variable {X : Cx} {pins : List (Addr × Obj)} {σ : L2.St} {H : Hp} {s s' : Shared}
theorem inv_gens (I : Inv X pins σ H s) (hh : s'.heap = s.heap) (ho : s'.os = s.os) (hg : AllBare s'.gens) : Inv X pins σ H s' := by
  obtain ⟨h, g, d, t, o⟩ := s'
  obtain ⟨h0, g0, d0, t0, o0⟩ := s
  have hh : h = h0 := hh
  have ho : o = o0 := ho
  subst hh
  subst ho
  exact ⟨I.ok, I.os, hg, I.base, I.loc, I.cell, I.free, I.freeC, I.pin, I.hok, I.len⟩
/-- running: the generator's block, whatever its slots hold -/
def IX (X : Cx) (H : Hp) (s : Shared) : Prop := ∃ pins σ, Inv X pins σ H s
theorem IX.gens {H : Hp} (i : IX X H s) (hh : s'.heap = s.heap) (ho : s'.os = s.os) (hg : AllBare s'.gens) : IX X H s' := let ⟨p, q, I⟩ := i; ⟨p, q, inv_gens I hh ho hg⟩
theorem IX.bare {H : Hp} (i : IX X H s) : AllBare s.gens := let ⟨_, _, I⟩ := i; I.bare
/-- the end of the generator, and its turns -/
def GxR (X : Cx) (Q : Bool → Hp → Prop) (stop : Bool) : Nat → Shared → Shared → Prop := fun _ _ s => ∃ H', IX X H' s ∧ Q (!stop) H'
def GxY (X : Cx) (Q : Bool → Hp → Prop) (stop : Bool) : Protocol := fun _ _ v s kap => ∃ b H', v = .bool b ∧ IX X H' s ∧ (b = stop → Q stop H') ∧ (b ≠ stop → ∀ s'', s''.heap = s.heap → s''.os = s.os → AllBare s''.gens → kap (.send .none) s'')
section
variable {XG : Cx} {Q : Bool → Hp → Prop} {A : Around} {a : Addr} {g : Nat} {R : Result → Shared → Prop}
/-- what is asked of the generator's block: its object stands -/
def Stands (XG : Cx) (a : Addr) (g : Nat) : Prop := ∀ H s, IX XG H s → s.heap.IsGen a g ∧ s.heap.NoLimit
theorem next_gx {stop : Bool} (hh : A.handled = none) (hroom : A.depth < recursionLimit) (hst : Stands XG a g) {n : Nat} {s : Shared} {gs : GenState} {E : Value → Shared → Prop} {Qn : Option Value → Shared → Prop} (hg : s.heap.IsGen a g) (hl : s.heap.NoLimit) (hgs : s.gens[g]? = some gs)
    (hgo : gs.Goes (model XG.prog XG.w) A.in1 (fun n s₀ r s₁ => r = .ok .next ∧ GxR XG Q stop n s₀ s₁) (GxY XG Q stop) n (.send .none) (s.setGen g .running))
    (hD : ∀ H' s', IX XG H' s' → Q (!stop) H' → Qn none s')
    (hS : ∀ H' s', IX XG H' s' → Q stop H' → Qn (some (.bool stop)) s')
    (hN : ∀ m s' gs' H', n = m + 1 → IX XG H' s' → s'.gens[g]? = some gs' → gs'.Goes (model XG.prog XG.w) A.in1 (fun n s₀ r s₁ => r = .ok .next ∧ GxR XG Q stop n s₀ s₁) (GxY XG Q stop) m (.send .none) (s'.setGen g .running) → Qn (some (.bool (!stop))) s') :
    wpAny (model XG.prog XG.w) A (pyNext (.ref a)) Qn E s := by
  have hlt : g < s.gens.size := by
    rcases Nat.lt_or_ge g s.gens.size with h | h
    · exact h
    · rw [Array.getElem?_eq_none h] at hgs; cases hgs
  refine wpAny_gsz (n := g + 1) hlt ?_
  refine wpAny_pyNext_genexpQ (P := GxR XG Q stop) hh hl hroom hg hgs hgo (fun v s₁ gs' hb hy hsz => ?_) fun s₁ hp h' hk hsz => ?_
  · obtain ⟨b, H', rfl, ix, y1, y2⟩ := hy
    have hsz1 : g < s₁.gens.size := by rw [setGen_size] at hsz; exact hsz
    have ix' : IX XG H' (s₁.setGen g gs') := ix.gens rfl rfl (allBare_setGen ix.bare hb)
    by_cases e : b = stop
    · rw [e]; exact hS H' _ ix' (y1 e)
    · have e2 : b = !stop := by cases b <;> cases stop <;> simp_all
      have y3 := y2 e
      rw [e2]
      cases n with
      | zero => exact False.elim (y3 s₁ rfl rfl ix.bare)
      | succ m =>
        refine hN m _ gs' H' rfl ix' (setGen_at hsz1) ?_
        refine y3 _ rfl rfl ?_
        exact allBare_setGen ix'.bare rfl
  · obtain ⟨H', ⟨p, σ', I⟩, q⟩ := hp
    refine hD H' _ ?_ q
    have I1 : Inv XG p σ' H' { s₁ with heap := h' } := I.kept hk
    exact ⟨p, σ', inv_gens (s := { s₁ with heap := h' }) I1 rfl rfl (allBare_setGen (s := s₁) I.bare rfl)⟩
theorem all_loop (hh : A.handled = none) (hroom : A.depth < recursionLimit) (hst : Stands XG a g) (hR : ∀ b H' s', IX XG H' s' → Q b H' → R (.ok (.ret (.bool b))) s') : ∀ (n : Nat) (s : Shared) (gs : GenState), s.heap.IsGen a g → s.heap.NoLimit → s.gens[g]? = some gs →
    gs.Goes (model XG.prog XG.w) A.in1.in1 (fun n s₀ r s₁ => r = .ok .next ∧ GxR XG Q false n s₀ s₁) (GxY XG Q false) n (.send .none) (s.setGen g .running) → codeAny (model XG.prog XG.w) A (.builtin "all.loop" ⟨[.ref a], []⟩) R s := by
  intro n
  induction n with
  | zero =>
    intro s gs hg hl hgs hgo
    refine codeAny_builtin F.entry_all_loop ?_
    rw [Around.under_plainId F.plain_all_loop _]
    show wpAny _ A.in1 (pyNext (.ref a) >>= _) _ _ s
    refine wpAny_bind (next_gx (A := A.in1) hh hroom hst hg hl hgs hgo (fun H' s' ix q => ?_) (fun H' s' ix q => ?_) fun m s' gs' H' e => (by cases e))
    · exact wpAny_bind (wpAny_rule (wpAny_pure (hR _ _ _ ix q)))
    · refine wpAny_bind (wpAny_holding (wpAny_truthy_bool ?_))
      refine wpAny_bind (wpAny_letGo ?_)
      simp only [Bool.false_eq_true, if_false]
      exact wpAny_bind (wpAny_rule (wpAny_pure (hR _ _ _ ix q)))
  | succ n ih =>
    intro s gs hg hl hgs hgo
    refine codeAny_builtin F.entry_all_loop ?_
    rw [Around.under_plainId F.plain_all_loop _]
    show wpAny _ A.in1 (pyNext (.ref a) >>= _) _ _ s
    refine wpAny_bind (next_gx (A := A.in1) hh hroom hst hg hl hgs hgo (fun H' s' ix q => ?_) (fun H' s' ix q => ?_) fun m s' gs' H' e ix hgs' hgo' => ?_)
    · exact wpAny_bind (wpAny_rule (wpAny_pure (hR _ _ _ ix q)))
    · refine wpAny_bind (wpAny_holding (wpAny_truthy_bool ?_))
      refine wpAny_bind (wpAny_letGo ?_)
      simp only [Bool.false_eq_true, if_false]
      exact wpAny_bind (wpAny_rule (wpAny_pure (hR _ _ _ ix q)))
    · refine wpAny_bind (wpAny_holding (wpAny_truthy_bool ?_))
      refine wpAny_bind (wpAny_letGo ?_)
      simp only [Bool.not_false, if_true]
      cases e
      exact wpAny_pure ⟨plainId_quiet F.plain_all_loop _, ih _ _ (hst _ _ ix).1 (hst _ _ ix).2 hgs' hgo'⟩
theorem any_loop (hh : A.handled = none) (hroom : A.depth < recursionLimit) (hst : Stands XG a g) (hR : ∀ b H' s', IX XG H' s' → Q b H' → R (.ok (.ret (.bool b))) s') : ∀ (n : Nat) (s : Shared) (gs : GenState), s.heap.IsGen a g → s.heap.NoLimit → s.gens[g]? = some gs →
    gs.Goes (model XG.prog XG.w) A.in1.in1 (fun n s₀ r s₁ => r = .ok .next ∧ GxR XG Q true n s₀ s₁) (GxY XG Q true) n (.send .none) (s.setGen g .running) → codeAny (model XG.prog XG.w) A (.builtin "any.loop" ⟨[.ref a], []⟩) R s := by
  intro n
  induction n with
  | zero =>
    intro s gs hg hl hgs hgo
    refine codeAny_builtin F.entry_any_loop ?_
    rw [Around.under_plainId F.plain_any_loop _]
    show wpAny _ A.in1 (pyNext (.ref a) >>= _) _ _ s
    refine wpAny_bind (next_gx (A := A.in1) hh hroom hst hg hl hgs hgo (fun H' s' ix q => ?_) (fun H' s' ix q => ?_) fun m s' gs' H' e => (by cases e))
    · exact wpAny_bind (wpAny_rule (wpAny_pure (hR _ _ _ ix q)))
    · refine wpAny_bind (wpAny_holding (wpAny_truthy_bool ?_))
      refine wpAny_bind (wpAny_letGo ?_)
      simp only [if_true]
      exact wpAny_bind (wpAny_rule (wpAny_pure (hR _ _ _ ix q)))
  | succ n ih =>
    intro s gs hg hl hgs hgo
    refine codeAny_builtin F.entry_any_loop ?_
    rw [Around.under_plainId F.plain_any_loop _]
    show wpAny _ A.in1 (pyNext (.ref a) >>= _) _ _ s
    refine wpAny_bind (next_gx (A := A.in1) hh hroom hst hg hl hgs hgo (fun H' s' ix q => ?_) (fun H' s' ix q => ?_) fun m s' gs' H' e ix hgs' hgo' => ?_)
    · exact wpAny_bind (wpAny_rule (wpAny_pure (hR _ _ _ ix q)))
    · refine wpAny_bind (wpAny_holding (wpAny_truthy_bool ?_))
      refine wpAny_bind (wpAny_letGo ?_)
      simp only [if_true]
      exact wpAny_bind (wpAny_rule (wpAny_pure (hR _ _ _ ix q)))
    · refine wpAny_bind (wpAny_holding (wpAny_truthy_bool ?_))
      refine wpAny_bind (wpAny_letGo ?_)
      simp only [Bool.not_true, Bool.false_eq_true, if_false]
      cases e
      exact wpAny_pure ⟨plainId_quiet F.plain_any_loop _, ih _ _ (hst _ _ ix).1 (hst _ _ ix).2 hgs' hgo'⟩
end
end
end GnX

set_option maxHeartbeats 2000000
namespace GnX
open PySem PySem.Spec PyProof.Rows L2 LamX GenW
theorem over_cl {A : Around} {elt tg iter : Expr} {ifs : List Expr} {scope : Scope} {pos : Pos} {it acc : Value} {ge : Env} : A.over (.compLoop (.GeneratorExp elt [⟨tg, iter, ifs, 0⟩] scope pos) 0 it acc ge) [] = A.deeper ge := by
  first
    | rfl
    | (obtain ⟨hd, d, fr, gs, u⟩ := A; simp [Around.over, Around.deeper, marksOver, frameCount, unitsOf, envsOf, guardsOf, pushEnvs, pushGuards, Code.envs, Code.env?, Code.isFrame, Code.guards, Code.isGuard, Code.weight, Code.frames, Code.isCreation, Code.isCaller, Code.cUnits])
theorem over_cs {A : Around} {elt tg iter : Expr} {ifs : List Expr} {scope : Scope} {pos : Pos} {it acc : Value} {ge : Env} : A.over (.compStart (.GeneratorExp elt [⟨tg, iter, ifs, 0⟩] scope pos) 0 it acc ge) [] = A.deeper ge := by
  first
    | rfl
    | (obtain ⟨hd, d, fr, gs, u⟩ := A; simp [Around.over, Around.deeper, marksOver, frameCount, unitsOf, envsOf, guardsOf, pushEnvs, pushGuards, Code.envs, Code.env?, Code.isFrame, Code.guards, Code.isGuard, Code.weight, Code.frames, Code.isCreation, Code.isCaller, Code.cUnits])
/-- the turns of a generator expression whose elements are flags -/
def tGxJ (stop : Bool) (g : TG) (te : TE) (vs : List Nat) (σ : L2.St) (Q : Bool → Hp → Prop) (J : It) (H1 : Hp) (W : Nat → Nat → Hp → Prop) : Prop := ∀ i m H, W i m H → (J.stop i H ∧ Q (!stop) H) ∨ (J.go i H ∧ ∃ Nx : Hp → Prop, (∀ H', Nx H' → ∃ m', m' < m ∧ W (i + 1) m' H') ∧ ∀ x H', J.yld i H x H' → g x (wipe σ vs) H' fun σ2 H2 => wipe σ2 vs = wipe σ vs ∧ te σ2 H2 fun y H3 => ∃ b, y = .bl b ∧ (b = stop → Q stop H3) ∧ (b ≠ stop → Nx H3))
def tGx (stop : Bool) (T : List (Addr × Str)) (wi : TI) (g : TG) (te : TE) (vs : List Nat) : TE := fun σ H Q => wi σ H fun J H1 => Tabs T H1 ∧ ∀ H2, ExtN H1 H2 → Tabs T H2 → ∃ W : Nat → Nat → Hp → Prop, (∃ m, W 0 m H2) ∧ tGxJ stop g te vs σ (fun b H => Q (.bl b) H) J H2 W
section
variable {X : Cx} {A : Around} {s3 : Shared} {H3 : Hp} {ge : Env} {fp : List Addr} {pn : List (Addr × Obj)} {elt tg iter : Expr} {scope : Scope} {pos : Pos} {it : Addr} {J : It} {tn : Nat → Heap → Prop} {σ : L2.St} {vs : List Nat} {g : TG} {te : TE} {stop : Bool} {Q : Bool → Hp → Prop} {W : Nat → Nat → Hp → Prop}
theorem seg_gx (hc : X.calm = true) (hco : ge.scope.isCoroutine = false) (T : Turn X.prog X.w X.kp tg J fp it tn) (hpf : ∀ p ∈ pn, ∀ b ∈ fp, p.1 ≠ b) (pg : PG (gblk X s3 H3 ge A fp pn) tg g) (pe : PE (gblk X s3 H3 ge A fp pn) elt te) (turn : tGxJ stop g te vs σ Q J H3 W) :
    ∀ (m i n : Nat) (s₀ s : Shared) (H : Hp), m < n → Inv (gblk X s3 H3 ge A fp pn) [] (wipe σ vs) H s → tn i s.heap → (∀ b ∈ fp, H b = none) → W i m H →
      Seg (model X.prog X.w) A (fun n s₀ r s₁ => r = .ok .next ∧ GxR (gblk X s3 H3 ge A fp pn) Q stop n s₀ s₁) (GxY (gblk X s3 H3 ge A fp pn) Q stop) n s₀
        (.compLoop (.GeneratorExp elt [⟨tg, iter, [], 0⟩] scope pos) 0 (.ref it) .none ge) ((model X.prog X.w).den (.compLoop (.GeneratorExp elt [⟨tg, iter, [], 0⟩] scope pos) 0 (.ref it) .none ge)) [] s := by
  have stat : ∀ {σ' : L2.St} {H' : Hp} {s' : Shared}, Inv (gblk X s3 H3 ge A fp pn) [] σ' H' s' → (∀ b ∈ fp, H' b = none) → ∀ b ∈ fp, FpOk (gblk X s3 H3 ge A fp pn) [] H' b := fun {σ' H' s'} I' hn b hb =>
    ⟨hn b hb, (I'.ok.exf b hb).1, I'.ok.exfs b hb, .inl hb, fun x c e => (I'.ok.exf b hb).2 x c e, fun p hp => hpf p (by
      have hp : p ∈ pn ++ ([] : List (Addr × Obj)) := hp
      rwa [List.append_nil] at hp) b hb⟩
  intro m
  induction m using Nat.strongRecOn with
  | ind m ih =>
    intro i n s₀ s H hmn I5 st5 n5 w5
    obtain ⟨n, rfl⟩ : ∃ k, n = k + 1 := ⟨n - 1, by omega⟩
    show Seg _ A _ _ _ s₀ _ ((compTurn (.GeneratorExp elt [⟨tg, iter, [], 0⟩] scope pos) 0 (.ref it) .none ge).onRaise (leaving ge)) [] s
    rw [compTurn_gen, Sem.onRaise_eq_wrap]
    refine seg_bind_wrap (wpAny_standAt ?_)
    rcases turn i m H w5 with ⟨hstop, qq⟩ | ⟨go, Nx, hNx, step⟩
    · have td := T.done (gblk X s3 H3 ge A fp pn) rfl rfl rfl hc i [] s _ H (fun _ _ => False) I5 (stat I5 n5) st5 hstop
      refine seg_bind_wrap ?_
      rw [over_cl]
      refine thnF td fun r s6 ⟨hr, I6⟩ => ?_
      subst hr
      exact seg_end (.ok .next) ⟨rfl, H, ⟨_, _, I6⟩, qq⟩
    · have ti := T.item (gblk X s3 H3 ge A fp pn) rfl rfl rfl hc i [] s _ H (fun _ _ => False) I5 (stat I5 n5) st5 go
      refine seg_bind_wrap ?_
      rw [over_cl]
      refine thnF ti fun r s6 ⟨u, hr, h6⟩ => ?_
      subst hr
      refine seg_bind_wrap ?_
      rw [over_cl]
      refine thnF h6 fun _ s7 ⟨x, H7, I7, r7, y7, st7, n7⟩ => ?_
      have I7' := I7.pinned (stat I7 n7) (T.obj _ _ st7)
      refine seg_bind_wrap ?_
      rw [over_cl]
      refine thnF (pg.run _ s7 _ H7 x u _ I7' r7 (step x H7 y7)) fun _ s8 ⟨σ8, H8, I8, hw8, q8⟩ => ?_
      simp only [List.forIn_nil]
      refine seg_bind_wrap (wpAny_pure ?_)
      simp only [if_true]
      have hy : ∀ v, yieldOut ge v = yieldValue v := fun v => by simp only [yieldOut, hco, Bool.false_eq_true, if_false]
      simp only [hy]
      rw [Sem.bind_eq_wrap', Sem.bind_eq_wrap', Sem.wrap_wrap, Sem.wrap_wrap]
      refine seg_wrap ?_
      rw [over_cl]
      refine thnF (pe.run _ s8 σ8 H8 _ I8 q8) fun z s10 ⟨yv, H10, I10, r10, b, hyb, qs, qn⟩ => ?_
      subst hyb
      have r10 : z = .bool b := r10
      subst r10
      refine seg_at (seg_yield rfl rfl rfl ⟨b, H10, rfl, ⟨_, _, I10⟩, qs, fun hb s'' eh eo eg => ?_⟩)
      obtain ⟨m', hm, w'⟩ := hNx H10 (qn hb)
      have pin' : ∀ b ∈ fp, ∀ o, s7.heap.get? b = some o → s10.heap.get? b = some o ∧ H10 b = none := fun b hb o e =>
        let z := I10.pin (b, o) (List.mem_append_right _ (List.mem_append_right _ (mem_pinsAt hb e)))
        ⟨z.1, z.2.1⟩
      have hl : (wipe σ vs).length = σ8.length := by rw [← hw8, wipe_length]
      have I11 : Inv (gblk X s3 H3 ge A fp pn) [] (wipe σ vs) H10 s10 := (I10.unpinned (pins := [])).weak hl (fun j v e => by
        rw [← hw8] at e
        exact (wipe_some e).1)
      refine seg_again rfl (ih m' hm (i + 1) n s'' s'' H10 (by omega) (inv_gens I11 eh eo eg) ?_ (fun b hb => ?_) w')
      · rw [eh]; exact T.keep _ _ _ st7 fun b hb o e => (pin' b hb o e).1
      · obtain ⟨o, e, _⟩ := T.obj _ _ st7 b hb
        exact (pin' b hb o e).2
theorem seg_gx0 {R : GenEnd} {Y : Protocol} {n : Nat} {s : Shared} (T : Turn X.prog X.w X.kp tg J fp it tn) (st : tn 0 s.heap)
    (loop : ∀ s₀, Seg (model X.prog X.w) A R Y n s₀ (.compLoop (.GeneratorExp elt [⟨tg, iter, [], 0⟩] scope pos) 0 (.ref it) .none ge) ((model X.prog X.w).den (.compLoop (.GeneratorExp elt [⟨tg, iter, [], 0⟩] scope pos) 0 (.ref it) .none ge)) [] s) (s₀ : Shared) :
    Seg (model X.prog X.w) A R Y n s₀ (.compStart (.GeneratorExp elt [⟨tg, iter, [], 0⟩] scope pos) 0 (.ref it) .none ge) ((model X.prog X.w).den (.compStart (.GeneratorExp elt [⟨tg, iter, [], 0⟩] scope pos) 0 (.ref it) .none ge)) [] s := by
  show Seg _ A _ _ _ s₀ _ ((compStart (.GeneratorExp elt [⟨tg, iter, [], 0⟩] scope pos) 0 (.ref it) .none ge).onRaise (leaving ge)) [] s
  unfold compStart
  rw [Sem.onRaise_eq_wrap]
  show Seg _ A _ _ _ s₀ _ ((ask >>= _).wrap _ _ _ _) [] s
  refine seg_bind_wrap (wpAny_askSetting ?_)
  split
  · exact seg_again rfl (loop s₀)
  · first
      | exact seg_bind_wrap (wpAny_rule (seg_bind_wrap (wpAny_standAt (seg_bind_wrap (T.self _ 0 s _ _ st (seg_again rfl (loop s₀)))))))
      | (refine seg_bind_wrap (wpAny_rule ?_); show Seg _ A _ _ _ s₀ _ ((standAt iter.pos >>= _).wrap _ _ _ _) [] s; exact seg_bind_wrap (wpAny_standAt (seg_bind_wrap (T.self _ 0 s _ _ st (seg_again rfl (loop s₀))))))
end
section
variable {X : Cx} {pins : List (Addr × Obj)} {σ : L2.St} {H : Hp} {s : Shared}
/-- a generator that has not begun, and what its turns are -/
def GxReady (X : Cx) (pins : List (Addr × Obj)) (σ : L2.St) (stop : Bool) (Q : Bool → Hp → Prop) (a : Addr) (s5 : Shared) : Prop :=
  ∃ (XG : Cx) (g n : Nat) (gs : GenState), XG.prog = X.prog ∧ XG.w = X.w ∧ Stands XG a g ∧ s5.heap.IsGen a g ∧ s5.heap.NoLimit ∧ s5.gens[g]? = some gs ∧
    gs.Goes (model X.prog X.w) X.A.in1.in1 (fun n s₀ r s₁ => r = .ok .next ∧ GxR XG Q stop n s₀ s₁) (GxY XG Q stop) n (.send .none) (s5.setGen g .running) ∧ ∀ H' s', IX XG H' s' → Inv X pins σ H' s'
theorem gx_make {T : List (Addr × Str)} {c P : Addr} {elt tg iter : Expr} {scope : Scope} {own : List (Str × Nat)} {gpos : Pos} {wi : TI} {g : TG} {te : TE} {stop : Bool} {k : Nat} {Q : VK} {Q' : Value → Shared → Prop}
    (hr : Room k X.A) (TB : LamX.TabB X.base X.mg c P) (hcode : X.env.code = .ref c) (hm : (P, X.env.qual ++ "<genexpr>") ∈ T) (hu : ∀ p ∈ T, p.1 = P → p.2 = X.env.qual ++ "<genexpr>")
    (hc : X.calm = true) (hN : X.N.Nodup) (ok : BlkOk X.N X.env.scope scope own) (gk : GenOk scope) (hi : PI X tg iter wi)
    (hg : ∀ (s : Shared) (H : Hp) (C : Addr) (code : Value) (fp : List Addr) (pn : List (Addr × Obj)), PG (gblk X s H (gEnv X scope C code) X.A.in1.in1 fp pn) tg g)
    (he : ∀ (s : Shared) (H : Hp) (C : Addr) (code : Value) (fp : List Addr) (pn : List (Addr × Obj)), PE (gblk X s H (gEnv X scope C code) X.A.in1.in1 fp pn) elt te)
    (hs : ∀ v, genFold iter X.env v = pure v) (I : Inv X pins σ H s) (h : tGx stop T wi g te (own.map (·.2)) σ H Q)
    (hQ : ∀ a s5, GxReady X pins σ stop (fun b H' => Q (.bl b) H') a s5 → Q' (.ref a) s5) :
    wpAny (model X.prog X.w) X.A (eval (.GeneratorExp elt [⟨tg, iter, [], 0⟩] scope gpos) X.env) Q' X.xe s := by
  have hfree : ∀ y ∈ scope.names, y.2 = .free → ∃ c, X.env.cells.lookup y.1 = some c := fun y hy e => by
    rcases ok.free y hy e with k | k
    · exact I.ok.has _ (.inl k)
    · exact I.ok.has _ (.inr k)
  refine wpAny_GeneratorExp_make gk.co (closure_ok hfree) gk.cell gk.dot ok.kind hr.depth (thn (hi.run pins s σ H _ I h) fun xv s1 hx => thn hx fun itv s2 h2 => ?_) hs
  obtain ⟨it, fp, tn, J, H2, e, I2, TT, st2, f2, hT2, q⟩ := h2
  subst e
  refine ⟨I2.nolimit, gen_code (pos := gpos) I2 TB hcode hm hu hT2 fun code H3 s3 I3 hE hT3 kp3 sz3 _ hn3 => ?_⟩
  refine gen_blt I3 TB ?_
  obtain ⟨ps, hP, _, _⟩ := hT2 _ hm
  have sz : ∀ b ∈ fp, b < s2.heap.objs.size := fun b hb => by
    obtain ⟨o, e, _⟩ := TT.obj _ _ st2 b hb
    exact Heap.lt_size e
  have nP : ∀ b ∈ fp, b ≠ P := fun b hb z => by
    have := (f2 b hb).1
    rw [z, hP] at this; cases this
  have f3 : ∀ b ∈ fp, FpOk X pins H3 b ∧ b < s3.heap.objs.size := fun b hb => ⟨⟨hn3 b (f2 b hb).1 (sz b hb), (f2 b hb).2⟩, Nat.lt_of_lt_of_le (sz b hb) sz3⟩
  have st3 : tn 0 s3.heap := TT.keep _ _ _ st2 fun b hb o e => kp3 b o (nP b hb) e
  obtain ⟨W, ⟨m0, w0⟩, turn⟩ := q H3 hE hT3
  intro h' hn' hs'
  have hsz : h'.objs.size = s3.heap.objs.size + 1 := by rw [hs'.1, Heap.size_push]
  have keep' : ∀ b o, s3.heap.get? b = some o → h'.get? b = some o := fun b o e => hs'.extBut b o (Nat.ne_of_lt (Heap.lt_size e)) (Heap.get?_push_of_some _ e)
  generalize hgo : ({ cls := .type "generator", data := .fields #[.int s3.gens.size 0, .str "<genexpr>" (s3.toks + 1), .str (X.env.qual ++ "<genexpr>") (s3.toks + 1 + 1)] } : Obj) = go
  have keep5 : ∀ b o, s3.heap.get? b = some o → (h'.push go).get? b = some o := fun b o e => Heap.get?_push_of_some _ (keep' b o e)
  have hga : (h'.push go).get? h'.objs.size = some go := by rw [← hgo]; exact Heap.get?_push_size _ rfl
  have hgd : ∀ v, go.data ≠ .cell v := fun v q => by rw [← hgo] at q; cases q
  have hag : s3.heap.objs.size < h'.objs.size := by rw [hsz]; exact Nat.lt_succ_self _
  generalize hge : genEnv scope (cloFrom X.env.cells scope.names []) s3.heap.objs.size code builtinsNs X.env = ge
  have hG : AllBare (s3.gens.push (.fresh (.compStart (.GeneratorExp elt [⟨tg, iter, [], 0⟩] scope gpos) 0 (.ref it) .none ge))) := I3.bare.push rfl
  have I4 : Inv (gblk X s3 H3 ge X.A.in1.in1 fp [(h'.objs.size, go)]) [] (wipe σ (own.map (·.2))) H3 { s3 with heap := h'.push go, gens := s3.gens.push (.fresh (.compStart (.GeneratorExp elt [⟨tg, iter, [], 0⟩] scope gpos) 0 (.ref it) .none ge)), toks := s3.toks + 1 + 1 + 1 } := by
    rw [← hge]
    exact gblk_start I3 ok gk hN hr.hd I3.ok.frames f3 keep5 (hn'.push _) hag hga hgd (by rw [hge]; exact hG)
  have pgg : PG (gblk X s3 H3 ge X.A.in1.in1 fp [(h'.objs.size, go)]) tg g := by rw [← hge]; exact hg _ _ _ _ _ _
  have pee : PE (gblk X s3 H3 ge X.A.in1.in1 fp [(h'.objs.size, go)]) elt te := by rw [← hge]; exact he _ _ _ _ _ _
  have hco : ge.scope.isCoroutine = false := by rw [← hge]; exact gk.co
  generalize hs5 : ({ s3 with heap := h'.push go, gens := s3.gens.push (.fresh (.compStart (.GeneratorExp elt [⟨tg, iter, [], 0⟩] scope gpos) 0 (.ref it) .none ge)), toks := s3.toks + 1 + 1 + 1 } : Shared) = s5 at I4 ⊢
  have e5 : s5.gens = s3.gens.push (.fresh (.compStart (.GeneratorExp elt [⟨tg, iter, [], 0⟩] scope gpos) 0 (.ref it) .none ge)) := by rw [← hs5]
  have e6 : s5.heap = h'.push go := by rw [← hs5]
  have I5 : Inv (gblk X s3 H3 ge X.A.in1.in1 fp [(h'.objs.size, go)]) [] (wipe σ (own.map (·.2))) H3 (s5.setGen s3.gens.size .running) := inv_gens I4 rfl rfl (allBare_setGen I4.bare rfl)
  have st5 : tn 0 (s5.setGen s3.gens.size .running).heap := TT.keep _ _ _ st3 fun b _ o e => by
    show s5.heap.get? b = some o
    rw [e6]; exact keep5 b o e
  have hpf : ∀ p ∈ [(h'.objs.size, go)], ∀ b ∈ fp, p.1 ≠ b := fun p hp b hb z => by
    rw [List.mem_singleton.mp hp] at z
    have := (f3 b hb).2
    rw [← z] at this
    exact absurd (Nat.lt_trans hag this) (Nat.lt_irrefl _)
  refine hQ _ _ ⟨gblk X s3 H3 ge X.A.in1.in1 fp [(h'.objs.size, go)], s3.gens.size, m0 + 1, .fresh (.compStart (.GeneratorExp elt [⟨tg, iter, [], 0⟩] scope gpos) 0 (.ref it) .none ge), rfl, rfl, fun H' s' ix => ?_, ?_, I4.nolimit, by rw [e5]; exact Array.getElem?_push_size .., ⟨rfl, ?_⟩, fun H' s' ix => ?_⟩
  · obtain ⟨p, σ', I'⟩ := ix
    have z := (I'.pin (h'.objs.size, go) (List.mem_append_left _ (List.mem_singleton.mpr rfl))).1
    exact ⟨⟨go, _, _, z, by rw [← hgo], by rw [← hgo], by rw [← hgo]⟩, I'.nolimit⟩
  · exact ⟨go, _, _, by rw [e6]; exact hga, by rw [← hgo], by rw [← hgo], by rw [← hgo]⟩
  · exact seg_gx0 TT st5 (fun s₀ => seg_gx hc hco TT hpf pgg pee turn m0 0 (m0 + 1) s₀ _ H3 (Nat.lt_succ_self _) I5 st5 (fun b hb => (f3 b hb).1.1) w0) _
  · obtain ⟨p, σ', I'⟩ := ix
    exact I3.call' (ch := fp) I'.os I'.base I'.hok I'.bare fun b hb => ⟨(f3 b hb).1.2.2.2.1, (f3 b hb).1.2.1, (f3 b hb).1.2.2.2.2.1, (f3 b hb).1.2.2.2.2.2⟩
end
end GnX

set_option maxHeartbeats 2000000
namespace Pk
open PySem PySem.Spec PyProof.Rows L2
/-- the elements one by one, up to the first that decides -/
def allM (stop : Bool) (f : D → Ro → Option Ro) (e : M D) (vs : List Nat) : List D → Ro → Option (Bool × Ro)
  | [], r => some (!stop, r)
  | d :: ds, r => match f d r with
    | none => none
    | some r1 => match e r1 with
      | some (.bl b, r2) => if b = stop then some (stop, wipeR r2 vs) else allM stop f e vs ds (wipeR r2 vs)
      | _ => none
/-- all(e for tg in iter), any(..) -/
def agM (stop : Bool) (mi : M (List D)) (f : D → Ro → Option Ro) (e : M D) (vs : List Nat) : M D := bd mi fun ds r => if okW r vs then match allM stop f e vs ds (wipeR r vs) with
    | some (b, r') => some (.bl b, back r r' vs)
    | none => none
  else none
section
variable {Θ : List (Addr × Str)} {K : KP} {σ : L2.St} {H : Hp}
/-- only tables have changed -/
theorem ext_rel {G H H' : Hp} {r : Ro} (R : Rel Θ K G H r σ) (E : LamX.ExtN H H') (T : LamX.Tabs Θ H') : Rel Θ K G H' r σ ∧ Fr G H r σ G H' r σ := by
  have st : ∀ b u, H b = some u → tf u = true → H' b = some u := fun b u e t => E b u e fun ts z => by subst z; cases t
  refine ⟨⟨R.len, fun b u e => E b u (R.sub _ _ e) fun ts z => R.tab.cl b ts (by rw [← z]; exact e), R.get, fun j q ds z => ?_, R.sep, ⟨T, R.tab.out, R.tab.cl⟩⟩, Same.refl _, fun b u e t n => ⟨st b u e t, n, fun z => z⟩, fun j ds z => ⟨⟨ds, z⟩, rfl⟩, fun j z => ⟨z, rfl⟩, fun b h u e => ?_⟩
  · obtain ⟨a, vs, h1, h2, h3, h4⟩ := R.own j q ds z
    exact ⟨a, vs, h1, st _ _ h2 rfl, h3, h4⟩
  · cases t : tf u with
    | false => rfl
    | true => rw [h u (st b u e t)] at t; cases t
theorem gx_core {J : It} {ds : List D} {f : D → Ro → Option Ro} {me : M D} {vs : List Nat} {G0 H0 : Hp} {r0 : Ro} {Q : Bool → Hp → Prop} {C : Hp → Prop} {stop b : Bool} {rf : Ro}
    (hW : Wk K J ds G0 C) (hC : ∀ H, C H) (R0 : Rel Θ K G0 H0 r0 (wipe σ vs)) (hw0 : ∀ j, j ∈ vs → ∀ x, r0[j]? ≠ some (some x)) (c0 : allM stop f me vs ds r0 = some (b, rf))
    (hQ : ∀ G H, Rel Θ K G H rf (wipe σ vs) → (∀ j, j ∈ vs → ∀ x, rf[j]? ≠ some (some x)) → Fr G0 H0 r0 (wipe σ vs) G H rf (wipe σ vs) → Q b H) :
    ∃ W : Nat → Nat → Hp → Prop, (∃ m, W 0 m H0) ∧ GnX.tGxJ stop (rdW Θ K vs f) (rdE Θ K me) vs σ Q J H0 W := by
  refine ⟨fun i m H => m = ds.length - i ∧ i ≤ ds.length ∧ ∃ G r, Rel Θ K G H r (wipe σ vs) ∧ (∀ j, j ∈ vs → ∀ x, r[j]? ≠ some (some x)) ∧ Fr G0 H0 r0 (wipe σ vs) G H r (wipe σ vs) ∧ allM stop f me vs (ds.drop i) r = some (b, rf), ⟨ds.length, by simp, Nat.zero_le _, G0, r0, R0, hw0, Fr.refl _ _ _ _, by simpa using c0⟩, ?_⟩
  rintro i m H ⟨rfl, hi, G, r, R, hw, F, c⟩
  obtain ⟨w1, w2⟩ := hW G H F.le R.sub (hC _)
  by_cases hlt : i < ds.length
  · have hd : ds[i]? = some ds[i] := List.getElem?_eq_getElem hlt
    obtain ⟨g, y⟩ := w2 i _ hd
    rw [List.drop_eq_getElem_cons hlt] at c
    simp only [allM] at c
    cases e1 : f ds[i] r with
    | none => rw [e1] at c; cases c
    | some r1 =>
      rw [e1] at c
      dsimp only at c
      refine .inr ⟨g, fun H' => ∃ G' r', Rel Θ K G' H' r' (wipe σ vs) ∧ (∀ j, j ∈ vs → ∀ x, r'[j]? ≠ some (some x)) ∧ Fr G0 H0 r0 (wipe σ vs) G' H' r' (wipe σ vs) ∧ allM stop f me vs (ds.drop (i + 1)) r' = some (b, rf), fun H' h' => ⟨ds.length - (i + 1), by omega, rfl, hlt, h'⟩, fun x H1 hy => ?_⟩
      obtain ⟨G1, ex, rx⟩ := y x H1 hy
      refine ⟨G1, r, _, r1, ex.rel R, rx, e1, fun σ2 R2 F2 ws => ?_⟩
      rw [wipe_wipe] at ws
      have F1 : Fr G H r (wipe σ vs) G1 H1 r1 σ2 := (ex.fr r _).trans F2
      refine ⟨ws, ?_⟩
      have fin : ∀ (G5 H5 : Hp) (r5 : Ro), Rel Θ K G5 H5 r5 σ2 → Fr G H r (wipe σ vs) G5 H5 r5 σ2 → Rel Θ K G5 H5 (wipeR r5 vs) (wipe σ vs) ∧ Fr G H r (wipe σ vs) G5 H5 (wipeR r5 vs) (wipe σ vs) := fun G5 H5 r5 R5 F5 => by
        have Rw := wipe_rel (vs := vs) R5
        rw [ws] at Rw
        refine ⟨Rw, F5.le, fun b u e t n => ?_, fun j fs z => ?_, fun j z => ?_, F5.mono⟩
        · obtain ⟨h1, h2, h3⟩ := F5.keep b u e t n
          refine ⟨h1, fun z => h2 ?_, h3⟩
          rw [← ws] at z
          exact wipe_owned z
        · have hj : j ∉ vs := fun hj => hw j hj _ z
          obtain ⟨⟨fs', h1⟩, h2⟩ := F5.pin j fs z
          exact ⟨⟨fs', by rw [wipeR_out hj]; exact h1⟩, rfl⟩
        · have hj : j ∉ vs := fun hj => hw j hj _ z
          obtain ⟨h1, h2⟩ := F5.lck j z
          exact ⟨by rw [wipeR_out hj]; exact h1, rfl⟩
      have hww : ∀ (r5 : Ro) (j : Nat), j ∈ vs → ∀ x, (wipeR r5 vs)[j]? ≠ some (some x) := fun r5 j hj x z => (wipeR_get z).2 hj
      cases e3 : me r1 with
      | none => rw [e3] at c; cases c
      | some q =>
        obtain ⟨yy, r3⟩ := q
        rw [e3] at c
        refine ⟨G1, r1, R2, yy, r3, e3, fun G4 H4 R4 F4 vy ry => ?_⟩
        cases yy with
        | bl bb =>
          dsimp only at c
          obtain rfl := ry.bl_inv
          have F14 := F1.trans F4
          obtain ⟨Rw, Fw⟩ := fin G4 H4 r3 R4 F14
          refine ⟨bb, rfl, fun es => ?_, fun es => ?_⟩
          · rw [if_pos es] at c
            cases c
            exact hQ G4 H4 Rw (hww r3) (F.trans Fw)
          · rw [if_neg es] at c
            exact ⟨G4, wipeR r3 vs, Rw, hww r3, F.trans Fw, c⟩
        | _ => cases c
  · have e : i = ds.length := by omega
    subst e
    rw [List.drop_length] at c
    simp only [allM] at c
    cases c
    exact .inl ⟨w1 _ (Nat.le_refl _), hQ G H R hw F⟩
theorem gx_read {mi : M (List D)} {f : D → Ro → Option Ro} {me : M D} {vs : List Nat} {stop : Bool} {Q : VK} (q : rdE Θ K (agM stop mi f me vs) σ H Q) : GnX.tGx stop Θ (rdI Θ K mi) (rdW Θ K vs f) (rdE Θ K me) vs σ H Q := by
  obtain ⟨G, r, R, c⟩ := q
  refine ⟨G, r, R, (cn_bd c).mono fun ds G1 H1 ⟨r1, R1, s1, c1⟩ J hW => ⟨R1.tab.ok, fun H2 hE hT => ?_⟩⟩
  obtain ⟨d, r', e, k⟩ := c1
  split at e
  · rename_i hok
    cases e2 : allM stop f me vs ds (wipeR r1 vs) with
    | none => rw [e2] at e; cases e
    | some q =>
      obtain ⟨b, rf⟩ := q
      rw [e2] at e
      cases e
      obtain ⟨R2, F2⟩ := ext_rel R1 hE hT
      refine gx_core (C := fun _ => True) hW (fun _ => trivial) (wipe_rel R2) (fun j hj x z => (wipeR_get z).2 hj) e2 fun G3 H3 R3 hw3 F3 => ?_
      obtain ⟨R4, F4⟩ := back_rel hok R2 R3 hw3 F3
      exact k G3 H3 R4 (F2.trans F4) (.bl b) .bl_of
  · cases e
def genC (scope : Scope) : Bool := !scope.isCoroutine && (scope.names.all fun y => decide (y.2 ≠ .cell)) && decide (scope.names.lookup (".0" : Str) = some NameKind.local)
theorem genOk_by {scope : Scope} (h : genC scope = true) : GnX.GenOk scope := by
  unfold genC at h
  simp only [Bool.and_eq_true, Bool.not_eq_true', List.all_eq_true, decide_eq_true_eq] at h
  exact ⟨h.1.1, fun y hy => h.1.2 y hy, h.2⟩
variable {X : Cx} {tg iter elt : Expr} {p pos gpos : Pos} {mi : M (List D)} {f : D → Ro → Option Ro} {me : M D} {c P : Addr} {scope : Scope} {own : List (Str × Nat)} {k : Nat}
theorem se_allG (hr : Room k X.A) (hg : Gl X "all") (hm : X.mg "all" = none) (hb : bootBuiltins "all" = some (.builtin "all")) (tb : LamX.TabB X.base X.mg c P) (hcode : X.env.code = .ref c) (hT : (P, X.env.qual ++ "<genexpr>") ∈ Θ) (hU : ∀ q ∈ Θ, q.1 = P → q.2 = X.env.qual ++ "<genexpr>")
    (hc : X.calm = true) (hN : X.N.Nodup) (hi : SI Θ X tg iter mi) (ok : BlkOk X.N X.env.scope scope own) (gk : GnX.GenOk scope)
    (hgt : ∀ (s : Shared) (H : Hp) (C : Addr) (code : Value) (fp : List Addr) (pn : List (Addr × Obj)), SGw Θ (GnX.gblk X s H (GnX.gEnv X scope C code) X.A.in1.in1 fp pn) (own.map (·.2)) tg f)
    (hel : ∀ (s : Shared) (H : Hp) (C : Addr) (code : Value) (fp : List Addr) (pn : List (Addr × Obj)), SE Θ (GnX.gblk X s H (GnX.gEnv X scope C code) X.A.in1.in1 fp pn) elt me)
    (hs : ∀ v, genFold iter X.env v = pure v := by intro _; rfl)
    (he : starEach [.GeneratorExp elt [⟨tg, iter, [], 0⟩] scope gpos] X.env = (false, eval (.GeneratorExp elt [⟨tg, iter, [], 0⟩] scope gpos) X.env) :: starEach [] X.env := by rfl) :
    SE Θ X (.Call (.Name "all" p) [.GeneratorExp elt [⟨tg, iter, [], 0⟩] scope gpos] [] pos) (agM false mi f me (own.map (·.2))) := ⟨fun pins s σ H Q I q => by
  refine wpAny_Call_Name_kw (ld_blt I hg hm hb ?_)
  refine PyProof.Rows.callWith_builtin1 ?_ he (by rfl)
  rw [he]
  show wpAny _ _ (spliced ((false, eval (.GeneratorExp elt [⟨tg, iter, [], 0⟩] scope gpos) X.env) :: backTo pos (starEach [] X.env))) _ _ s
  refine Calls.spliced_cons (GnX.gx_make hr tb hcode hT hU hc hN ok gk hi hgt hel hs I (gx_read q) fun a s5 ⟨XG, g, n, gs, e1, e2, st, hgen, hl, hgs, hgo, back⟩ => ?_)
  refine Calls.spliced_nil ?_
  rw [← e1, ← e2] at hgo ⊢
  refine call_function_tree F.kind_all F.plain_all F.entry_all (F.args_all1 _) ?_
  unfold Builtin.«all»
  refine wpAny_bind (m := oneArg "all" _) (wpAny_pure ?_)
  refine wpAny_bind (wpAny_pyIter_gen hgen ?_)
  exact wpAny_pure ⟨plainId_quiet F.plain_all_loop _, GnX.all_loop (Q := fun b H' => Q (.bl b) H') hr.hd hr.depth st (fun b H' s' ix qq => ⟨.bl b, H', back H' s' ix, rfl, qq⟩) n s5 gs hgen hl hgs hgo⟩⟩
theorem se_anyG (hr : Room k X.A) (hg : Gl X "any") (hm : X.mg "any" = none) (hb : bootBuiltins "any" = some (.builtin "any")) (tb : LamX.TabB X.base X.mg c P) (hcode : X.env.code = .ref c) (hT : (P, X.env.qual ++ "<genexpr>") ∈ Θ) (hU : ∀ q ∈ Θ, q.1 = P → q.2 = X.env.qual ++ "<genexpr>")
    (hc : X.calm = true) (hN : X.N.Nodup) (hi : SI Θ X tg iter mi) (ok : BlkOk X.N X.env.scope scope own) (gk : GnX.GenOk scope)
    (hgt : ∀ (s : Shared) (H : Hp) (C : Addr) (code : Value) (fp : List Addr) (pn : List (Addr × Obj)), SGw Θ (GnX.gblk X s H (GnX.gEnv X scope C code) X.A.in1.in1 fp pn) (own.map (·.2)) tg f)
    (hel : ∀ (s : Shared) (H : Hp) (C : Addr) (code : Value) (fp : List Addr) (pn : List (Addr × Obj)), SE Θ (GnX.gblk X s H (GnX.gEnv X scope C code) X.A.in1.in1 fp pn) elt me)
    (hs : ∀ v, genFold iter X.env v = pure v := by intro _; rfl)
    (he : starEach [.GeneratorExp elt [⟨tg, iter, [], 0⟩] scope gpos] X.env = (false, eval (.GeneratorExp elt [⟨tg, iter, [], 0⟩] scope gpos) X.env) :: starEach [] X.env := by rfl) :
    SE Θ X (.Call (.Name "any" p) [.GeneratorExp elt [⟨tg, iter, [], 0⟩] scope gpos] [] pos) (agM true mi f me (own.map (·.2))) := ⟨fun pins s σ H Q I q => by
  refine wpAny_Call_Name_kw (ld_blt I hg hm hb ?_)
  refine PyProof.Rows.callWith_builtin1 ?_ he (by rfl)
  rw [he]
  show wpAny _ _ (spliced ((false, eval (.GeneratorExp elt [⟨tg, iter, [], 0⟩] scope gpos) X.env) :: backTo pos (starEach [] X.env))) _ _ s
  refine Calls.spliced_cons (GnX.gx_make hr tb hcode hT hU hc hN ok gk hi hgt hel hs I (gx_read q) fun a s5 ⟨XG, g, n, gs, e1, e2, st, hgen, hl, hgs, hgo, back⟩ => ?_)
  refine Calls.spliced_nil ?_
  rw [← e1, ← e2] at hgo ⊢
  refine call_function_tree F.kind_any F.plain_any F.entry_any (F.args_any1 _) ?_
  unfold Builtin.«any»
  refine wpAny_bind (m := oneArg "any" _) (wpAny_pure ?_)
  refine wpAny_bind (wpAny_pyIter_gen hgen ?_)
  exact wpAny_pure ⟨plainId_quiet F.plain_any_loop _, GnX.any_loop (Q := fun b H' => Q (.bl b) H') hr.hd hr.depth st (fun b H' s' ix qq => ⟨.bl b, H', back H' s' ix, rfl, qq⟩) n s5 gs hgen hl hgs hgo⟩⟩
end
end Pk

set_option maxHeartbeats 1000000
namespace Pk
open PySem PySem.Spec PyProof.Rows L2 RZ
/-! ### zip of two lists or two tuples -/
def zipD : List D → List D → List D := List.zipWith fun a b => .tq [a, b]
def zipOf : List D → Option (List D)
  | [.tup xs, .tup ys] => some (zipD xs ys)
  | [.lst xs, .lst ys] => some (zipD xs ys)
  | _ => none
theorem zipD_at {xs ys : List D} {i : Nat} {d : D} (h : (zipD xs ys)[i]? = some d) : ∃ x y, xs[i]? = some x ∧ ys[i]? = some y ∧ d = .tq [x, y] := by
  unfold zipD at h
  rw [List.getElem?_zipWith] at h
  cases hx : xs[i]? with
  | none => rw [hx] at h; cases h
  | some x =>
    cases hy : ys[i]? with
    | none => rw [hx, hy] at h; cases h
    | some y => rw [hx, hy] at h; cases h; exact ⟨x, y, rfl, rfl, rfl⟩
theorem zipD_len (xs ys : List D) : (zipD xs ys).length = min xs.length ys.length := by unfold zipD; simp
theorem wk_zipT {K : KP} {G : Hp} {a b : Addr} {ds es : List D} {vs us : List V} (q : SqT K G a vs) (q2 : SqT K G b us) (rs : Reps K G ds vs) (rs2 : Reps K G es us) : Wk K (ItzT K a b) (zipD ds es) G (fun _ => True) := fun G' H' g s _ => by
  have q1 : SqT K H' a vs := sqT_mono (g.trans s) q
  have q3 : SqT K H' b us := sqT_mono (g.trans s) q2
  refine ⟨fun i hi => ⟨vs, us, q1, q3, ?_⟩, fun i d hd => ?_⟩
  · rw [zipD_len] at hi
    rw [rs.length, rs2.length]; omega
  · obtain ⟨x, y, hx, hy, rfl⟩ := zipD_at hd
    obtain ⟨v, hv, rv⟩ := (Reps.mono g _ _ rs).get hx
    obtain ⟨u, hu, ru⟩ := (Reps.mono g _ _ rs2).get hy
    refine ⟨⟨vs, us, v, u, q1, q3, hv, hu⟩, fun x2 H2 hz => ?_⟩
    obtain ⟨T, x', y', rfl, hT, rfl, hw, hw2⟩ := hz
    have e1 := hw vs q1
    have e2 := hw2 us q3
    rw [hv] at e1; rw [hu] at e2
    cases e1; cases e2
    have ex : Ext G' H' (upd G' T (.tup [v, u])) (upd H' T (.tup [v, u])) := Ext.new s hT _
    exact ⟨_, ex, Rep.tq_of (.inl (.inl upd_same)) (.cons (Rep.mono ex.le _ _ rv) (.cons (Rep.mono ex.le _ _ ru) .nil))⟩
theorem wk_zipL {K : KP} {G : Hp} {a b : Addr} {ds es : List D} {vs us : List V} (q : SqL K G a vs) (q2 : SqL K G b us) (rs : Reps K G ds vs) (rs2 : Reps K G es us) : Wk K (Itz K a b) (zipD ds es) G (fun _ => True) := fun G' H' g s _ => by
  have q1 : SqL K H' a vs := sqL_mono (g.trans s) q
  have q3 : SqL K H' b us := sqL_mono (g.trans s) q2
  refine ⟨fun i hi => ⟨vs, us, q1, q3, ?_⟩, fun i d hd => ?_⟩
  · rw [zipD_len] at hi
    rw [rs.length, rs2.length]; omega
  · obtain ⟨x, y, hx, hy, rfl⟩ := zipD_at hd
    obtain ⟨v, hv, rv⟩ := (Reps.mono g _ _ rs).get hx
    obtain ⟨u, hu, ru⟩ := (Reps.mono g _ _ rs2).get hy
    refine ⟨⟨vs, us, v, u, q1, q3, hv, hu⟩, fun x2 H2 hz => ?_⟩
    obtain ⟨T, x', y', rfl, hT, rfl, hw, hw2⟩ := hz
    have e1 := hw vs q1
    have e2 := hw2 us q3
    rw [hv] at e1; rw [hu] at e2
    cases e1; cases e2
    have ex : Ext G' H' (upd G' T (.tup [v, u])) (upd H' T (.tup [v, u])) := Ext.new s hT _
    exact ⟨_, ex, Rep.tq_of (.inl (.inl upd_same)) (.cons (Rep.mono ex.le _ _ rv) (.cons (Rep.mono ex.le _ _ ru) .nil))⟩
section
variable {Θ : List (Addr × Str)} {X : Cx} {e e2 : Expr} {ml : M (List D)}
theorem si_zip {p pos tpos : Pos} {elts : List Expr} {kk : Nat} (hg : Gl X "zip") (hm : X.mg "zip" = none) (ha : SA Θ X [e, e2] ml)
    (hs : starEach [e, e2] X.env = (false, eval e X.env) :: starEach [e2] X.env := by rfl) (hpl : (backTo pos (starEach [e2] X.env)).any (·.1) = false := by rfl) :
    SI Θ X (.Tuple elts kk tpos) (.Call (.Name "zip" p) [e, e2] [] pos) (bd ml fun ds => of (zipOf ds)) :=
  pi_imp (pi_zipA hg hm ha hs hpl) fun σ H Q q => by
    obtain ⟨G, r, R, c⟩ := q
    refine ⟨G, r, R, (cn_bd c).mono fun xs G1 H1 ⟨r1, R1, s1, c1⟩ vs rs => ?_⟩
    obtain ⟨z, hz, k⟩ := cn_of R1 c1
    unfold zipOf at hz
    split at hz
    · cases hz
      obtain ⟨v1, t1, rfl, r1, t1⟩ := rs.cons_inv
      obtain ⟨v2, rfl, r2⟩ := t1.one
      obtain ⟨a, us, rfl, q, rr⟩ := r1.tup_inv
      obtain ⟨b, ws, rfl, q2, rr2⟩ := r2.tup_inv
      exact ⟨a, b, us, ws, rfl, .inr ⟨sqT_mono R1.sub q, sqT_mono R1.sub q2, k G1 H1 (Ext.refl _ _) _ (wk_zipT q q2 rr rr2)⟩⟩
    · cases hz
      obtain ⟨v1, t1, rfl, r1, t1⟩ := rs.cons_inv
      obtain ⟨v2, rfl, r2⟩ := t1.one
      obtain ⟨a, us, rfl, q, rr⟩ := r1.lst_inv
      obtain ⟨b, ws, rfl, q2, rr2⟩ := r2.lst_inv
      exact ⟨a, b, us, ws, rfl, .inl ⟨.inl (rd_mono R1.sub q), .inl (rd_mono R1.sub q2), k G1 H1 (Ext.refl _ _) _ (wk_zipL (.inl q) (.inl q2) rr rr2)⟩⟩
    · cases hz
end
/-! ### dicts: what is stored -/
section
variable {α : Type}
def drep : List Str → List α → Str → α → List α
  | k :: ks, w :: vs, x, v => (if k = x then v else w) :: drep ks vs x v
  | _, _, _, _ => []
def dput (ks : List Str) (vs : List α) (x : Str) (v : α) : List Str × List α := if x ∈ ks then (ks, drep ks vs x v) else (ks ++ [x], vs ++ [v])
theorem drep_len : ∀ {ks : List Str} {vs : List α} {x : Str} {v : α}, ks.length = vs.length → (drep ks vs x v).length = ks.length
  | [], [], _, _, _ => rfl
  | k :: ks, w :: vs, x, v, h => by simp [drep, drep_len (ks := ks) (vs := vs) (by simpa using h)]
theorem dput_len {ks : List Str} {vs : List α} {x : Str} {v : α} (h : ks.length = vs.length) : (dput ks vs x v).1.length = (dput ks vs x v).2.length := by
  unfold dput
  split
  · exact (drep_len h).symm
  · simp [h]
end
theorem dkv_app : ∀ {ks : List Str} {vs : List V} {x : Str} {v : V}, ks.length = vs.length → dkv (ks ++ [x]) (vs ++ [v]) = dkv ks vs ++ [(.inr x, v)]
  | [], [], _, _, _ => rfl
  | k :: ks, w :: vs, x, v, h => by
    rw [List.cons_append, List.cons_append, dkv, dkv, dkv_app (by simpa using h)]; rfl
theorem dkv_any : ∀ {ks : List Str} {vs : List V} {x : Str}, ks.length = vs.length → ((dkv ks vs).any fun kv => decide (kv.1 = .inr x)) = decide (x ∈ ks)
  | [], [], _, _ => by simp [dkv]
  | k :: ks, w :: vs, x, h => by
    rw [dkv, List.any_cons, dkv_any (by simpa using h)]
    by_cases e : k = x
    · simp [e]
    · have e2 : ¬ x = k := fun z => e z.symm
      simp [e, e2]
theorem dkv_rep : ∀ {ks : List Str} {vs : List V} {x : Str} {v : V}, ks.length = vs.length → (dkv ks vs).map (fun kv => if kv.1 = .inr x then (kv.1, v) else kv) = dkv ks (drep ks vs x v)
  | [], [], _, _, _ => rfl
  | k :: ks, w :: vs, x, v, h => by
    rw [dkv, List.map_cons, dkv_rep (by simpa using h), drep, dkv]
    by_cases e : k = x
    · simp [e]
    · simp [e]
theorem dkv_put {ks : List Str} {vs : List V} {x : Str} {v : V} (h : ks.length = vs.length) : putK (dkv ks vs) (.inr x) v = dkv (dput ks vs x v).1 (dput ks vs x v).2 := by
  unfold putK dput
  rw [dkv_any h]
  by_cases e : x ∈ ks
  · rw [if_pos (by simpa using e), if_pos e]; exact dkv_rep h
  · rw [if_neg (by simpa using e), if_neg e]; exact (dkv_app h).symm
theorem dkv_len : ∀ {ks : List Str} {vs : List V}, ks.length = vs.length → (dkv ks vs).length = ks.length
  | [], [], _ => rfl
  | k :: ks, w :: vs, h => by rw [dkv, List.length_cons, dkv_len (by simpa using h)]; rfl
theorem drep_rep {K : KP} {G : Hp} : ∀ {ks : List Str} {ds : List D} {vs : List V} {x : Str} {d : D} {v : V}, Reps K G ds vs → Rep K G d v → Reps K G (drep ks ds x d) (drep ks vs x v)
  | [], _, _, _, _, _, _, _ => .nil
  | k :: ks, [], _, x, d, v, r, q => by rw [r.nil_inv]; exact .nil
  | k :: ks, e :: ds, _, x, d, v, r, q => by
    obtain ⟨w, t, rfl, q1, r⟩ := r.cons_inv
    rw [drep, drep]
    refine .cons ?_ (drep_rep r q)
    by_cases z : k = x
    · rw [if_pos z, if_pos z]; exact q
    · rw [if_neg z, if_neg z]; exact q1
theorem dput_rep {K : KP} {G : Hp} {ks : List Str} {ds : List D} {vs : List V} {x : Str} {d : D} {v : V} (r : Reps K G ds vs) (q : Rep K G d v) : (dput ks ds x d).1 = (dput ks vs x v).1 ∧ Reps K G (dput ks ds x d).2 (dput ks vs x v).2 := by
  unfold dput
  split
  · exact ⟨rfl, drep_rep r q⟩
  · exact ⟨rfl, r.snoc q⟩
/-! ### dict of a tuple of pairs -/
def dpairs : List D → Option (List (Str × D))
  | [] => some []
  | .tup [.str k, d] :: ds => (dpairs ds).map ((k, d) :: ·)
  | _ => none
def dall {α : Type} (m : List Str × List α) (ps : List (Str × α)) : List Str × List α := ps.foldl (fun m p => dput m.1 m.2 p.1 p.2) m
def dictD : List D → Option D
  | [.tup ds] => (dpairs ds).map fun ps => .dct (dall ([], []) ps).1 (dall ([], []) ps).2
  | _ => none
theorem dall_merge : ∀ {ps : List (Str × V)} {ks : List Str} {vs : List V}, ks.length = vs.length → mergeK (dkv ks vs) (ps.map fun p => (Sum.inr p.1, p.2)) = dkv (dall (ks, vs) ps).1 (dall (ks, vs) ps).2 ∧ (dall (ks, vs) ps).1.length = (dall (ks, vs) ps).2.length
  | [], _, _, h => ⟨rfl, h⟩
  | p :: ps, ks, vs, h => by
    have := dall_merge (ps := ps) (dput_len (x := p.1) (v := p.2) h)
    rw [List.map_cons]
    show mergeK (putK (dkv ks vs) (.inr p.1) p.2) _ = _ ∧ _
    rw [dkv_put h]
    exact this
theorem dall_rep {K : KP} {G : Hp} : ∀ {ps : List (Str × D)} {qs : List (Str × V)} {ks : List Str} {ds : List D} {vs : List V}, Paired (fun p q => p.1 = q.1 ∧ Rep K G p.2 q.2) ps qs → Reps K G ds vs → (dall (ks, ds) ps).1 = (dall (ks, vs) qs).1 ∧ Reps K G (dall (ks, ds) ps).2 (dall (ks, vs) qs).2
  | _, _, ks, ds, vs, .nil, r => ⟨rfl, r⟩
  | _, _, ks, ds, vs, .cons (a := p) (b := q) h t, r => by
    obtain ⟨h1, h2⟩ := h
    obtain ⟨e, r'⟩ := dput_rep (ks := ks) (x := p.1) r h2
    rw [h1] at e r'
    have := dall_rep (ks := (dput ks vs q.1 q.2).1) (ds := (dput ks ds q.1 p.2).2) t r'
    have e1 : (dput ks ds p.1 p.2) = ((dput ks vs q.1 q.2).1, (dput ks ds q.1 p.2).2) := by
      rw [h1, ← e]
    show (dall (dput ks ds p.1 p.2) _).1 = _ ∧ Reps K G (dall (dput ks ds p.1 p.2) _).2 _
    rw [e1]
    exact this
section
variable {X : Cx}
theorem pairs2 {pins : List (Addr × Obj)} {σ : L2.St} {H : Hp} {s : Shared} (I : Inv X pins σ H s) : ∀ {ps : List Addr} {kvs : List (Key × V)}, Paired (fun p kv => SqT X.kp H p [kV kv.1, kv.2]) ps kvs →
    ∃ (prs : List (Key × Value)) (us : List Value), KV kvs prs ∧ prs.length = ps.length ∧ us.length = ps.length ∧ ∀ (j : Nat) (b : Addr), ps[j]? = some b → ∃ k x u, prs[j]? = some (k, x) ∧ us[j]? = some u ∧ IsTup s.heap b #[u, x] ∧ keyIs k u = true
  | _, _, .nil => ⟨[], [], .nil, rfl, rfl, fun j q e => by simp at e⟩
  | _, _, .cons (a := p) (b := kv) h t => by
    obtain ⟨prs, us, r, hl, hu, hp⟩ := pairs2 I t
    obtain ⟨its, rv, ht, _⟩ := I.tuple h
    obtain ⟨u, y, ei, ru, ry⟩ := vals2 rv
    subst ei
    refine ⟨(kv.1, y) :: prs, u :: us, .cons ⟨rfl, ry⟩ r, by rw [List.length_cons, List.length_cons, hl], by rw [List.length_cons, List.length_cons, hu], fun j q e => ?_⟩
    cases j with
    | zero =>
      have e' : p = q := Option.some.inj e
      subst e'
      exact ⟨kv.1, y, u, rfl, rfl, ht, kV_is (P := X.prog) (w := X.w) ru⟩
    | succ j =>
      obtain ⟨k, x, u', e1, e2, e3⟩ := hp j q (by simpa using e)
      exact ⟨k, x, u', by simpa using e1, by simpa using e2, e3⟩
theorem call_dictT (hcalm : X.calm = true) : CallR X (.type "dict") (fun xs H Q => ∃ (a : Addr) (ps : List Addr) (kvs : List (Key × V)), xs = [.ref a] ∧ TpT X.kp H a (ps.map V.ref) ∧ Paired (fun p kv => SqT X.kp H p [kV kv.1, kv.2]) ps kvs ∧
    ∀ p, H p = none → Q (.ref p) (upd H p (.dK (mergeK [] kvs)))) := by
  intro pins s σ H xs us Q I r q
  obtain ⟨a, ps, kvs, ex, hq, hp, q⟩ := q
  subst ex
  obtain ⟨u, eu, rx⟩ := vals1 r
  subst eu
  cases rx
  obtain ⟨its, rv, ht, hz⟩ := I.tuple hq.sq
  have ei := refs_at rv
  subst ei
  rw [List.length_map] at hz
  obtain ⟨prs, ws, rel, hl, hu, hpr⟩ := pairs2 I hp
  have pl : ∃ o n, s.heap.get? a = some o ∧ o.cls = .type "tuple" ∧ o.dict = none ∧ o.data = .seq ((ps.map Value.ref).toArray) n := by
    obtain ⟨o', e1, e2, n, e3⟩ := ht
    refine ⟨o', n, e1, e2, ?_, e3⟩
    rcases hq with ⟨o, h, po⟩ | ⟨o, its2, n2, h1, h2, h3, _⟩
    · have := (I.hok a _ h).1
      rw [e1] at this; cases this
      exact po.2.1
    · have := I.kIn a o h1
      rw [e1] at this; cases this
      exact h3
  have hzl : (ws.zip (prs.map (·.2))).length = ps.length := by simp [hl, hu]
  have hpi : PySem.PairItems s.heap (ps.map Value.ref).toArray (fun j => ps.getD j 0) (ws.zip (prs.map (·.2))) := by
    refine ⟨by simp [hl, hu], fun j k v e => ?_⟩
    obtain ⟨e1, e2⟩ := List.getElem?_zip_eq_some.mp e
    have hj : j < ps.length := by
      have := (List.getElem?_eq_some_iff.mp e1).1
      omega
    obtain ⟨k', x, u, f1, f2, f3, f4⟩ := hpr j ps[j] (List.getElem?_eq_getElem hj)
    rw [f2] at e1; cases e1
    rw [List.getElem?_map, f1] at e2
    cases e2
    have eg : ps.getD j 0 = ps[j] := by simp [List.getD, List.getElem?_eq_getElem hj]
    refine ⟨by simp [List.getElem?_eq_getElem hj], ?_⟩
    show PySem.PairAt s.heap (ps.getD j 0) k v
    rw [eg]
    obtain ⟨o, g1, g2, n, g3⟩ := f3
    exact .inl ⟨o, g1, g2, n, g3⟩
  refine PySem.call_dict_pairs (knd := mixKind X.prog X.w) (kvs := prs) (PySem.PairArg.tuple a _ _ (ws.zip (prs.map (·.2)))) (I.ok.hd hcalm) ⟨let ⟨o, n, h1, h2, h3, h4⟩ := pl; ⟨o, n, h1, h2, h3, h4⟩, hpi⟩ ⟨by rw [hl, hzl], fun j k v e => ?_⟩ (by rw [hzl]; exact hz) fun h' tk hd' k => ?_
  · obtain ⟨e1, e2⟩ := List.getElem?_zip_eq_some.mp e
    have hj : j < ps.length := by
      have := (List.getElem?_eq_some_iff.mp e1).1
      omega
    obtain ⟨k', x, u, f1, f2, f3, f4⟩ := hpr j ps[j] (List.getElem?_eq_getElem hj)
    rw [f2] at e1; cases e1
    rw [List.getElem?_map, f1] at e2
    cases e2
    exact ⟨k', f1, f4⟩
  · have hm : (s.heap.objs.size == sysModules) = false := beq_eq_false_iff_ne.mpr (Nat.ne_of_gt I.big)
    have hlen : (mergeK [] kvs).length ≤ sizeLine := by
      refine Nat.le_trans (length_mergeK kvs []) ?_
      rw [List.length_nil, Nat.zero_add, rel.length, hl]
      exact hz
    exact ⟨.ref s.heap.objs.size, upd H s.heap.objs.size (.dK (mergeK [] kvs)), I.laid (t' := tk) (fun b o e => k b o (by simp) e) (Nat.le_refl _) (show ObjOk X.prog X.w _ _ _ (.dK (mergeK [] kvs)) from ⟨hlen, hm, merged [] prs, KV.merge rel .nil, hd'⟩), rfl, q _ (I.hok.fresh (Nat.le_refl _))⟩
theorem dpairs_reps {K : KP} {G : Hp} : ∀ {ds : List D} {vs : List V} {ps : List (Str × D)}, dpairs ds = some ps → Reps K G ds vs →
    ∃ (as : List Addr) (qs : List (Str × V)), vs = as.map V.ref ∧ Paired (fun a q => SqT K G a [.str q.1, q.2]) as qs ∧ Paired (fun p q => p.1 = q.1 ∧ Rep K G p.2 q.2) ps qs
  | [], _, ps, h, r => by
    cases h
    exact ⟨[], [], r.nil_inv, .nil, .nil⟩
  | .tup [.str k, x] :: ds, _, ps, h, r => by
    obtain ⟨v, t, rfl, q, r⟩ := r.cons_inv
    simp only [dpairs] at h
    cases hp : dpairs ds with
    | none => rw [hp] at h; cases h
    | some ps' =>
      rw [hp] at h
      cases h
      obtain ⟨as, qs, rfl, p1, p2⟩ := dpairs_reps hp r
      obtain ⟨a, us, rfl, s1, s2⟩ := q.tup_inv
      obtain ⟨w1, t1, rfl, z1, z2⟩ := s2.cons_inv
      obtain ⟨w2, rfl, z3⟩ := z2.one
      obtain rfl := z1.str_inv
      exact ⟨a :: as, (k, w2) :: qs, rfl, .cons s1 p1, .cons ⟨rfl, z3⟩ p2⟩
theorem cg_dict (hcalm : X.calm = true) : CallG X (.type "dict") dictD := by
  refine ⟨_, call_dictT hcalm, fun xs z e G H vs Q s rs k => ?_⟩
  unfold dictD at e
  split at e
  · rename_i ds
    cases hp : dpairs ds with
    | none => rw [hp] at e; cases e
    | some ps =>
      rw [hp] at e
      cases e
      obtain ⟨v, rfl, r⟩ := rs.one
      obtain ⟨a, us, rfl, q, rr⟩ := r.tup_pl
      obtain ⟨as, qs, rfl, p1, p2⟩ := dpairs_reps hp rr
      obtain ⟨m1, m2⟩ := dall_merge (ps := qs) (ks := []) (vs := []) rfl
      obtain ⟨d1, d2⟩ := dall_rep (ks := []) p2 (Reps.nil (K := X.kp) (G := G))
      have pp : ∀ {as : List Addr} {qs : List (Str × V)}, Paired (fun a q => SqT X.kp G a [.str q.1, q.2]) as qs → Paired (fun p (kv : Key × V) => SqT X.kp H p [kV kv.1, kv.2]) as (qs.map fun p => (Sum.inr p.1, p.2)) := fun {as qs} h => by
        induction h with
        | nil => exact .nil
        | cons h t ih => exact .cons (sqT_mono s h) ih
      refine ⟨a, as, qs.map fun p => (Sum.inr p.1, p.2), rfl, q.mono s, pp p1, fun p hp => ?_⟩
      have ex : Ext G H (upd G p (.dK (dkv (dall ([], []) qs).1 (dall ([], []) qs).2))) (upd H p (.dK (dkv (dall ([], []) qs).1 (dall ([], []) qs).2))) := Ext.new s hp _
      have m1 : mergeK [] (qs.map fun p => (Sum.inr p.1, p.2)) = dkv (dall ([], []) qs).1 (dall ([], []) qs).2 := m1
      rw [m1]
      refine k _ _ _ ex ?_
      show Rep X.kp _ (.dct (dall ([], []) ps).1 (dall ([], []) ps).2) _
      rw [d1]
      exact .dct_of (Rd.of upd_same) m2 (Reps.mono ex.le _ _ d2)
  · cases e
theorem bo_dict : bootBuiltins "dict" = some (.type "dict") := by first | rfl | decide +kernel
/-! ### d.get(k, e) -/
def dgetD : D → D → D → Option D
  | .dct ks ds, .str x, z => some ((dkey ks ds x).getD z)
  | _, _, _ => none
variable {Θ : List (Addr × Str)} {o e f : Expr} {mo me mf : M D} {apos cpos : Pos}
def isDct : D → Bool
  | .dct _ _ => true
  | _ => false
theorem m2_of (base : attributeBase o "get" X.env (eval o X.env) = eval o X.env := by rfl) (few : ((backTo cpos (starEach [e, f] X.env)).all (fun x => !x.1) && (backToKw cpos (keywordEach [] X.env)).all (fun x => x.1.isSome)
    && decide (([e, f] : List Expr).length + ([] : List Keyword).length + (if ([] : List Keyword).isEmpty then 0 else 1) < 30)) = true := by rfl) (line : (apos.endLine == cpos.line) = true := by rfl) (trees : backTo cpos (starEach [e, f] X.env) = [(false, eval e X.env), (false, eval f X.env)] := by rfl) : M2 X o "get" apos e f cpos := ⟨base, few, line, trees⟩
theorem se_get2 (hu : X.A.units + 200 < cLine) (ho : SE Θ X o mo) (he : SE Θ X e me) (hf : SE Θ X f mf) (m : M2 X o "get" apos e f cpos) :
    SE Θ X (.Call (.Attribute o "get" apos) [e, f] [] cpos) (bd mo fun d => bd (if isDct d then me else fun _ => none) fun x => bd mf fun z => of (dgetD d x z)) := pe_imp (pe_dget2 (by omega) ho he hf m) fun σ H Q q => by
  obtain ⟨G, r0, R, c⟩ := q
  refine ⟨G, r0, R, (cn_bd c).mono fun d G1 H1 ⟨r1, R1, s1, c1⟩ vd rd => ?_⟩
  cases d with
  | dct ks ds =>
    obtain ⟨a, vs, rfl, q, l, rs⟩ := rd.dct_inv
    refine ⟨a, rfl, .inl ⟨_, rd_mono R1.sub q⟩, G1, r1, R1, (cn_bd c1).mono fun x G2 H2 ⟨r2, R2, s2, c2⟩ vx rx => ⟨G2, r2, R2, (cn_bd c2).mono fun y G3 H3 ⟨r3, R3, s3, c3⟩ vy ry => ?_⟩⟩
    obtain ⟨z, hz, k⟩ := cn_of R3 c3
    cases x with
    | str x =>
      simp only [dgetD] at hz
      cases hz
      obtain rfl := rx.str_inv
      refine ⟨_, dget_of (K := X.kp) ((s2.trans s3).trans R3.sub) q x, ?_⟩
      rcases dkey_rep (ks := ks) (x := x) (Reps.mono (s2.trans s3) _ _ rs) with ⟨e1, e2⟩ | ⟨d', v', e1, e2, r'⟩
      · rw [e1] at k; rw [e2]
        exact k G3 H3 (Ext.refl _ _) _ ry
      · rw [e1] at k; rw [e2]
        exact k G3 H3 (Ext.refl _ _) _ r'
    | _ => cases hz
  | _ =>
    obtain ⟨d', r', e, _⟩ := c1
    cases e
end
end Pk

set_option maxHeartbeats 1000000
namespace Pk
open PySem PySem.Spec PyProof.Rows L2
/-! ### dict comprehensions -/
def compDM (f : D → Ro → Option Ro) (tk tv : M D) (vs : List Nat) : List D → List Str × List D → M (List Str × List D)
  | [], acc => fun r => some (acc, r)
  | d :: ds, acc => fun r => match f d r with
    | none => none
    | some r1 => match tk r1 with
      | some (.str x, r2) => match tv r2 with
        | some (y, r3) => if acc.1.length < sizeLine then compDM f tk tv vs ds (dput acc.1 acc.2 x y) (wipeR r3 vs) else none
        | none => none
      | _ => none
def dcM (mi : M (List D)) (f : D → Ro → Option Ro) (tk tv : M D) (vs : List Nat) : M D := bd mi fun ds r => if okW r vs then match compDM f tk tv vs ds ([], []) (wipeR r vs) with
    | some (res, r') => some (.dct res.1 res.2, back r r' vs)
    | none => none
  else none
section
variable {Θ : List (Addr × Str)} {K : KP} {σ : L2.St} {H : Hp}
theorem side_relD {G : Hp} {r : Ro} (R : Rel Θ K G H r σ) {p : Addr} {kvs kvs' : List (Key × V)} (hG : G p = none) (hO : ¬ Owned r σ p) (hn : H p = some (.dK kvs)) : Rel Θ K G (upd H p (.dK kvs')) r σ := by
  refine ⟨R.len, fun b u e => ?_, R.get, fun j q ds z => ?_, R.sep, R.tab.upd (fun ts z => by rw [hn] at z; cases z) (fun c q z => by rw [hn] at z; unfold LamX.CodeO at z; cases z)⟩
  · rw [upd_ne (fun z => by subst z; rw [hG] at e; cases e)]
    exact R.sub _ _ e
  · obtain ⟨a, us, h1, h2, h3⟩ := R.own j q ds z
    exact ⟨a, us, h1, by rw [upd_ne (fun z' => by subst z'; exact hO ⟨j, q, ds, z, h1⟩)]; exact h2, h3⟩
theorem frz_relD {G : Hp} {r : Ro} (R : Rel Θ K G H r σ) {p : Addr} {o : HO} (hH : H p = some o) (hG : G p = none) (hO : ¬ Owned r σ p) (ht : tf o = true) : Rel Θ K (upd G p o) H r σ := by
  have le : Same G (upd G p o) := same_new hG _
  refine ⟨R.len, fun b u e => ?_, fun j d z => ?_, fun j q ds z => ?_, R.sep, R.tab.ok, fun e he => ?_, fun b ts z => ?_⟩
  · by_cases q : b = p
    · subst q; rw [upd_same] at e; cases e; exact hH
    · rw [upd_ne q] at e; exact R.sub _ _ e
  · obtain ⟨v, h1, h2⟩ := R.get j d z
    exact ⟨v, h1, Rep.mono le _ _ h2⟩
  · obtain ⟨a, us, h1, h2, h3, h4⟩ := R.own j q ds z
    exact ⟨a, us, h1, h2, by rw [upd_ne (fun z' => by subst z'; exact hO ⟨j, q, ds, z, h1⟩)]; exact h3, Reps.mono le _ _ h4⟩
  · obtain ⟨ps, a1, _⟩ := R.tab.ok e he
    rw [upd_ne (fun z => by rw [z, hH] at a1; cases a1; cases ht)]
    exact R.tab.out e he
  · by_cases q : b = p
    · subst q; rw [upd_same] at z; cases z; cases ht
    · rw [upd_ne q] at z; exact R.tab.cl _ _ z
theorem dc_coreD {J : It} {ds : List D} {f : D → Ro → Option Ro} {tk tv : M D} {vs : List Nat} {G0 H0 : Hp} {r0 : Ro} {Q : V → Hp → Prop} {C : Hp → Prop} {res : List Str × List D} {rf : Ro} {p : Addr}
    (hW : Wk K J ds G0 C) (hC : ∀ H, C H) (R0 : Rel Θ K G0 H0 r0 (wipe σ vs)) (hw0 : ∀ j, j ∈ vs → ∀ x, r0[j]? ≠ some (some x)) (hp : H0 p = none) (c0 : compDM f tk tv vs ds ([], []) r0 = some (res, rf))
    (hQ : ∀ G H us, Rel Θ K G H rf (wipe σ vs) → (∀ j, j ∈ vs → ∀ x, rf[j]? ≠ some (some x)) → Fr G0 H0 r0 (wipe σ vs) G H rf (wipe σ vs) → H p = some (.dK (dkv res.1 us)) → res.1.length = us.length → G p = none → ¬ Owned rf (wipe σ vs) p → Reps K G res.2 us → Q (.ref p) H) :
    ∃ W : Nat → Nat → Hp → Prop, (∃ m, W 0 m (upd H0 p (.dK []))) ∧ ∀ i m H, W i m H →
      (J.stop i H ∧ Q (.ref p) H) ∨ (J.go i H ∧ ∃ Nx : Hp → Prop, (∀ H', Nx H' → ∃ m', m' < m ∧ W (i + 1) m' H') ∧ ∀ x H', J.yld i H x H' → rdW Θ K vs f x (wipe σ vs) H' fun σ2 H2 => wipe σ2 vs = wipe σ vs ∧ rdT Θ K (rt true) σ2 H2 fun b H3 =>
        if b = true then rdE Θ K tk σ2 H3 fun y H4 => rdE Θ K tv σ2 H4 fun z H5 => ∃ kvs k, y = kV k ∧ H5 p = some (.dK kvs) ∧ kvs.length < sizeLine ∧ Nx (upd H5 p (.dK (putK kvs k z))) else Nx H3) := by
  have gp0 : G0 p = none := free_of R0.sub hp
  have op0 : ¬ Owned r0 (wipe σ vs) p := fun ⟨j, q, fs, z1, z2⟩ => by
    obtain ⟨a, us, h1, h2, _⟩ := R0.own j q fs z1
    rw [h1] at z2
    cases z2
    rw [hp] at h2; cases h2
  let St := fun (G H : Hp) (r : Ro) (us : List V) (acc : List Str × List D) => Rel Θ K G H r (wipe σ vs) ∧ (∀ j, j ∈ vs → ∀ x, r[j]? ≠ some (some x)) ∧ Fr G0 H0 r0 (wipe σ vs) G H r (wipe σ vs) ∧ H p = some (.dK (dkv acc.1 us)) ∧ acc.1.length = us.length ∧ G p = none ∧ ¬ Owned r (wipe σ vs) p ∧ Reps K G acc.2 us
  refine ⟨fun i m H => m = ds.length - i ∧ i ≤ ds.length ∧ ∃ G r us acc, St G H r us acc ∧ compDM f tk tv vs (ds.drop i) acc r = some (res, rf), ⟨ds.length, by simp, Nat.zero_le _, G0, r0, [], ([], []), ⟨side_rel R0 gp0 op0 (.inl hp), hw0, ?_, upd_same, rfl, gp0, op0, .nil⟩, by simpa using c0⟩, ?_⟩
  · exact ⟨Same.refl _, fun b u e _ n => ⟨by rw [upd_ne (ne_of_none e hp)]; exact e, n, fun z => z⟩, fun j ds z => ⟨⟨ds, z⟩, rfl⟩, fun j z => ⟨z, rfl⟩, fun b h => same_nw (same_new hp _) h⟩
  rintro i m H ⟨rfl, hi, G, r, us, acc, ⟨R, hw, F, hHp, hln, hGp, hOp, rs⟩, c⟩
  obtain ⟨w1, w2⟩ := hW G H F.le R.sub (hC _)
  by_cases hlt : i < ds.length
  · have hd : ds[i]? = some ds[i] := List.getElem?_eq_getElem hlt
    obtain ⟨g, y⟩ := w2 i _ hd
    rw [List.drop_eq_getElem_cons hlt] at c
    simp only [compDM] at c
    cases e1 : f ds[i] r with
    | none => rw [e1] at c; cases c
    | some r1 =>
      rw [e1] at c
      dsimp only at c
      refine .inr ⟨g, fun H' => ∃ G' r' us' acc', St G' H' r' us' acc' ∧ compDM f tk tv vs (ds.drop (i + 1)) acc' r' = some (res, rf), fun H' ⟨G', r', us', acc', st', c'⟩ => ⟨ds.length - (i + 1), by omega, rfl, hlt, G', r', us', acc', st', c'⟩, fun x H1 hy => ?_⟩
      obtain ⟨G1, ex, rx⟩ := y x H1 hy
      refine ⟨G1, r, _, r1, ex.rel R, rx, e1, fun σ2 R2 F2 ws => ?_⟩
      rw [wipe_wipe] at ws
      have F1 : Fr G H r (wipe σ vs) G1 H1 r1 σ2 := (ex.fr r _).trans F2
      refine ⟨ws, ?_⟩
      have fin : ∀ (G5 H5 : Hp) (r5 : Ro), Rel Θ K G5 H5 r5 σ2 → Fr G H r (wipe σ vs) G5 H5 r5 σ2 → Rel Θ K G5 H5 (wipeR r5 vs) (wipe σ vs) ∧ Fr G H r (wipe σ vs) G5 H5 (wipeR r5 vs) (wipe σ vs) := fun G5 H5 r5 R5 F5 => by
        have Rw := wipe_rel (vs := vs) R5
        rw [ws] at Rw
        refine ⟨Rw, F5.le, fun b u e t n => ?_, fun j fs z => ?_, fun j z => ?_, F5.mono⟩
        · obtain ⟨h1, h2, h3⟩ := F5.keep b u e t n
          refine ⟨h1, fun z => h2 ?_, h3⟩
          rw [← ws] at z
          exact wipe_owned z
        · have hj : j ∉ vs := fun hj => hw j hj _ z
          obtain ⟨⟨fs', h1⟩, h2⟩ := F5.pin j fs z
          exact ⟨⟨fs', by rw [wipeR_out hj]; exact h1⟩, rfl⟩
        · have hj : j ∉ vs := fun hj => hw j hj _ z
          obtain ⟨h1, h2⟩ := F5.lck j z
          exact ⟨by rw [wipeR_out hj]; exact h1, rfl⟩
      have hww : ∀ (r5 : Ro) (j : Nat), j ∈ vs → ∀ x, (wipeR r5 vs)[j]? ≠ some (some x) := fun r5 j hj x z => (wipeR_get z).2 hj
      refine ⟨G1, r1, R2, true, r1, rfl, fun G3 H3 R3 F3 => ?_⟩
      have F13 := F1.trans F3
      dsimp only
      rw [if_pos rfl]
      cases e2 : tk r1 with
      | none => rw [e2] at c; cases c
      | some q =>
        obtain ⟨kk, r2⟩ := q
        rw [e2] at c
        refine ⟨G3, r1, R3, kk, r2, e2, fun G4 H4 R4 F4 vk rk => ?_⟩
        cases kk with
        | str w =>
          dsimp only at c
          obtain rfl := rk.str_inv
          cases e3 : tv r2 with
          | none => rw [e3] at c; cases c
          | some q =>
            obtain ⟨yy, r3⟩ := q
            rw [e3] at c
            dsimp only at c
            refine ⟨G4, r2, R4, yy, r3, e3, fun G5 H5 R5 F5 vy ry => ?_⟩
            have F15 := (F13.trans F4).trans F5
            obtain ⟨Rw, Fw⟩ := fin G5 H5 r3 R5 F15
            obtain ⟨k1, k2, k3⟩ := Fw.keep p _ hHp rfl hOp
            split at c
            · rename_i hl
              obtain ⟨d1, d2⟩ := dput_rep (ks := acc.1) (x := w) (Reps.mono Fw.le _ _ rs) ry
              refine ⟨dkv acc.1 us, .inr w, rfl, k1, by rw [dkv_len hln]; exact hl, G5, wipeR r3 vs, (dput acc.1 us w vy).2, dput acc.1 acc.2 w yy, ⟨?_, hww r3, ?_, ?_, ?_, k3 hGp, k2, d2⟩, c⟩
              · rw [dkv_put hln]; exact side_relD Rw (k3 hGp) k2 k1
              · have FF := F.trans Fw
                exact ⟨FF.le, fun b u e t n => by
                  obtain ⟨h1, h2, h3⟩ := FF.keep b u e t n
                  exact ⟨by rw [upd_ne (ne_of_none e hp)]; exact h1, h2, h3⟩, FF.pin, FF.lck, fun b h => FF.mono b (by
                    by_cases e : b = p
                    · subst e; cases h _ upd_same
                    · exact fun u z => h u (by rw [upd_ne e]; exact z))⟩
              · rw [upd_same, dkv_put hln, d1]
              · rw [d1]; exact dput_len hln
            · cases c
        | _ => cases c
  · have e : i = ds.length := by omega
    subst e
    rw [List.drop_length] at c
    simp only [compDM] at c
    cases c
    exact .inl ⟨w1 _ (Nat.le_refl _), hQ G H us R hw F hHp hln hGp hOp rs⟩
theorem dc_read {mi : M (List D)} {f : D → Ro → Option Ro} {tk tv : M D} {vs : List Nat} {Q : VK} (q : rdE Θ K (dcM mi f tk tv vs) σ H Q) : tDc (rdI Θ K mi) (rdW Θ K vs f) (rdT Θ K (rt true)) (rdE Θ K tk) (rdE Θ K tv) vs σ H Q := by
  obtain ⟨G, r, R, c⟩ := q
  refine ⟨G, r, R, (cn_bd c).mono fun ds G1 H1 ⟨r1, R1, s1, c1⟩ J hW p hp => ?_⟩
  obtain ⟨d, r', e, k⟩ := c1
  split at e
  · rename_i hok
    cases e2 : compDM f tk tv vs ds ([], []) (wipeR r1 vs) with
    | none => rw [e2] at e; cases e
    | some q =>
      obtain ⟨res, rf⟩ := q
      rw [e2] at e
      cases e
      refine dc_coreD (C := fun _ => True) hW (fun _ => trivial) (wipe_rel R1) (fun j hj x z => (wipeR_get z).2 hj) hp e2 fun G2 H2 us R2 hw2 F2 h1 hln h2 h3 h4 => ?_
      obtain ⟨R3, F3⟩ := back_rel hok R1 R2 hw2 F2
      have le : Same G2 (upd G2 p (.dK (dkv res.1 us))) := same_new h2 _
      have h3' : ¬ Owned (back r1 rf vs) σ p := fun ⟨j, q, fs, z1, z2⟩ => by
        obtain ⟨a, us', g1, g2, _⟩ := R3.own j q fs z1
        rw [z2] at g1; cases g1
        by_cases hj : j ∈ vs
        · have hlt : j < rf.length := by
            have := (List.getElem?_eq_some_iff.mp z1).1
            rwa [back_length] at this
          rw [back_in hlt (by rw [R2.len, wipe_length, ← R1.len] at hlt; exact hlt) hj] at z1
          rcases okW_at hok hj with e | ⟨d, e⟩ <;> (rw [e] at z1; cases z1)
        · rw [back_out hj] at z1
          exact h3 ⟨j, q, fs, z1, by rw [wipe_outS hj]; exact z2⟩
      refine k (upd G2 p (.dK (dkv res.1 us))) H2 (frz_relD R3 h1 h2 h3' rfl) ⟨F3.le.trans le, fun b u e t n => ?_, F3.pin, F3.lck, F3.mono⟩ (.ref p) (.dct_of (Rd.of upd_same) hln (Reps.mono le _ _ h4))
      obtain ⟨g1, g2, g3⟩ := F3.keep b u e t n
      exact ⟨g1, g2, fun z => by rw [upd_ne (ne_of_none e hp)]; exact g3 z⟩
  · cases e
variable {X : Cx} {tg iter kx vx : Expr} {pos : Pos} {mi : M (List D)} {f : D → Ro → Option Ro} {tk tv : M D}
theorem se_dc {scope : Scope} {own : List (Str × Nat)} (hc : X.calm = true) (hN : X.N.Nodup) (hi : SI Θ X tg iter mi) (ok : BlkOk X.N X.env.scope scope own)
    (hg : ∀ (s : Shared) (H : Hp) (C : Addr) (cl : List (Str × Addr)) (fp : List Addr), SGw Θ (X.blk s H scope (compEnvC scope cl C X.env) fp) (own.map (·.2)) tg f)
    (hk : ∀ (s : Shared) (H : Hp) (C : Addr) (cl : List (Str × Addr)) (fp : List Addr), SE Θ (X.blk s H scope (compEnvC scope cl C X.env) fp) kx tk)
    (he : ∀ (s : Shared) (H : Hp) (C : Addr) (cl : List (Str × Addr)) (fp : List Addr), SE Θ (X.blk s H scope (compEnvC scope cl C X.env) fp) vx tv) (hs : ∀ x, foldedSetIterable iter X.env x = pure x := by intro _; rfl) :
    SE Θ X (.DictComp kx vx [⟨tg, iter, [], 0⟩] scope pos) (dcM mi f tk tv (own.map (·.2))) :=
  pe_imp (pe_dc hc hN hi ok hg (fun _ _ _ _ _ => sq_nil) hk he hs) fun σ H Q q => dc_read q
end
end Pk

namespace Pk
open PySem PySem.Spec PyProof.Rows L2
theorem roomG {k : Nat} {A : Around} (env : Env) (r : Room (k + 1) A) : Room k (A.in1.in1.deeper env) :=
  ⟨r.hd, by have := r.dp; show A.depth + 1 + 3 * k + 5 < _; omega, by have := r.un; show A.units + 1 + 1 + 3 + 16 * k + 200 < _; omega⟩
theorem tab_uni {L : List (Addr × Str)} {Ps : List Addr} (h : Ps.Nodup) {P : Addr} {q : Str} (m : (P, q) ∈ L) (e : L.map (·.1) = Ps := by rfl) : ∀ p ∈ L, p.1 = P → p.2 = q := by
  subst e
  revert h m
  induction L with
  | nil => intro m; cases m
  | cons x L ih =>
    intro m h p hp hpe
    rw [List.map_cons, List.nodup_cons] at h
    rcases List.mem_cons.mp hp with rfl | hp2
    · rcases List.mem_cons.mp m with rfl | m
      · rfl
      · exact absurd (List.mem_map.mpr ⟨_, m, hpe.symm⟩) h.1
    · rcases List.mem_cons.mp m with rfl | m
      · exact (h.1 (List.mem_map.mpr ⟨p, hp2, hpe⟩)).elim
      · exact ih m h.2 p hp2 hpe
theorem tab_all {H : Hp} {L : List (Addr × Str)} {cs : List (Addr × Addr)} {Ps : List Addr} (_ : Ps.Nodup) (e : cs.map (·.2) = L.map (·.1)) (ht : ∀ p ∈ cs, H p.2 = some (.tbl #[])) : ∀ e ∈ L, H e.1 = some (.tbl #[]) := fun x hx => by
  have : x.1 ∈ cs.map (·.2) := by rw [e]; exact List.mem_map.mpr ⟨x, hx, rfl⟩
  obtain ⟨p, hp, q⟩ := List.mem_map.mp this
  rw [← q]; exact ht p hp
/-- d.get(k, e) -/
theorem w_get2 {P : D → Ro → Prop} {r : Ro} {ks : List Str} {ds : List D} {me : M D} {mf : M D} (h : wp me (fun x r1 => wp mf (fun z r2 => wp (of (dgetD (.dct ks ds) x z)) P r2) r1) r) :
    wp (bd (if isDct (.dct ks ds) = true then me else fun _ => none) fun x => bd mf fun z => of (dgetD (.dct ks ds) x z)) P r := by
  rw [show isDct (.dct ks ds) = true from rfl, if_pos rfl]
  exact w_bd (w_mono h fun x r1 q => w_bd q)
theorem o_get {P : D → Ro → Prop} {r : Ro} {ks : List Str} {ds : List D} {x : Str} {z : D} (h : P ((dkey ks ds x).getD z) r) : wp (of (dgetD (.dct ks ds) (.str x) z)) P r := w_of rfl h
end Pk

set_option maxHeartbeats 1000000
namespace Pk
open PySem PySem.Spec PyProof.Rows L2
theorem fn_okD {Θ : List (Addr × Str)} {P : Program} {w : World} {K : PySem.W.Frag} {mg : Str → Option Value} {base : Heap} {x qual : Str} {st : Stmt} {f c : Addr} {fd : FuncData} {N ps : List Str} {k n nl : Nat} {m : M Fl} (F : FunC K x qual st f fd c) (Sc : FnScope N ps (defScope st)) (hn : ps.length = n) (hN : N.length = n + nl)
    (hbody : ∀ (A : Around) (outer : List Env) (s : Shared) (H : Hp) (E : XK), Room k (A.deeper (envOfC qual (defScope st) s.heap.objs.size f (.ref c))) →
      SB Θ (cxOf CX0 P w K mg base N qual (defScope st) f (.ref c) A outer s H E).nox (defBody st) m) : FnOk P w K mg base CX0 (k + 1) f fd ps (spF Θ ⟨K, P, w⟩ n (bodyF n nl m)) :=
  fn_okC F Sc hn hN fun A outer s H E hr => (hbody A outer s H E hr).nox
/-! ### a comprehension, its list one's own -/
def lcF (mi : M (List D)) (f : D → Ro → Option Ro) (t : M Bool) (e : M D) (vs : List Nat) : M (List D) := bd mi fun ds r => if okW r vs then match compM f t e vs ds [] (wipeR r vs) with
    | some (res, r') => some (res, back r r' vs)
    | none => none
  else none
section
variable {Θ : List (Addr × Str)} {K : KP} {σ : L2.St} {H : Hp}
theorem back_no {G G2 : Hp} {H2 : Hp} {r1 rf : Ro} {vs : List Nat} (hok : okW r1 vs = true) (R1 : Rel Θ K G H r1 σ) (R2 : Rel Θ K G2 H2 rf (wipe σ vs)) (R3 : Rel Θ K G2 H2 (back r1 rf vs) σ) {p : Addr} (h3 : ¬ Owned rf (wipe σ vs) p) : ¬ Owned (back r1 rf vs) σ p := fun ⟨j, q, fs, z1, z2⟩ => by
  obtain ⟨a, us, g1, g2, _⟩ := R3.own j q fs z1
  rw [z2] at g1; cases g1
  by_cases hj : j ∈ vs
  · have hlt : j < rf.length := by
      have := (List.getElem?_eq_some_iff.mp z1).1
      rwa [back_length] at this
    rw [back_in hlt (by rw [R2.len, wipe_length, ← R1.len] at hlt; exact hlt) hj] at z1
    rcases okW_at hok hj with e | ⟨d, e⟩ <;> (rw [e] at z1; cases z1)
  · rw [back_out hj] at z1
    exact h3 ⟨j, q, fs, z1, by rw [wipe_outS hj]; exact z2⟩
theorem lcF_read {mi : M (List D)} {f : D → Ro → Option Ro} {t : M Bool} {me : M D} {vs : List Nat} {Q : VK} (q : rdF Θ K (lcF mi f t me vs) σ H Q) : tLc (rdI Θ K mi) (rdW Θ K vs f) (rdT Θ K t) (rdE Θ K me) vs σ H Q := by
  obtain ⟨G, r, R, res, r', e, k⟩ := q
  obtain ⟨ds, r1, e1, e2⟩ := bd_some e
  refine ⟨G, r, R, ds, r1, e1, fun G1 H1 R1 F1 J hW p hp => ?_⟩
  split at e2
  · rename_i hok
    cases e3 : compM f t me vs ds [] (wipeR r1 vs) with
    | none => rw [e3] at e2; cases e2
    | some q =>
      obtain ⟨res', rf⟩ := q
      rw [e3] at e2
      cases e2
      refine comp_core (C := fun _ => True) (P := fun _ _ _ => True) hW (fun _ _ _ _ _ _ _ _ => trivial) (fun _ _ _ _ _ => trivial) (fun _ _ _ _ => trivial) trivial (wipe_rel R1) (fun j hj x z => (wipeR_get z).2 hj) hp e3 fun G2 H2 acc R2 hw2 F2 h1 h2 h3 h4 => ?_
      obtain ⟨R3, F3⟩ := back_rel hok R1 R2 hw2 F2
      exact k G2 H2 p acc R3 (F1.trans F3) (F1.mono p (nw_none hp)) h1 h2 (back_no hok R1 R2 R3 h3) h4
  · cases e2
/-- over a list of one's own -/
def lcOF (i : Nat) (f : D → Ro → Option Ro) (t : M Bool) (e : M D) (vs : List Nat) : M (List D) := fun r => match r[i]? with
  | some (some (.own p ds)) => match lcF (rt ds) f t e vs (r.set i (some .lock)) with
    | some (d, r') => some (d, r'.set i (some (.own p ds)))
    | none => none
  | _ => none
theorem lcOF_read {i : Nat} {f : D → Ro → Option Ro} {t : M Bool} {me : M D} {vs : List Nat} {Q : VK} (hni : i ∉ vs) (q : rdF Θ K (lcOF i f t me vs) σ H Q) :
    tLc (iList K (tVar i)) (rdW Θ K vs f) (rdT Θ K t) (rdE Θ K me) vs σ H Q := by
  obtain ⟨G, r, R, d, r', e, k⟩ := q
  unfold lcOF at e
  split at e
  · rename_i p ds hi
    split at e
    · rename_i d' rb e1
      cases e
      unfold lcF at e1
      obtain ⟨ds', r1, e2, e3⟩ := bd_some e1
      obtain ⟨rfl, rfl⟩ := rt_some e2
      obtain ⟨a, us, h1, h2, h3, h4⟩ := R.own i p ds' hi
      have R1 := lock_rel R hi
      refine ⟨.ref a, h1, a, rfl, ⟨us, SqL.of h2⟩, fun pp hp => ?_⟩
      split at e3
      · rename_i hok
        cases e4 : compM f t me vs ds' [] (wipeR (r.set i (some .lock)) vs) with
        | none => rw [e4] at e3; cases e3
        | some q =>
          obtain ⟨res, rf⟩ := q
          rw [e4] at e3
          cases e3
          have na0 : ¬ Owned (wipeR (r.set i (some .lock)) vs) (wipe σ vs) a := fun o => by
            obtain ⟨j, q, es, n, z, e⟩ := lock_own hi (wipe_owned o)
            exact n (R.sep j i q es p ds' a z hi e h1)
          refine comp_core (C := fun H => H a = some (.lst us)) (P := fun G H r => H a = some (.lst us) ∧ G a = none ∧ ¬ Owned r (wipe σ vs) a) (wk_own h4)
            (fun G H r G' H' r' pq F => by
              obtain ⟨g1, g2, g3⟩ := pq
              obtain ⟨k1, k2, k3⟩ := F.keep a _ g1 rfl g3
              exact ⟨k1, k3 g2, k2⟩)
            (fun G H r o pq => ⟨by rw [upd_ne (fun z => by subst z; rw [hp] at h2; cases h2)]; exact pq.1, pq.2⟩) (fun _ _ _ pq => pq.1) ⟨h2, h3, na0⟩ (wipe_rel R1) (fun j hj x z => (wipeR_get z).2 hj) hp e4 fun G2 H2 acc R2 hw2 F2 h1' h2' h3' h4' => ?_
          obtain ⟨R3, F3⟩ := back_rel hok R1 R2 hw2 F2
          have no := back_no hok R1 R2 R3 h3'
          obtain ⟨l1, R5, F5⟩ := unlock R hi h1 h2 h3 h4 R3 F3
          refine k G2 H2 pp acc R5 F5 (nw_none hp) h1' h2' (fun ⟨j, q, fs, z1, z2⟩ => ?_) h4'
          by_cases hj : j = i
          · subst hj
            rw [h1] at z2; cases z2
            rw [hp] at h2; cases h2
          · rw [List.getElem?_set_ne (fun e => hj e.symm)] at z1
            exact no ⟨j, q, fs, z1, z2⟩
      · cases e3
    · cases e
  · cases e
variable {X : Cx} {tg iter e e2 : Expr} {pos : Pos} {i j : Nat} {ma mb : M D}
theorem asgF_read {i : Nat} {t : TE} {ml : M (List D)} (hr : ∀ σ H Q, rdF Θ X.kp ml σ H Q → t σ H Q) {σ : L2.St} {H : Hp} {E : Ends} (q : rdS Θ X.kp (bd ml fun ds => nxt (setO i ds)) E σ H) : tAsg t (gName i) E σ H := by
  obtain ⟨G, r, R, f, r', e, k⟩ := q
  obtain ⟨ds, r1, e1, e2⟩ := bd_some e
  refine hr σ H _ ⟨G, r, R, ds, r1, e1, fun G1 H1 p vs R1 F1 h1 h2 h3 h4 h5 => ?_⟩
  obtain ⟨r3, e3, e4⟩ := nxt_some e2
  cases e4
  obtain ⟨R', F'⟩ := setN_rel R1 e3 h5 h2 h3 h4
  exact k G1 H1 _ R' (F' h1 F1)
theorem ss_setLcF {y : Str} {py spos : Pos} {elt : Expr} {ifs : List Expr} {scope : Scope} {own : List (Str × Nat)} {mi : M (List D)} {f : D → Ro → Option Ro} {t : M Bool} {me : M D} (hc : X.calm = true) (hN : X.N.Nodup) (hy : X.N[i]? = some y) (hyl : X.env.scope.names.lookup y = some .local)
    (hsw : swapsWith (.ListComp elt [⟨tg, iter, ifs, 0⟩] scope pos) (some (.Name y py)) spos.line X.env = pure true) (hi : SI Θ X tg iter mi) (ok : BlkOk X.N X.env.scope scope own)
    (hg : ∀ (s : Shared) (H : Hp) (C : Addr) (cl : List (Str × Addr)) (fp : List Addr), SGw Θ (X.blk s H scope (compEnvC scope cl C X.env) fp) (own.map (·.2)) tg f) (ht : ∀ (s : Shared) (H : Hp) (C : Addr) (cl : List (Str × Addr)) (fp : List Addr), SQ Θ (X.blk s H scope (compEnvC scope cl C X.env) fp) ifs t)
    (he : ∀ (s : Shared) (H : Hp) (C : Addr) (cl : List (Str × Addr)) (fp : List Addr), SE Θ (X.blk s H scope (compEnvC scope cl C X.env) fp) elt me) (hs : ∀ x, foldedSetIterable iter X.env x = pure x := by intro _; rfl) :
    SS Θ X (.Assign [.Name y py] (.ListComp elt [⟨tg, iter, ifs, 0⟩] scope pos) spos) (bd (lcF mi f t me (own.map (·.2))) fun ds => nxt (setO i ds)) :=
  ps_imp (ps_setLc hc hN hy hyl hsw hi ok hg ht he hs) fun σ H E q => asgF_read (fun _ _ _ z => lcF_read z) q
theorem ss_setLcOF {y : Str} {py spos : Pos} {elt : Expr} {ifs : List Expr} {scope : Scope} {own : List (Str × Nat)} {f : D → Ro → Option Ro} {t : M Bool} {me : M D} (hc : X.calm = true) (hN : X.N.Nodup) (hy : X.N[i]? = some y) (hyl : X.env.scope.names.lookup y = some .local)
    (hsw : swapsWith (.ListComp elt [⟨tg, iter, ifs, 0⟩] scope pos) (some (.Name y py)) spos.line X.env = pure true) (hi : PE X iter (tVar j)) (hni : j ∉ own.map (·.2)) (ok : BlkOk X.N X.env.scope scope own)
    (hg : ∀ (s : Shared) (H : Hp) (C : Addr) (cl : List (Str × Addr)) (fp : List Addr), SGw Θ (X.blk s H scope (compEnvC scope cl C X.env) fp) (own.map (·.2)) tg f) (ht : ∀ (s : Shared) (H : Hp) (C : Addr) (cl : List (Str × Addr)) (fp : List Addr), SQ Θ (X.blk s H scope (compEnvC scope cl C X.env) fp) ifs t)
    (he : ∀ (s : Shared) (H : Hp) (C : Addr) (cl : List (Str × Addr)) (fp : List Addr), SE Θ (X.blk s H scope (compEnvC scope cl C X.env) fp) elt me) (hs : ∀ x, foldedSetIterable iter X.env x = pure x := by intro _; rfl) :
    SS Θ X (.Assign [.Name y py] (.ListComp elt [⟨tg, iter, ifs, 0⟩] scope pos) spos) (bd (lcOF j f t me (own.map (·.2))) fun ds => nxt (setO i ds)) :=
  ps_imp (ps_setLc hc hN hy hyl hsw (pi_list hi) ok hg ht he hs) fun σ H E q => asgF_read (fun _ _ _ z => lcOF_read hni z) q
/-! ### the sum of two lists, one's own -/
def catF : D → D → Option (List D)
  | .lst x, .lst y => if x.length + y.length ≤ sizeLine then some (x ++ y) else none
  | _, _ => none
theorem sf_cat (ha : SE Θ X e ma) (hb : SE Θ X e2 mb) : SF Θ X (.BinOp e .Add e2 pos) (bd ma fun x => bd mb fun y => of (catF x y)) := pe_imp (pe_op op_catL' ha hb) fun σ H Q q => by
  obtain ⟨G, r, R, ds, r', e, k⟩ := q
  obtain ⟨x, r1, e1, e2⟩ := bd_some e
  obtain ⟨y, r2, e3, e4⟩ := bd_some e2
  obtain ⟨e5, rfl⟩ := of_some e4
  refine ⟨G, r, R, x, r1, e1, fun G1 H1 R1 F1 vx rx => ⟨G1, r1, R1, y, r', e3, fun G2 H2 R2 F2 vy ry => ?_⟩⟩
  unfold catF at e5
  split at e5
  · rename_i xs ys
    split at e5
    · rename_i hl
      cases e5
      obtain ⟨a, us, rfl, q1, w1⟩ := rx.lst_inv
      obtain ⟨b, ws, rfl, q2, w2⟩ := ry.lst_inv
      refine ⟨a, b, us, ws, rfl, rfl, rd_mono (F2.le.trans R2.sub) q1, rd_mono R2.sub q2, by rw [w1.length, w2.length]; exact hl, fun p hp => ?_⟩
      obtain ⟨R3, F3⟩ := new_side R2 hp (.lst (us ++ ws))
      obtain ⟨g, n⟩ := new_out R2 hp
      exact k G2 _ p _ R3 ((F1.trans F2).trans F3) ((F1.trans F2).mono p (nw_none hp)) upd_same g n ((Reps.mono F2.le _ _ w1).app w2)
    · cases e5
  · cases e5
end
/-! ### a list many times, one's own -/
theorem reps_rep {K : KP} {G : Hp} {ds : List D} {vs : List V} (r : Reps K G ds vs) : ∀ n : Nat, Reps K G (List.replicate n ds).flatten (List.replicate n vs).flatten
  | 0 => .nil
  | n + 1 => by
    rw [List.replicate_succ, List.replicate_succ, List.flatten_cons, List.flatten_cons]
    exact r.app (reps_rep r n)
def repF : D → D → Option (List D)
  | .lst x, .int k => if 0 ≤ k ∧ k < 2 ^ 62 ∧ x.length * k.toNat ≤ sizeLine then some (List.replicate k.toNat x).flatten else none
  | _, _ => none
theorem sf_rep {Θ : List (Addr × Str)} {X : Cx} {e e2 : Expr} {pos : Pos} {ma mb : M D} (ha : SE Θ X e ma) (hb : SE Θ X e2 mb) : SF Θ X (.BinOp e .Mult e2 pos) (bd ma fun x => bd mb fun y => of (repF x y)) := pe_imp (pe_op op_rep ha hb) fun σ H Q q => by
  obtain ⟨G, r, R, ds, r', e, k⟩ := q
  obtain ⟨x, r1, e1, e2⟩ := bd_some e
  obtain ⟨y, r2, e3, e4⟩ := bd_some e2
  obtain ⟨e5, rfl⟩ := of_some e4
  refine ⟨G, r, R, x, r1, e1, fun G1 H1 R1 F1 vx rx => ⟨G1, r1, R1, y, r', e3, fun G2 H2 R2 F2 vy ry => ?_⟩⟩
  unfold repF at e5
  split at e5
  · rename_i xs n
    split at e5
    · rename_i hl
      cases e5
      obtain ⟨a, us, rfl, q1, w1⟩ := rx.lst_eq
      obtain rfl := ry.int_inv
      obtain ⟨l1, l2, l3⟩ := hl
      refine ⟨a, n, us, rfl, rfl, R2.sub _ _ (F2.le _ _ q1), by omega, by omega, by rw [w1.length]; exact l3, fun p hp => ?_⟩
      obtain ⟨R3, F3⟩ := new_side R2 hp (.lst (List.replicate n.toNat us).flatten)
      obtain ⟨g, no⟩ := new_out R2 hp
      exact k G2 _ p _ R3 ((F1.trans F2).trans F3) ((F1.trans F2).mono p (nw_none hp)) upd_same g no (reps_rep (Reps.mono F2.le _ _ w1) n.toNat)
    · cases e5
  · cases e5
/-! ### what these come to -/
section
variable {P : List D → Ro → Prop} {r : Ro} {f : D → Ro → Option Ro} {t : M Bool} {me : M D} {vs : List Nat}
theorem w_lcF {mi : M (List D)} (h : wp mi (fun ds r1 => okW r1 vs = true ∧ wp (compM f t me vs ds []) (fun res r' => P res (back r1 r' vs)) (wipeR r1 vs)) r) : wp (lcF mi f t me vs) P r := by
  obtain ⟨ds, r1, e1, hok, res, r2, e2, q⟩ := h
  refine ⟨res, _, ?_, q⟩
  unfold lcF bd
  rw [e1]
  dsimp only
  rw [if_pos hok, e2]
theorem w_lcOF {i : Nat} {p : Bool} {ds : List D} (hi : r[i]? = some (some (.own p ds)))
    (hok : okW (r.set i (some .lock)) vs = true) (h : wp (compM f t me vs ds []) (fun res r' => P res ((back (r.set i (some .lock)) r' vs).set i (some (.own p ds)))) (wipeR (r.set i (some .lock)) vs)) : wp (lcOF i f t me vs) P r := by
  obtain ⟨res, r2, e2, q⟩ := h
  refine ⟨res, _, ?_, q⟩
  unfold lcOF
  rw [hi]
  dsimp only
  unfold lcF bd rt
  dsimp only
  rw [if_pos hok, e2]
theorem w_agM {P : D → Ro → Prop} {stop : Bool} {mi : M (List D)} (h : wp mi (fun ds r1 => okW r1 vs = true ∧ wp (allM stop f me vs ds) (fun b r' => P (.bl b) (back r1 r' vs)) (wipeR r1 vs)) r) : wp (agM stop mi f me vs) P r := by
  obtain ⟨ds, r1, e1, hok, b, r2, e2, q⟩ := h
  refine ⟨.bl b, _, ?_, q⟩
  unfold agM bd
  rw [e1]
  dsimp only
  rw [if_pos hok, e2]
/-- each element by itself: the slots behind an element are as before it -/
theorem w_allM {P : Bool → Ro → Prop} {stop : Bool} {ds : List D} (g : D → Bool) (hs : ∀ d ∈ ds, ∃ r1, f d r = some r1 ∧ wp me (fun y r3 => y = .bl (g d) ∧ wipeR r3 vs = r) r1) (h : P (if stop then ds.any g else ds.all g) r) : wp (allM stop f me vs ds) P r := by
  induction ds with
  | nil => refine ⟨_, _, rfl, ?_⟩; cases stop <;> simpa using h
  | cons d ds ih =>
    obtain ⟨r1, e1, y, r3, e3, rfl, e4⟩ := hs d (List.mem_cons_self ..)
    by_cases hg : g d = stop
    · refine ⟨stop, r, ?_, ?_⟩
      · simp only [allM]
        rw [e1]
        dsimp only
        rw [e3]
        dsimp only
        rw [if_pos hg, e4]
      · cases stop <;> simp_all
    · have : wp (allM stop f me vs ds) P r := ih (fun d' hd => hs d' (List.mem_cons_of_mem _ hd)) (by
        cases stop <;> simp_all)
      obtain ⟨b, r5, e5, q⟩ := this
      refine ⟨b, r5, ?_, q⟩
      simp only [allM]
      rw [e1]
      dsimp only
      rw [e3]
      dsimp only
      rw [if_neg hg, e4]
      exact e5
theorem w_dcM {P : D → Ro → Prop} {tk tv : M D} {mi : M (List D)} (h : wp mi (fun ds r1 => okW r1 vs = true ∧ wp (compDM f tk tv vs ds ([], [])) (fun res r' => P (.dct res.1 res.2) (back r1 r' vs)) (wipeR r1 vs)) r) : wp (dcM mi f tk tv vs) P r := by
  obtain ⟨ds, r1, e1, hok, res, r2, e2, q⟩ := h
  refine ⟨.dct res.1 res.2, _, ?_, q⟩
  unfold dcM bd
  rw [e1]
  dsimp only
  rw [if_pos hok, e2]
theorem w_compD {P : List Str × List D → Ro → Prop} {tk tv : M D} {ds : List D} (g : D → Str × D) : ∀ (acc : List Str × List D), acc.1.length + ds.length ≤ 10000 → 
    (∀ d ∈ ds, ∃ r1, f d r = some r1 ∧ wp tk (fun y r2 => y = .str (g d).1 ∧ wp tv (fun z r3 => z = (g d).2 ∧ wipeR r3 vs = r) r2) r1) → P (dall acc (ds.map g)) r → wp (compDM f tk tv vs ds acc) P r := by
  induction ds with
  | nil => intro acc _ _ h; exact ⟨_, _, rfl, h⟩
  | cons d ds ih =>
    intro acc hl hs h
    obtain ⟨r1, e1, y, r2, e2, rfl, z, r3, e3, rfl, e4⟩ := hs d (List.mem_cons_self ..)
    have hl' : acc.1.length < sizeLine := by
      rw [List.length_cons] at hl
      exact Nat.lt_of_lt_of_le (show acc.1.length < 10001 by omega) (by decide)
    have hd : (dput acc.1 acc.2 (g d).1 (g d).2).1.length ≤ acc.1.length + 1 := by
      unfold dput
      split
      · exact Nat.le_succ _
      · simp
    obtain ⟨b, r5, e5, q⟩ := ih (dput acc.1 acc.2 (g d).1 (g d).2) (by rw [List.length_cons] at hl; omega) (fun d' hd => hs d' (List.mem_cons_of_mem _ hd)) h
    refine ⟨b, r5, ?_, q⟩
    simp only [compDM]
    rw [e1]
    dsimp only
    rw [e2]
    dsimp only
    rw [e3]
    dsimp only
    rw [if_pos hl', e4]
    exact e5
end
end Pk

set_option maxHeartbeats 2000000
/-! the end of a law's row where several defs hold a lambda or a generator expression -/
namespace Pk
open PySem PySem.Spec PyProof.Rows L2
def Owns (K : PySem.W.Frag) (mg : Str → Option Value) (ms : List Str) (h : Heap) : Prop := ∀ m ∈ ms, ∀ f, mg m = some (.ref f) → LamX.OwnTab K f h
theorem walk_ofDefs {l : PySem.W.OpenLaw} {n k : Nat} {q : Program} {loose : List Str} {XP : (Str → Option Value) → Heap → Prop} {YP : World → Heap → Prop} {d : DefRec} {K : Params → PySem.W.Frag} {CX : World → CXT} {x : Str} {ms : List Str} (h1 : l.most = some n) (h2 : n ≤ sizeLine)
    (h3 : d.params.defaults = []) (h4 : Room k callerA) (h5 : (ms.all fun m => (recsOf q).any fun e => e.name == m) = true) (h6 : ∀ (w : World) (h : Heap), YP w h → (K w.params).In h)
    (Fm : ∀ (w : World) (mg : Str → Option Value) (fa : Addr) (h : Heap), YP w h → (K w.params).In h → h.Ns mainGlobals mg → mg d.name = some (.ref fa) → Owns (K w.params) mg ms h → LamX.LawAtS l w (K w.params) (CX w) k n x mg fa h)
    (h7 : ∀ (w : World) (H : Hp) (s : Shared) (e : Value) (s' : Shared), CX w [] H s (fun _ _ _ => False) e s' → False) : PySem.W.WalkO q loose XP YP l.row.toRowW d [] (fun f vs => PySem.call f vs) := by
  refine Att.attach_callB h1 h3 fun w t₀ t₁ mg mb fa ob pm cc dc ad ws zs Gd Yd g1 g2 g3 g4 g5 g6 g7 g8 g9 => ?_
  have kin := h6 w _ Yd
  have ow : Owns (K w.params) mg ms t₁.heap := by
    intro m hm f hf c P o1 fd1 e dd vs1 sl k1 k2 k3 k4 k5
    obtain ⟨dL, hL, eL⟩ := List.any_eq_true.mp (List.all_eq_true.mp h5 m hm)
    obtain ⟨a', o', fd', c', P', b1, b2, b3, b4, b5, ⟨⟨oc, vc, j1, _, j3, j4⟩, jP⟩⟩ := Gd.T.tab dL hL
    rw [show dL.name = m from beq_iff_eq.mp eL, hf] at b1
    cases b1
    rw [kin _ _ k1] at b2
    cases b2
    rw [k2] at b3
    cases b3
    rw [k3] at b4
    cases b4
    rw [kin _ _ k4] at j1
    cases j1
    cases j3
    rw [k5] at j4
    cases j4
    exact jP
  obtain ⟨fd, cs, sp, u1, u2, u3, u4, u5, u6⟩ := Fm w mg fa _ Yd kin Gd.T.g g4 ow
  refine LamX.law_callTs kin Gd.T.g Gd.T.b Gd.T.builtins Gd.T.nolimit g9 u1 u2 u3 Gd.T.bmain g5 g6 (Nat.le_trans g7 h2) h4 u6 u4 (fun H hH hS => u5 H ad zs g7 g8 hH hS) fun H e s' => ?_
  exact h7 w H t₁ e s'
theorem own_tab {K : PySem.W.Frag} {mg : Str → Option Value} {ms : List Str} {h : Heap} (O : Owns K mg ms h) {x : Str} {f c P : Addr} (m : x ∈ ms) (hf : mg x = some (.ref f)) (a : PySem.W.nsIn K mainGlobals x = some (some (.ref f))) (t : PySem.W.tabIn K x = some (c, P)) : h.get? P = some (PySem.W.tabObj #[]) := by
  unfold PySem.W.tabIn at t
  rw [a] at t
  dsimp only at t
  split at t
  · rename_i fd _ hk
    split at t
    · rename_i c' hc
      split at t
      · rename_i vs _ hl
        split at t
        · rename_i P' h11
          cases t
          exact O x m f hf _ _ _ _ _ _ _ _ hk rfl hc hl h11
        · cases t
      · cases t
    · cases t
  · cases t
end Pk

set_option maxHeartbeats 2000000
/-! tuple(zip(x, y)): the pairs are new plain tuples -/
namespace Pk
open PySem PySem.Spec PyProof.Rows L2
abbrev IsZ (h : Heap) (z TI TO : Addr) (f0 : Value) (b : Bool) : Prop :=
  h.get? z = some { cls := .type "zip", dict := none, data := .fields #[f0, .bool b, .bool false, .ref TI, .ref TO], slots := #[] }
section
variable {prog : Program} {w : World} {A : Around} {E : Value → Shared → Prop} {s : Shared}
theorem zfree_no {z TI TO T : Addr} {b : Bool} {oT : Obj} {Q : Bool → Shared → Prop} (hz : IsZ s.heap z TI TO (rawInt T) b) (hT : s.heap.get? T = some oT)
    (hQ : ∀ h', IsZ h' z TI TO (rawInt T) true → Heap.SameBut z s.heap h' → Q false { s with heap := h' }) :
    wpAny (model prog w) A (Builtin.SmallTypes.ownedTupleIsFree (.ref z)) Q E s := by
  unfold Builtin.SmallTypes.ownedTupleIsFree
  refine wpAny_bind (wpAny_field hz rfl (x := rawInt T) rfl ?_)
  show wpAny _ _ (loadIfAlive ((T : Int)).toNat >>= _) _ _ _
  refine wpAny_bind (PySem.W.kdx_alive (o := oT) (by simpa using hT) ?_)
  show wpAny _ _ (field (.ref z) 1 >>= _) _ _ _
  refine wpAny_bind (wpAny_field hz rfl (x := .bool b) rfl ?_)
  cases b with
  | true =>
    show wpAny _ _ (pure false) _ _ _
    exact wpAny_pure (hQ s.heap hz ⟨rfl, fun _ _ => rfl⟩)
  | false =>
    show wpAny _ _ (setField (.ref z) 1 (.bool true) >>= _) _ _ _
    refine wpAny_bind (wpAny_setField_rec hz (by simp) fun h₁ hz₁ hs₁ => wpAny_pure (hQ h₁ hz₁ hs₁))
theorem znext_item {z TI TO T i1 i2 l1 l2 : Addr} {k : Nat} {f : Bool} {oT : Obj} {xs ys : Array Value} {x y : Value} {Q : Value → Shared → Prop} (D : ZipApart z TI TO i1 i2 l1 l2)
    (hz : IsZ s.heap z TI TO (rawInt T) f) (hT : s.heap.get? T = some oT) (hTI : IsPair s.heap TI (.ref i1) (.ref i2))
    (h1 : s.heap.IsListIter i1 l1 k) (h2 : s.heap.IsListIter i2 l2 k) (hl1 : s.heap.IsList l1 xs) (hl2 : s.heap.IsList l2 ys) (hx : xs[k]? = some x) (hy : ys[k]? = some y)
    (hQ : ∀ h', IsZ h' z TI TO (rawInt T) true → h'.IsListIter i1 l1 (k + 1) → h'.IsListIter i2 l2 (k + 1) → IsPair h' s.heap.objs.size x y → h'.objs.size = s.heap.objs.size + 1 →
      (∀ c o, c ≠ z → c ≠ i1 → c ≠ i2 → s.heap.get? c = some o → h'.get? c = some o) → Q (.ref s.heap.objs.size) { s with heap := h' }) :
    wpAny (model prog w) A (Builtin.«zip.__next__» ⟨[.ref z], []⟩) (fun fin s' => ∃ v, fin = .done (.ret v) ∧ Q v s') E s := by
  show wpAny _ _ (field (.ref z) 2 >>= _) _ _ _
  refine wpAny_bind (wpAny_field hz rfl (x := .bool false) rfl ?_)
  show wpAny _ _ (field (.ref z) 3 >>= _) _ _ _
  refine wpAny_bind (wpAny_field hz rfl (x := .ref TI) rfl ?_)
  refine wpAny_bind (wpAny_seqItems hTI rfl ?_)
  show wpAny _ _ (Builtin.SmallTypes.ownedTupleIsFree (.ref z) >>= _) _ _ _
  refine wpAny_bind (zfree_no hz hT fun h₁ hz₁ hs₁ => ?_)
  simp only [Bool.false_eq_true, if_false]
  refine wpAny_bind ?_
  rw [← Array.forIn_toList]
  simp only [List.forIn_cons, List.forIn_nil]
  refine wpAny_bind (wpAny_bind (wpAny_holding ?_))
  show wpAny _ _ (Builtin.SmallTypes.nextOf (.ref i1) >>= _) _ _ _
  refine wpAny_bind (wpAny_nextOf_list_item (h1.extBut hs₁.extBut D.i1z) (hl1.extBut hs₁.extBut D.l1z) hx fun h₂ h1₂ hs₂ => wpAny_pure ?_)
  refine wpAny_pure ?_
  refine wpAny_bind (wpAny_bind (wpAny_holding ?_))
  show wpAny _ _ (Builtin.SmallTypes.nextOf (.ref i2) >>= _) _ _ _
  refine wpAny_bind (wpAny_nextOf_list_item ((h2.extBut hs₁.extBut D.i2z).extBut hs₂.extBut D.i12.symm) ((hl2.extBut hs₁.extBut D.l2z).extBut hs₂.extBut D.l2i1) hy fun h₃ h2₃ hs₃ => wpAny_pure ?_)
  refine wpAny_pure (wpAny_pure ?_)
  show wpAny _ _ (newTuple [x, y] >>= _) _ _ _
  refine wpAny_bind (wpAny_newTuple ?_)
  have hsz : h₃.objs.size = s.heap.objs.size := by rw [hs₃.1, hs₂.1, hs₁.1]
  have hz₃ : IsZ h₃ z TI TO (rawInt T) true := hs₃.extBut _ _ D.i2z.symm (hs₂.extBut _ _ D.i1z.symm hz₁)
  have hk₃ : ∀ c o, c ≠ z → c ≠ i1 → c ≠ i2 → s.heap.get? c = some o → h₃.get? c = some o := fun c o c1 c2 c3 e =>
    hs₃.extBut _ _ c3 (hs₂.extBut _ _ c2 (hs₁.extBut _ _ c1 e))
  have h1₃ : h₃.IsListIter i1 l1 (k + 1) := h1₂.extBut hs₃.extBut D.i12
  refine wpAny_pure ⟨_, rfl, ?_⟩
  show Q (.ref h₃.objs.size) _
  have hT₃ : IsPair (h₃.push { cls := .type "tuple", data := .seq #[x, y] }) h₃.objs.size x y := Heap.get?_push_size _ rfl
  rw [hsz] at hT₃ ⊢
  exact hQ _ (Heap.get?_push_of_some _ hz₃) (h1₃.at fun o e => Heap.get?_push_of_some _ e) (h2₃.at fun o e => Heap.get?_push_of_some _ e) hT₃ (by rw [Heap.size_push, hsz]) fun c o c1 c2 c3 e => Heap.get?_push_of_some _ (hk₃ c o c1 c2 c3 e)
theorem znext_end {z TI TO T i1 i2 l1 l2 : Addr} {k : Nat} {f : Bool} {oT : Obj} {xs ys : Array Value} {Q : Fin → Shared → Prop} (hh : A.handled = none) (D : ZipApart z TI TO i1 i2 l1 l2)
    (hz : IsZ s.heap z TI TO (rawInt T) f) (hT : s.heap.get? T = some oT) (hTI : IsPair s.heap TI (.ref i1) (.ref i2))
    (h1 : s.heap.IsListIter i1 l1 k) (hl1 : s.heap.IsList l1 xs) (hx : xs[k]? = none)
    (hE : ∀ h' e, (∀ c o, c ≠ z → c ≠ i1 → c ≠ i2 → s.heap.get? c = some o → h'.get? c = some o) → (∃ o, h'.get? e = some o ∧ o.cls = .type "StopIteration") → E (.ref e) { s with heap := h' }) :
    wpAny (model prog w) A (Builtin.«zip.__next__» ⟨[.ref z], []⟩) Q E s := by
  show wpAny _ _ (field (.ref z) 2 >>= _) _ _ _
  refine wpAny_bind (wpAny_field hz rfl (x := .bool false) rfl ?_)
  show wpAny _ _ (field (.ref z) 3 >>= _) _ _ _
  refine wpAny_bind (wpAny_field hz rfl (x := .ref TI) rfl ?_)
  refine wpAny_bind (wpAny_seqItems hTI rfl ?_)
  show wpAny _ _ (Builtin.SmallTypes.ownedTupleIsFree (.ref z) >>= _) _ _ _
  refine wpAny_bind (zfree_no hz hT fun h₁ hz₁ hs₁ => ?_)
  simp only [Bool.false_eq_true, if_false]
  refine wpAny_bind ?_
  rw [← Array.forIn_toList]
  simp only [List.forIn_cons, List.forIn_nil]
  refine wpAny_bind (wpAny_bind (wpAny_holding ?_))
  show wpAny _ _ (Builtin.SmallTypes.nextOf (.ref i1) >>= _) _ _ _
  refine wpAny_bind (wpAny_nextOf_list_end hh (h1.extBut hs₁.extBut D.i1z) (hl1.extBut hs₁.extBut D.l1z) hx fun h₂ e hs₂ he => ?_)
  exact hE h₂ e (fun c o c1 c2 c3 q => hs₂ _ _ c2 (hs₁.extBut _ _ c1 q)) he
theorem zpy_item {z TI TO T i1 i2 l1 l2 : Addr} {k : Nat} {f : Bool} {oT : Obj} {xs ys : Array Value} {x y : Value} {Q : Option Value → Shared → Prop} (D : ZipApart z TI TO i1 i2 l1 l2)
    (hz : IsZ s.heap z TI TO (rawInt T) f) (hT : s.heap.get? T = some oT) (hTI : IsPair s.heap TI (.ref i1) (.ref i2))
    (h1 : s.heap.IsListIter i1 l1 k) (h2 : s.heap.IsListIter i2 l2 k) (hl1 : s.heap.IsList l1 xs) (hl2 : s.heap.IsList l2 ys) (hx : xs[k]? = some x) (hy : ys[k]? = some y)
    (hQ : ∀ h', IsZ h' z TI TO (rawInt T) true → h'.IsListIter i1 l1 (k + 1) → h'.IsListIter i2 l2 (k + 1) → IsPair h' s.heap.objs.size x y → h'.objs.size = s.heap.objs.size + 1 →
      (∀ c o, c ≠ z → c ≠ i1 → c ≠ i2 → s.heap.get? c = some o → h'.get? c = some o) → Q (some (.ref s.heap.objs.size)) { s with heap := h' }) :
    wpAny (model prog w) A (pyNext (.ref z)) Q E s := by
  have hTy : s.TypeIs (.ref z) "zip" := ⟨_, hz, rfl⟩
  unfold pyNext
  exact wpAny_bind (wpAny_attempt (wpAny_callSpecial?_slot (name := Str.ofString "__next__") hTy F.slot_zip_next
    (wpAny_call_entry F.slot_zip_next hTy F.entry_zip_next
      (znext_item D hz hT hTI h1 h2 hl1 hl2 hx hy fun h' a1 a2 a3 a4 a5 a6 => wpAny_pure (hQ h' a1 a2 a3 a4 a5 a6)) (F.args_zip_next_1 _))))
theorem zpy_end {z TI TO T i1 i2 l1 l2 : Addr} {k : Nat} {f : Bool} {oT : Obj} {xs ys : Array Value} {Q : Option Value → Shared → Prop} (hh : A.handled = none) (D : ZipApart z TI TO i1 i2 l1 l2)
    (hz : IsZ s.heap z TI TO (rawInt T) f) (hT : s.heap.get? T = some oT) (hTI : IsPair s.heap TI (.ref i1) (.ref i2))
    (h1 : s.heap.IsListIter i1 l1 k) (hl1 : s.heap.IsList l1 xs) (hx : xs[k]? = none)
    (hQ : ∀ h', (∀ c o, c ≠ z → c ≠ i1 → c ≠ i2 → s.heap.get? c = some o → h'.get? c = some o) → Q none { s with heap := h' }) : wpAny (model prog w) A (pyNext (.ref z)) Q E s := by
  have hTy : s.TypeIs (.ref z) "zip" := ⟨_, hz, rfl⟩
  unfold pyNext
  refine wpAny_bind (wpAny_attempt (wpAny_callSpecial?_slot (name := Str.ofString "__next__") hTy F.slot_zip_next
    (wpAny_call_entry F.slot_zip_next hTy F.entry_zip_next (znext_end (ys := ys) hh D hz hT hTI h1 hl1 hx fun h' e hk he => ?_) (F.args_zip_next_1 _))))
  obtain ⟨o, ho, hc⟩ := he
  refine wpAny_bind (wpAny_isInstance (T := "StopIteration") (b := true) ⟨o, ho, hc⟩ isSubtype_stop ?_)
  exact wpAny_pure (hQ _ hk)
end
end Pk

set_option maxHeartbeats 2000000
namespace Pk
open PySem PySem.Spec PyProof.Rows L2
structure ZB (h0 : Heap) (z TI TO i1 i2 l1 l2 S : Addr) (xs ys : Array Value) (acc : Array Value) (h : Heap) : Prop where
  hS : ∃ c, h.get? S = some { cls := .type "list", dict := none, data := .seq acc c, slots := #[] }
  hit : ∀ (j : Nat) (v : Value), acc[j]? = some v → ∃ T x y, v = Value.ref T ∧ h0.objs.size ≤ T ∧ xs[j]? = some x ∧ ys[j]? = some y ∧ IsPair h T x y
  hkp : ∀ c o, c ≠ z → c ≠ TO → c ≠ i1 → c ≠ i2 → c ≠ S → h0.get? c = some o → h.get? c = some o
  hinj : ∀ (j k : Nat) (v : Value), acc[j]? = some v → acc[k]? = some v → j = k
structure ZS (h0 : Heap) (z TI TO i1 i2 l1 l2 S : Addr) (xs ys : Array Value) (i : Nat) (acc : Array Value) (h : Heap) : Prop where
  B : ZB h0 z TI TO i1 i2 l1 l2 S xs ys acc h
  hsz : h0.objs.size ≤ h.objs.size
  hz : IsZ h z TI TO .none false ∨ ∃ (T : Addr) (f : Bool) (oT : Obj), IsZ h z TI TO (rawInt T) f ∧ h.get? T = some oT ∧ h0.objs.size ≤ T
  hTI : IsPair h TI (.ref i1) (.ref i2)
  hTO : ∃ a b, IsPair h TO a b
  h1 : h.IsListIter i1 l1 i
  h2 : h.IsListIter i2 l2 i
  hl1 : h.IsList l1 xs
  hl2 : h.IsList l2 ys
  hn : acc.size = i
structure SApart (S z TI TO i1 i2 l1 l2 : Addr) : Prop where
  dz : S ≠ z
  dTI : S ≠ TI
  dTO : S ≠ TO
  di1 : S ≠ i1
  di2 : S ≠ i2
  dl1 : S ≠ l1
  dl2 : S ≠ l2
section
variable {prog : Program} {w : World} {A : Around}
theorem zloop {h0 : Heap} {z TI TO i1 i2 l1 l2 S : Addr} {xs ys : Array Value} {res : Value} {R : Result → Shared → Prop} (hh : A.handled = none) (D : ZipApart z TI TO i1 i2 l1 l2) (DS : SApart S z TI TO i1 i2 l1 l2) (hn : xs.size ≤ sizeLine) (hxy : xs.size = ys.size)
    (lt : z < h0.objs.size ∧ TO < h0.objs.size ∧ i1 < h0.objs.size ∧ i2 < h0.objs.size ∧ S < h0.objs.size) :
    ∀ (k i : Nat) (s : Shared) (acc : Array Value), xs.size - i = k → i ≤ xs.size → ZS h0 z TI TO i1 i2 l1 l2 S xs ys i acc s.heap →
      (∀ h' acc', acc'.size = xs.size → ZB h0 z TI TO i1 i2 l1 l2 S xs ys acc' h' → R (.ok (.ret res)) { s with heap := h' }) →
      codeAny (model prog w) A (.builtin "list.extend.loop" ⟨[.ref S, .ref z, res], []⟩) R s := by
  obtain ⟨zl, TOl, i1l, i2l, Sl⟩ := lt
  intro k
  induction k with
  | zero =>
    intro i s acc hk hi Z hR
    have hin : i = xs.size := by omega
    refine codeAny_builtin F.entry_extend_loop ?_
    rw [Around.under_plainId F.plain_extend_loop _]
    show wpAny _ A.in1 (pyNext (.ref z) >>= _) _ _ s
    have fin : ∀ h', (∀ c o, c ≠ z → c ≠ TO → c ≠ i1 → c ≠ i2 → s.heap.get? c = some o → h'.get? c = some o) → ZB h0 z TI TO i1 i2 l1 l2 S xs ys acc h' := fun h' q => by
      refine ⟨?_, fun j v e => ?_, fun c o c1 c2 c3 c4 c5 e => q c o c1 c2 c3 c4 (Z.B.hkp c o c1 c2 c3 c4 c5 e), Z.B.hinj⟩
      · obtain ⟨c, e⟩ := Z.B.hS
        exact ⟨c, q _ _ DS.dz DS.dTO DS.di1 DS.di2 e⟩
      · obtain ⟨T, x, y, e1, e2, e3, e4, e5⟩ := Z.B.hit j v e
        exact ⟨T, x, y, e1, e2, e3, e4, q _ _ (Nat.ne_of_gt (Nat.lt_of_lt_of_le zl e2)) (Nat.ne_of_gt (Nat.lt_of_lt_of_le TOl e2)) (Nat.ne_of_gt (Nat.lt_of_lt_of_le i1l e2)) (Nat.ne_of_gt (Nat.lt_of_lt_of_le i2l e2)) e5⟩
    have hx : xs[i]? = none := by rw [hin]; simp
    obtain ⟨a, b, hTO⟩ := Z.hTO
    rcases Z.hz with hz | ⟨T, f, oT, hz, hT, hTl⟩
    · refine wpAny_bind (wpAny_pyNext_zip_end (A := A.in1) hh D hz Z.hTI hTO Z.h1 Z.h2 Z.hl1 Z.hl2 (.inl hx) fun h' q => ?_)
      exact wpAny_pure (hR h' acc (by rw [Z.hn, hin]) (fin h' q))
    · refine wpAny_bind (zpy_end (ys := ys) (A := A.in1) hh D hz hT Z.hTI Z.h1 Z.hl1 hx fun h' q => ?_)
      exact wpAny_pure (hR h' acc (by rw [Z.hn, hin]) (fin h' fun c o c1 _ c3 c4 => q c o c1 c3 c4))
  | succ k ih =>
    intro i s acc hk hi Z hR
    have hlt : i < xs.size := by omega
    have hlt2 : i < ys.size := by omega
    refine codeAny_builtin F.entry_extend_loop ?_
    rw [Around.under_plainId F.plain_extend_loop _]
    show wpAny _ A.in1 (pyNext (.ref z) >>= _) _ _ s
    have hx : xs[i]? = some xs[i] := Array.getElem?_eq_getElem hlt
    have hy : ys[i]? = some ys[i] := Array.getElem?_eq_getElem hlt2
    -- the state behind the item
    have go : ∀ h', (∃ (T : Addr) (f : Bool) (oT : Obj), IsZ h' z TI TO (rawInt T) f ∧ h'.get? T = some oT ∧ h0.objs.size ≤ T) → (∃ a b, IsPair h' TO a b) → h'.IsListIter i1 l1 (i + 1) → h'.IsListIter i2 l2 (i + 1) → IsPair h' s.heap.objs.size xs[i] ys[i] → h'.objs.size = s.heap.objs.size + 1 →
        (∀ c o, c ≠ z → c ≠ TO → c ≠ i1 → c ≠ i2 → s.heap.get? c = some o → h'.get? c = some o) →
        ∃ c, h'.get? S = some { cls := .type "list", dict := none, data := .seq acc c, slots := #[] } ∧ ZS h0 z TI TO i1 i2 l1 l2 S xs ys (i + 1) (acc.push (.ref s.heap.objs.size)) (h'.update S (Obj.mapSeq (·.push (.ref s.heap.objs.size)))) := by
      intro h' hz' hTO' h1' h2' hT' hsz' hk'
      obtain ⟨c, eS⟩ := Z.B.hS
      have eS' := hk' _ _ DS.dz DS.dTO DS.di1 DS.di2 eS
      have up : ∀ b o, b ≠ S → h'.get? b = some o → (h'.update S (Obj.mapSeq (·.push (.ref s.heap.objs.size)))).get? b = some o := fun b o hb e => (Heap.get?_update_other _ _ (Ne.symm hb)).trans e
      have nS : ∀ T, h0.objs.size ≤ T → T ≠ S := fun T h => Nat.ne_of_gt (Nat.lt_of_lt_of_le Sl h)
      have kl1 : ∀ o, s.heap.get? l1 = some o → h'.get? l1 = some o := fun o e => hk' _ _ D.l1z D.l1TO D.l1i1 D.l1i2 e
      have kl2 : ∀ o, s.heap.get? l2 = some o → h'.get? l2 = some o := fun o e => hk' _ _ D.l2z D.l2TO D.l2i1 D.l2i2 e
      refine ⟨c, eS', ⟨⟨⟨_, Heap.get?_update_self _ eS' rfl⟩, fun j v e => ?_, fun c' o c1 c2 c3 c4 c5 e => up _ _ c5 (hk' _ _ c1 c2 c3 c4 (Z.B.hkp _ _ c1 c2 c3 c4 c5 e)), fun j m v ej em => ?_⟩, ?_, ?_, up _ _ DS.dTI.symm (hk' _ _ D.TIz D.TITO D.TIi1 D.TIi2 Z.hTI), ?_, h1'.at fun o e => up _ _ DS.di1.symm e, h2'.at fun o e => up _ _ DS.di2.symm e,
        (Z.hl1.at kl1).at fun o e => up _ _ DS.dl1.symm e, (Z.hl2.at kl2).at fun o e => up _ _ DS.dl2.symm e, by rw [Array.size_push, Z.hn]⟩⟩
      · rw [Array.getElem?_push] at e
        split at e
        · rename_i hj
          cases e
          have hji : j = i := by rw [hj, Z.hn]
          subst hji
          exact ⟨_, _, _, rfl, Z.hsz, hx, hy, up _ _ (nS _ Z.hsz) hT'⟩
        · obtain ⟨T, x, y, e1, e2, e3, e4, e5⟩ := Z.B.hit j v e
          exact ⟨T, x, y, e1, e2, e3, e4, up _ _ (nS _ e2) (hk' _ _ (Nat.ne_of_gt (Nat.lt_of_lt_of_le zl e2)) (Nat.ne_of_gt (Nat.lt_of_lt_of_le TOl e2)) (Nat.ne_of_gt (Nat.lt_of_lt_of_le i1l e2)) (Nat.ne_of_gt (Nat.lt_of_lt_of_le i2l e2)) e5)⟩
      · have old : ∀ (j : Nat), acc[j]? = some (Value.ref s.heap.objs.size) → False := fun j e => by
          obtain ⟨T, x, y, e1, e2, e3, e4, e5⟩ := Z.B.hit j _ e
          cases e1
          exact absurd (Heap.lt_size e5) (Nat.lt_irrefl _)
        rw [Array.getElem?_push] at ej em
        split at ej <;> split at em
        · rename_i a b; rw [a, b]
        · cases ej; exact (old m em).elim
        · cases em; exact (old j ej).elim
        · exact Z.B.hinj j m v ej em
      · rw [Heap.size_update, hsz']; exact Nat.le_succ_of_le Z.hsz
      · obtain ⟨T, f, oT, q1, q2, q3⟩ := hz'
        exact .inr ⟨T, f, oT, up _ _ DS.dz.symm q1, up _ _ (nS _ q3) q2, q3⟩
      · obtain ⟨a, b, q⟩ := hTO'
        exact ⟨a, b, up _ _ DS.dTO.symm q⟩
    obtain ⟨a, b, hTO⟩ := Z.hTO
    have fits : acc.size + 1 ≤ sizeLine := by rw [Z.hn]; omega
    rcases Z.hz with hz | ⟨T, f, oT, hz, hT, hTl⟩
    · refine wpAny_bind (wpAny_pyNext_zip_item (A := A.in1) D hz Z.hTI hTO Z.h1 Z.h2 Z.hl1 Z.hl2 hx hy fun h' a1 a2 a3 a4 a5 a6 a7 => ?_)
      obtain ⟨c, eS, Z'⟩ := go h' ⟨_, false, _, a1, a5, Z.hsz⟩ ⟨_, _, a2⟩ a3 a4 a5 a6 a7
      show wpAny _ A.in1 (updateSeq S (·.push _) >>= _) _ _ _
      refine wpAny_bind ?_
      exact wpAny_updateSeq eS rfl (wpAny_pure ⟨plainId_quiet F.plain_extend_loop _, ih (i + 1) _ (acc.push _) (by omega) hlt Z' fun h'' acc' q1 q2 => hR h'' acc' q1 q2⟩) (by omega) (by show (acc.push _).size ≤ sizeLine + 1; rw [Array.size_push]; omega)
    · refine wpAny_bind (zpy_item (A := A.in1) D hz hT Z.hTI Z.h1 Z.h2 Z.hl1 Z.hl2 hx hy fun h' a1 a3 a4 a5 a6 a7 => ?_)
      obtain ⟨c, eS, Z'⟩ := go h' ⟨T, true, oT, a1, a7 _ _ (Nat.ne_of_gt (Nat.lt_of_lt_of_le zl hTl)) (Nat.ne_of_gt (Nat.lt_of_lt_of_le i1l hTl)) (Nat.ne_of_gt (Nat.lt_of_lt_of_le i2l hTl)) hT, hTl⟩ ⟨a, b, a7 _ _ D.TOz D.TOi1 D.TOi2 hTO⟩ a3 a4 a5 a6 fun c o c1 _ c3 c4 e => a7 c o c1 c3 c4 e
      show wpAny _ A.in1 (updateSeq S (·.push _) >>= _) _ _ _
      refine wpAny_bind ?_
      exact wpAny_updateSeq eS rfl (wpAny_pure ⟨plainId_quiet F.plain_extend_loop _, ih (i + 1) _ (acc.push _) (by omega) hlt Z' fun h'' acc' q1 q2 => hR h'' acc' q1 q2⟩) (by omega) (by show (acc.push _).size ≤ sizeLine + 1; rw [Array.size_push]; omega)
theorem nolen_zip : typeLookup (.type "zip") "__len__" = pure none := by rw [typeLookup_type, builtinLookup_eq_fast]; kernel_rfl
theorem nohint_zip : typeLookup (.type "zip") "__length_hint__" = pure none := by rw [typeLookup_type, builtinLookup_eq_fast]; kernel_rfl
end
section
variable {prog : Program} {w : World} {A : Around} {E : Value → Shared → Prop} {s : Shared}
/-- what a zip object is gathered to -/
theorem zcollect {z TI TO i1 i2 l1 l2 : Addr} {xs ys : Array Value} {Q : List Value → Shared → Prop} (hh : A.handled = none) (D : ZipApart z TI TO i1 i2 l1 l2) (hn : xs.size ≤ sizeLine) (hxy : xs.size = ys.size)
    (hz : IsZip s.heap z TI TO .none) (hTI : IsPair s.heap TI (.ref i1) (.ref i2)) (hTO : ∃ a b, IsPair s.heap TO a b) (h1 : s.heap.IsListIter i1 l1 0) (h2 : s.heap.IsListIter i2 l2 0) (hl1 : s.heap.IsList l1 xs) (hl2 : s.heap.IsList l2 ys)
    (hQ : ∀ (h' : Heap) (acc : Array Value), acc.size = xs.size → (∀ (j : Nat) (v : Value), acc[j]? = some v → ∃ T x y, v = Value.ref T ∧ s.heap.objs.size ≤ T ∧ xs[j]? = some x ∧ ys[j]? = some y ∧ IsPair h' T x y) →
      (∀ (j k : Nat) (v : Value), acc[j]? = some v → acc[k]? = some v → j = k) →
      (∀ c o, c ≠ z → c ≠ TO → c ≠ i1 → c ≠ i2 → s.heap.get? c = some o → h'.get? c = some o) → Q acc.toList { s with heap := h' }) :
    wpAny (model prog w) A (collect (.ref z)) Q E s := by
  have ltz : z < s.heap.objs.size := Heap.lt_size hz
  have ltTI : TI < s.heap.objs.size := Heap.lt_size hTI
  have ltTO : TO < s.heap.objs.size := by obtain ⟨a, b, q⟩ := hTO; exact Heap.lt_size q
  have lt1 : i1 < s.heap.objs.size := by obtain ⟨_, q, _⟩ := h1; exact Heap.lt_size q
  have lt2 : i2 < s.heap.objs.size := by obtain ⟨_, q, _⟩ := h2; exact Heap.lt_size q
  have ll1 : l1 < s.heap.objs.size := by obtain ⟨_, q, _⟩ := hl1; exact Heap.lt_size q
  have ll2 : l2 < s.heap.objs.size := by obtain ⟨_, q, _⟩ := hl2; exact Heap.lt_size q
  unfold collect
  refine wpAny_bind (wpAny_runValue (codeAny_builtin F.entry_proto_collect ?_))
  rw [Around.under_plainId F.plain_proto_collect _]
  show wpAny _ A.in1 (newList [] >>= fun l => again (.builtin "list.__iadd__" ⟨[l, .ref z], []⟩)) _ _ s
  refine wpAny_bind (wpAny_newObj_type ?_)
  refine wpAny_pure ⟨plainId_quiet F.plain_list_iadd _, codeAny_builtin F.entry_list_iadd ?_⟩
  rw [Around.under_plainId F.plain_list_iadd _]
  show wpAny _ A.in1 (Builtin.List.listExtendWith (.ref s.heap.objs.size) (.ref z) (.ref s.heap.objs.size)) _ _ _
  unfold Builtin.List.listExtendWith
  have up1 : ∀ b o, s.heap.get? b = some o → (s.heap.push { cls := .type "list", data := .seq ([] : List Value).toArray }).get? b = some o := fun b o e => Heap.get?_push_of_some _ e
  have hT1 : Shared.TypeIs { s with heap := s.heap.push { cls := .type "list", data := .seq ([] : List Value).toArray } } (.ref z) "zip" := ⟨_, up1 _ _ hz, rfl⟩
  refine wpAny_bind (wpAny_typeOf hT1 ?_)
  have e1 : Builtin.List.listSameRef (.ref s.heap.objs.size) (.ref z) = false := by simp [Builtin.List.listSameRef, Nat.ne_of_gt ltz]
  have e2 : (Value.type "zip" == Value.type "list") = false := by decide
  have e3 : (Value.type "zip" == Value.type "tuple") = false := by decide
  simp only [e1, e2, e3, Bool.or_false, Bool.false_eq_true, if_false]
  refine wpAny_bind (wpAny_pyIter_zip (s := { s with heap := s.heap.push { cls := .type "list", data := .seq ([] : List Value).toArray } }) (up1 _ _ hz) ?_)
  refine wpAny_bind (wpAny_holding ?_)
  unfold Builtin.List.listLengthHint
  refine wpAny_bind (wpAny_specialOf hT1 nolen_zip ?_)
  show wpAny _ A.in1 (specialOf (Value.ref z) (Str.ofString "__length_hint__") >>= _) _ _ _
  refine wpAny_bind (wpAny_specialOf hT1 nohint_zip ?_)
  refine wpAny_pure ?_
  show wpAny _ A.in1 (rule "list.extend.makes-room" >>= fun _ => Builtin.List.listTouch (.ref s.heap.objs.size) >>= fun _ =>
    again (.builtin "list.extend.loop" ⟨[.ref s.heap.objs.size, .ref z, .ref s.heap.objs.size], []⟩)) _ _ _
  refine wpAny_bind (wpAny_rule ?_)
  have hS₁ : (s.heap.push { cls := .type "list", data := .seq ([] : List Value).toArray }).get? s.heap.objs.size = some { cls := .type "list", data := .seq ([] : List Value).toArray } := Heap.get?_push_size _ rfl
  refine wpAny_bind ?_
  show wpAny _ A.in1 (updateSeq s.heap.objs.size (·.push .none) >>= fun _ => updateSeq s.heap.objs.size (·.pop)) _ _ _
  refine wpAny_bind (wpAny_updateSeq hS₁ rfl ?_)
  have hS₂ := Heap.get?_update_self (Obj.mapSeq (·.push Value.none)) hS₁ rfl
  refine wpAny_updateSeq hS₂ rfl ?_
  have hS₃ := Heap.get?_update_self (Obj.mapSeq (·.pop)) hS₂ rfl
  have oth : ∀ b o, s.heap.get? b = some o →
      (((s.heap.push { cls := .type "list", data := .seq ([] : List Value).toArray }).update s.heap.objs.size (Obj.mapSeq (·.push Value.none))).update s.heap.objs.size (Obj.mapSeq (·.pop))).get? b = some o :=
    fun b o e => (Heap.get?_update_other _ _ (Nat.ne_of_gt (Heap.lt_size e))).trans ((Heap.get?_update_other _ _ (Nat.ne_of_gt (Heap.lt_size e))).trans (up1 b o e))
  have hsz3 : (((s.heap.push { cls := .type "list", data := .seq ([] : List Value).toArray }).update s.heap.objs.size (Obj.mapSeq (·.push Value.none))).update s.heap.objs.size (Obj.mapSeq (·.pop))).objs.size = s.heap.objs.size + 1 := by
    rw [Heap.size_update, Heap.size_update, Heap.size_push]
  generalize ((s.heap.push { cls := .type "list", data := .seq ([] : List Value).toArray }).update s.heap.objs.size (Obj.mapSeq (·.push Value.none))).update s.heap.objs.size (Obj.mapSeq (·.pop)) = h3 at hS₃ oth hsz3
  have hTO3 : ∃ a b, IsPair h3 TO a b := by obtain ⟨a, b, q⟩ := hTO; exact ⟨a, b, oth _ _ q⟩
  have nS : ∀ {b}, b < s.heap.objs.size → s.heap.objs.size ≠ b := fun h => Nat.ne_of_gt h
  refine wpAny_pure ⟨plainId_quiet F.plain_extend_loop _, zloop (h0 := h3) (A := A) hh D ⟨nS ltz, nS ltTI, nS ltTO, nS lt1, nS lt2, nS ll1, nS ll2⟩ hn hxy (by rw [hsz3]; exact ⟨Nat.lt_succ_of_lt ltz, Nat.lt_succ_of_lt ltTO, Nat.lt_succ_of_lt lt1, Nat.lt_succ_of_lt lt2, Nat.lt_succ_self _⟩) xs.size 0 _ #[] (by omega) (Nat.zero_le _)
    ⟨⟨⟨_, hS₃⟩, fun j v e => by simp at e, fun c o _ _ _ _ _ e => e, fun j m v e => by simp at e⟩, Nat.le_refl _, .inl (oth _ _ hz), oth _ _ hTI, hTO3, h1.at fun o e => oth _ _ e, h2.at fun o e => oth _ _ e, hl1.at fun o e => oth _ _ e, hl2.at fun o e => oth _ _ e, rfl⟩ fun h' acc hacc B => ?_⟩
  obtain ⟨c, eS⟩ := B.hS
  show wpAny _ A (load s.heap.objs.size >>= _) _ _ _
  refine wpAny_bind (wpAny_load eS ?_)
  refine wpAny_pure (hQ h' acc hacc (fun j v e => ?_) B.hinj fun c' o c1 c2 c3 c4 e => B.hkp _ _ c1 c2 c3 c4 (Nat.ne_of_lt (Heap.lt_size e)) (oth _ _ e))
  obtain ⟨T, x, y, q1, q2, q3, q4, q5⟩ := B.hit j v e
  exact ⟨T, x, y, q1, by rw [hsz3] at q2; omega, q3, q4, q5⟩
theorem code_tuple_zip {z TI TO i1 i2 l1 l2 : Addr} {xs ys : Array Value} {Q₁ : Value → Shared → Prop} (hh : A.handled = none) (D : ZipApart z TI TO i1 i2 l1 l2) (hn : xs.size ≤ sizeLine) (hxy : xs.size = ys.size)
    (hz : IsZip s.heap z TI TO .none) (hTI : IsPair s.heap TI (.ref i1) (.ref i2)) (hTO : ∃ a b, IsPair s.heap TO a b) (h1 : s.heap.IsListIter i1 l1 0) (h2 : s.heap.IsListIter i2 l2 0) (hl1 : s.heap.IsList l1 xs) (hl2 : s.heap.IsList l2 ys)
    (h : ∀ (h' : Heap) (acc : Array Value), acc.size = xs.size → (∀ (j : Nat) (v : Value), acc[j]? = some v → ∃ T x y, v = Value.ref T ∧ s.heap.objs.size ≤ T ∧ xs[j]? = some x ∧ ys[j]? = some y ∧ IsPair h' T x y) →
      (∀ (j k : Nat) (v : Value), acc[j]? = some v → acc[k]? = some v → j = k) →
      (∀ c o, c ≠ z → c ≠ TO → c ≠ i1 → c ≠ i2 → s.heap.get? c = some o → h'.get? c = some o) → Q₁ (.ref h'.objs.size) { s with heap := h'.push { cls := .type "tuple", data := .seq acc } }) :
    codeAny (model prog w) A (.call (.builtin "tuple.__new__") ⟨[.type "tuple", .ref z], []⟩) (wants Q₁ E) s := by
  refine codeAny_of_tree ?_
  show wpAny _ A.in1 (do checkBuiltinCall "tuple.__new__" ⟨[.type "tuple", .ref z], []⟩; again (.builtin "tuple.__new__" ⟨[.type "tuple", .ref z], []⟩)) _ _ s
  refine wpAny_bind (wpAny_of_eq (F.newCall_tuple_1 _) (wpAny_pure ⟨plainId_quiet F.plain_tuple_new _, codeAny_builtin F.entry_tuple_new ?_⟩))
  rw [Around.under_plainId F.plain_tuple_new _]
  have hsub := sub_tuple_self
  have hinit := init_tuple_lookup
  have hmh := madeHere_tuple
  have hTI' : s.TypeIs (.ref z) "zip" := ⟨_, hz, rfl⟩
  have hh1 : A.in1.handled = none := hh
  wp_walk using wpAny_typeOf hTI', zcollect (A := A.in1) hh1 D hn hxy hz hTI hTO h1 h2 hl1 hl2
  intro h' acc hsz hit hinj hk
  show wpAny _ _ (Builtin.Tuple.tupleExact acc.toList.toArray >>= fun v => ret v) _ _ _
  unfold Builtin.Tuple.tupleExact
  refine wpAny_bind (wpAny_newObj_type ?_ (by show acc.toList.toArray.size ≤ sizeLine; simp only [Array.toArray_toList]; rw [hsz]; exact hn))
  refine wpAny_pure ?_
  have e : acc.toList.toArray = acc := by simp
  rw [e]
  exact h h' acc hsz hit hinj hk
theorem call_tuple_zip {z TI TO i1 i2 l1 l2 : Addr} {xs ys : Array Value} {Q : Value → Shared → Prop} (hh : A.handled = none) (D : ZipApart z TI TO i1 i2 l1 l2) (hn : xs.size ≤ sizeLine) (hxy : xs.size = ys.size)
    (hz : IsZip s.heap z TI TO .none) (hTI : IsPair s.heap TI (.ref i1) (.ref i2)) (hTO : ∃ a b, IsPair s.heap TO a b) (h1 : s.heap.IsListIter i1 l1 0) (h2 : s.heap.IsListIter i2 l2 0) (hl1 : s.heap.IsList l1 xs) (hl2 : s.heap.IsList l2 ys)
    (h : ∀ (h' : Heap) (acc : Array Value), acc.size = xs.size → (∀ (j : Nat) (v : Value), acc[j]? = some v → ∃ T x y, v = Value.ref T ∧ s.heap.objs.size ≤ T ∧ xs[j]? = some x ∧ ys[j]? = some y ∧ IsPair h' T x y) →
      (∀ (j k : Nat) (v : Value), acc[j]? = some v → acc[k]? = some v → j = k) →
      (∀ c o, c ≠ z → c ≠ TO → c ≠ i1 → c ≠ i2 → s.heap.get? c = some o → h'.get? c = some o) → Q (.ref h'.objs.size) { s with heap := h'.push { cls := .type "tuple", data := .seq acc } }) :
    wpAny (model prog w) A (call (.type "tuple") [.ref z]) Q E s := by
  refine callType_codes (Q₁ := fun obj s₁ => s₁.TypeIs obj "tuple" ∧ Q obj s₁) F.called_tuple (F.typeCall_tuple_1 _) F.entry_object_init
    (code_tuple_zip (A := A.in1) hh D hn hxy hz hTI hTO h1 h2 hl1 hl2 fun h' acc q1 q2 q3 q4 => ⟨⟨_, Heap.get?_push_size _ rfl, rfl⟩, h h' acc q1 q2 q3 q4⟩) fun obj s₁ h₁ => ?_
  exact ⟨h₁.1, F.args_object_init_2 obj _, object_init_meets F.called_tuple.init.lookup F.called_tuple.made (by decide) prog w A.in1 _ s₁ ⟨h₁.1, rfl, h₁.2⟩⟩
end
end Pk

set_option maxHeartbeats 2000000
namespace Pk
open PySem PySem.Spec PyProof.Rows L2
/-! ### new pairs, one behind the other -/
def NwPs : List V → List V → Hp → (List V → Hp → Prop) → Prop
  | x :: xs, y :: ys, H, k => ∀ T o, H T = none → PlO o → NwPs xs ys (upd H T (.frz o (.tup [x, y]))) fun ts H' => k (.ref T :: ts) H'
  | _, _, H, k => k [] H
inductive Prs (h : Heap) (b : Nat) : List V → List V → List Addr → Prop
  | nil : Prs h b [] [] []
  | cons {x y : V} {u u2 : Value} {T : Addr} {xs ys : List V} {Ts : List Addr} (r : RelV x u) (r2 : RelV y u2) (p : IsPair h T u u2) (l : b ≤ T) (n : T ∉ Ts) (t : Prs h b xs ys Ts) : Prs h b (x :: xs) (y :: ys) (T :: Ts)
section
variable {fs ex : List Addr} {H H1 : Hp} {h h' : Heap} {a : Addr} {o : HO}
theorem un_more (u : Un fs ex H H1 h h') (hp : h.get? a = none) (hn : H1 a = none) : Un fs ex H (upd H1 a o) h h' where
  keep := u.keep
  slot := u.slot
  free := fun b ob q n hx => by rw [upd_ne (fun z => by rw [z, hp] at q; cases q)]; exact u.free b ob q n hx
  there := u.there
  tups := fun b xs q => by
    have e := u.tups b xs q
    rw [upd_ne (ne_of_none e hn)]; exact e
  frzs := fun b ob v q => by
    have e := u.frzs b ob v q
    rw [upd_ne (ne_of_none e hn)]; exact e
  tbls := fun b ps q => by
    obtain ⟨m, e⟩ := u.tbls b ps q
    exact ⟨m, by rw [upd_ne (ne_of_none e hn)]; exact e⟩
theorem get_none (hp : h.objs.size ≤ a) : h.get? a = none := by
  cases e : h.get? a with
  | none => rfl
  | some o => exact absurd (Nat.lt_of_lt_of_le (Heap.lt_size e) hp) (Nat.lt_irrefl _)
end
theorem nwps_run {P : Program} {w : World} {fs : List Addr} {H : Hp} {h h' : Heap} {b : Nat} (hb : h.objs.size ≤ b) {xs ys : List V} {Ts : List Addr} (p : Prs h' b xs ys Ts) : ∀ {H1 : Hp} {k : List V → Hp → Prop}, Un fs [] H H1 h h' → HOk P w H1 h' → (∀ T ∈ Ts, H1 T = none) → NwPs xs ys H1 k →
    ∃ H2, Un fs [] H H2 h h' ∧ HOk P w H2 h' ∧ k (Ts.map V.ref) H2 := by
  induction p with
  | nil => exact fun u ok _ q => ⟨_, u, ok, q⟩
  | @cons x y u1 u2 T xs ys Ts r r2 p l n t ih =>
    intro H1 k u ok hT q
    have hn := hT T (List.mem_cons_self ..)
    have new : ObjOk P w (upd H1 T (.frz { cls := .type "tuple", data := .seq #[u1, u2] } (.tup [x, y]))) h' T (.frz { cls := .type "tuple", data := .seq #[u1, u2] } (.tup [x, y])) :=
      ⟨p, by show 2 ≤ sizeLine; decide, [u1, u2], .cons r (.cons r2 .nil), ⟨_, p, rfl, _, rfl⟩⟩
    obtain ⟨H2, a1, a2, a3⟩ := ih (un_more u (get_none (Nat.le_trans hb l)) hn) (HOk.laidN ok (fun _ _ e => e) hn new) (fun T' hT' => by
      rw [upd_ne (fun z => n (by rw [← z]; exact hT'))]
      exact hT T' (List.mem_cons_of_mem _ hT')) (q T { cls := .type "tuple", data := .seq #[u1, u2] } hn ⟨rfl, rfl, _, _, rfl⟩)
    exact ⟨H2, a1, a2, a3⟩
theorem prs_of {h : Heap} {b : Nat} : ∀ {xs ys : List V} {its its2 acc : List Value}, Vals xs its → Vals ys its2 → acc.length = its.length → its.length = its2.length →
    (∀ (j : Nat) (v : Value), acc[j]? = some v → ∃ T x y, v = Value.ref T ∧ b ≤ T ∧ its[j]? = some x ∧ its2[j]? = some y ∧ IsPair h T x y) → (∀ (j k : Nat) (v : Value), acc[j]? = some v → acc[k]? = some v → j = k) →
    ∃ Ts, Prs h b xs ys Ts ∧ acc = Ts.map Value.ref
  | _, _, _, _, [], .nil, .nil, _, _, _, _ => ⟨[], .nil, rfl⟩
  | _, _, _, _, v :: acc, .nil, .nil, hl, _, _, _ => by simp at hl
  | _, _, _, _, [], .cons _ _, .cons _ _, hl, _, _, _ => by simp at hl
  | _, _, _, _, _, .nil, .cons _ _, _, hl, _, _ => by simp at hl
  | _, _, _, _, _, .cons _ _, .nil, _, hl, _, _ => by simp at hl
  | _, _, _, _, v :: acc, .cons r t, .cons r2 t2, hl, hl2, q, inj => by
    obtain ⟨T, x, y, rfl, l, e1, e2, p⟩ := q 0 v rfl
    cases e1
    cases e2
    obtain ⟨Ts, pr, rfl⟩ := prs_of (acc := acc) t t2 (by simpa using hl) (by simpa using hl2) (fun j v e => q (j + 1) v e) (fun j k v e e2 => by have := inj (j + 1) (k + 1) v e e2; omega)
    refine ⟨T :: Ts, .cons r r2 p l (fun hm => ?_) pr, rfl⟩
    obtain ⟨j, hj⟩ := List.getElem?_of_mem (List.mem_map_of_mem (f := Value.ref) hm)
    have := inj 0 (j + 1) (.ref T) rfl hj
    omega
def tTupZip (K : KP) (ta : TA) : TE := fun σ H Q => ta σ H fun vs H1 => ∃ a b xs ys, vs = [.ref a, .ref b] ∧ SqL K H1 a xs ∧ SqL K H1 b ys ∧ xs.length = ys.length ∧ NwPs xs ys H1 fun ts H2 => NwT ts H2 Q
theorem vals_refs : ∀ Ts : List Addr, Vals (Ts.map V.ref) (Ts.map Value.ref)
  | [] => .nil
  | T :: Ts => .cons rfl (vals_refs Ts)
section
variable {X : Cx} {e e2 : Expr} {ta : TA} {p p2 pos pos2 : Pos}
theorem pe_tupZip (hc : X.calm = true) (hg : Gl X "tuple") (hm : X.mg "tuple" = none) (hg2 : Gl X "zip") (hm2 : X.mg "zip" = none) (ha : PA X [e, e2] ta)
    (hs : starEach [e, e2] X.env = (false, eval e X.env) :: starEach [e2] X.env := by rfl) (hpl : (backTo pos2 (starEach [e2] X.env)).any (·.1) = false := by rfl)
    (hs2 : starEach [.Call (.Name "zip" p2) [e, e2] [] pos2] X.env = (false, eval (.Call (.Name "zip" p2) [e, e2] [] pos2) X.env) :: starEach [] X.env := by rfl) :
    PE X (.Call (.Name "tuple" p) [.Call (.Name "zip" p2) [e, e2] [] pos2] [] pos) (tTupZip X.kp ta) := by
  refine ⟨fun pins s σ H Q I h => ?_⟩
  refine Call_ (ld_blt I hg hm boot_tuple (PyProof.Rows.callWith_type1 (args_cons (Call_ (ld_blt I hg2 hm2 PyProof.Rows.boot_zip (PyProof.Rows.callWith_type1 (thn (ha.run pos2 pins s σ H _ I h) fun us s1 ⟨vs, H1, I1, r1, q1⟩ => ?_) hs hpl))) hs2) hs2 rfl))
  obtain ⟨a, b, xs, ys, ex, hqx, hqy, hxy, q⟩ := q1
  subst ex
  cases r1 with
  | cons r rr =>
    cases rr with
    | cons r' rr =>
      cases rr
      cases r
      cases r'
      obtain ⟨its, rv, p1, hz1⟩ := I1.list hqx
      obtain ⟨its2, rv2, p2', hz2⟩ := I1.list hqy
      refine call_zip_2 p1.isList p2'.isList fun h' hz hTI hTO h1 h2 hsz hk => args_nil ?_
      have l1 := rv.length
      have l2 := rv2.length
      refine call_tuple_zip (s := { s1 with heap := h' }) (xs := its.toArray) (ys := its2.toArray) (I1.ok.hd hc) (PySem.W.ktu_apart s1.heap.objs.size a b p1.lt p2'.lt) (by rw [List.size_toArray]; omega) (by rw [List.size_toArray, List.size_toArray]; omega) hz hTI ⟨_, _, hTO⟩ h1 h2 (p1.isList.at fun o e => hk _ _ e) (p2'.isList.at fun o e => hk _ _ e) fun h'' acc q1 q2 q3 q4 => ?_
      have kept : ∀ c o, s1.heap.get? c = some o → h''.get? c = some o := fun c o e => by
        have := Heap.lt_size e
        exact q4 c o (Nat.ne_of_lt (Nat.lt_of_lt_of_le this (Nat.le_add_right _ _))) (Nat.ne_of_lt (Nat.lt_of_lt_of_le this (Nat.le_add_right _ _))) (Nat.ne_of_lt this) (Nat.ne_of_lt (Nat.lt_of_lt_of_le this (Nat.le_add_right _ _))) (hk c o e)
      have hsz' : s1.heap.objs.size ≤ h'.objs.size := by rw [hsz]; exact Nat.le_add_right _ _
      obtain ⟨Ts, pr, eacc⟩ := prs_of (h := h'') (b := h'.objs.size) (acc := acc.toList) rv rv2 (by rw [Array.length_toList, q1, List.size_toArray]) (by omega) (fun j v e => by
        obtain ⟨T, x, y, a1, a2, a3, a4, a5⟩ := q2 j v (by simpa using e)
        exact ⟨T, x, y, a1, a2, by simpa using a3, by simpa using a4, a5⟩) (fun j k v e e2 => q3 j k v (by simpa using e) (by simpa using e2))
      have fresh : ∀ T ∈ Ts, H1 T = none := by
        have : ∀ {xs ys : List V} {Ts : List Addr}, Prs h'' h'.objs.size xs ys Ts → ∀ T ∈ Ts, h'.objs.size ≤ T := fun pr => by
          induction pr with
          | nil => intro T h; cases h
          | cons _ _ _ l _ _ ih =>
            intro T h
            rcases List.mem_cons.mp h with rfl | h
            · exact l
            · exact ih T h
        exact fun T hT => I1.hok.fresh (Nat.le_trans hsz' (this pr T hT))
      obtain ⟨H2, u, ok, q5⟩ := nwps_run (fs := X.fs) hsz' pr (Un.kept kept) (I1.hok.kept kept) fresh q
      have I3 : Inv X pins σ H2 { s1 with heap := h'' } := I1.un (t' := s1.toks) u ok
      have hlen : (Ts.map V.ref).length ≤ sizeLine := by
        have : Ts.length = acc.toList.length := by rw [eacc, List.length_map]
        rw [List.length_map, this, Array.length_toList, q1, List.size_toArray]; omega
      exact laidT (s := { s1 with heap := h'' }) (h' := h'') (k := s1.toks) I3 (fun _ _ e => e) hlen (by rw [eacc]; exact vals_refs Ts) q5
end
end Pk

set_option maxHeartbeats 1000000
namespace Pk
open PySem PySem.Spec PyProof.Rows L2
/-! ### tuple(zip(x, y)) of two lists of one length -/
def tzL : List D → List D → List D := List.zipWith fun a b => .tup [a, b]
def tzD : List D → Option D
  | [.lst xs, .lst ys] => if xs.length = ys.length then some (.tup (tzL xs ys)) else none
  | _ => none
theorem fin_pairs {K : KP} : ∀ {xs ys : List D} {us ws : List V} {G H : Hp} {k : List V → Hp → Prop}, Reps K G xs us → Reps K G ys ws → xs.length = ys.length → Same G H →
    (∀ ts G2 H2, Ext G H G2 H2 → Reps K G2 (tzL xs ys) ts → k ts H2) → NwPs us ws H k
  | [], [], us, ws, G, H, k, r, r2, _, s, hk => by
    obtain rfl := r.nil_inv
    obtain rfl := r2.nil_inv
    exact hk [] G H (Ext.refl _ _) .nil
  | x :: xs, y :: ys, us, ws, G, H, k, r, r2, hl, s, hk => by
    obtain ⟨u, us, rfl, ru, r⟩ := r.cons_inv
    obtain ⟨w, ws, rfl, rw', r2⟩ := r2.cons_inv
    intro T o hT hp
    have ex := Ext.new s hT (.frz o (.tup [u, w]))
    refine fin_pairs (Reps.mono ex.le _ _ r) (Reps.mono ex.le _ _ r2) (by simpa using hl) (ex.sub s) fun ts G2 H2 ex2 rts => hk _ G2 H2 (ex.trans ex2) (.cons ?_ rts)
    exact Rep.mono ex2.le _ _ (Rep.tup_of (.inl ⟨o, upd_same, hp⟩) (.cons (Rep.mono ex.le _ _ ru) (.cons (Rep.mono ex.le _ _ rw') .nil)))
section
variable {Θ : List (Addr × Str)} {X : Cx} {e e2 : Expr} {ml : M (List D)} {p p2 pos pos2 : Pos}
theorem se_tupZip (hc : X.calm = true) (hg : Gl X "tuple") (hm : X.mg "tuple" = none) (hg2 : Gl X "zip") (hm2 : X.mg "zip" = none) (ha : SA Θ X [e, e2] ml)
    (hs : starEach [e, e2] X.env = (false, eval e X.env) :: starEach [e2] X.env := by rfl) (hpl : (backTo pos2 (starEach [e2] X.env)).any (·.1) = false := by rfl)
    (hs2 : starEach [.Call (.Name "zip" p2) [e, e2] [] pos2] X.env = (false, eval (.Call (.Name "zip" p2) [e, e2] [] pos2) X.env) :: starEach [] X.env := by rfl) :
    SE Θ X (.Call (.Name "tuple" p) [.Call (.Name "zip" p2) [e, e2] [] pos2] [] pos) (bd ml fun ds => of (tzD ds)) :=
  pe_imp (pe_tupZip hc hg hm hg2 hm2 ha hs hpl hs2) fun σ H Q q => by
    obtain ⟨G, r, R, c⟩ := q
    refine ⟨G, r, R, (cn_bd c).mono fun xs G1 H1 ⟨r1, R1, s1, c1⟩ vs rs => ?_⟩
    obtain ⟨z, hz, k⟩ := cn_of R1 c1
    unfold tzD at hz
    split at hz
    · split at hz
      · rename_i xs ys hl
        cases hz
        obtain ⟨v1, t1, rfl, r1, t1⟩ := rs.cons_inv
        obtain ⟨v2, rfl, r2⟩ := t1.one
        obtain ⟨a, us, rfl, q, rr⟩ := r1.lst_inv
        obtain ⟨b, ws, rfl, q2, rr2⟩ := r2.lst_inv
        refine ⟨a, b, us, ws, rfl, .inl (rd_mono R1.sub q), .inl (rd_mono R1.sub q2), by have h1 := rr.length; have h2 := rr2.length; omega, ?_⟩
        exact fin_pairs rr rr2 hl R1.sub fun ts G2 H2 ex rts => fin_tup (ex.sub R1.sub) (fun G' H' v ex2 rv => k G' H' (ex.trans ex2) v rv) rts
      · cases hz
    · cases hz
end
theorem o_tz {P : D → Ro → Prop} {r : Ro} {xs ys : List D} (hl : xs.length = ys.length) (h : P (.tup (tzL xs ys)) r) : wp (of (tzD [.lst xs, .lst ys])) P r := w_of (show (if xs.length = ys.length then some (D.tup (tzL xs ys)) else none) = _ from if_pos hl) h
end Pk

set_option maxHeartbeats 1000000
namespace Pk
open PySem PySem.Spec PyProof.Rows L2
/-! ### sum of a list of ints -/
def intsD : List D → Option (List Int)
  | [] => some []
  | .int b :: ds => (intsD ds).map fun bs => b :: bs
  | _ :: _ => none
theorem ints_reps {K : KP} {G : Hp} : ∀ {ds : List D} {bs : List Int} {vs : List V}, intsD ds = some bs → Reps K G ds vs → vs = bs.map V.int
  | [], bs, vs, h, r => by cases h; rw [r.nil_inv]; rfl
  | d :: ds, bs, vs, h, r => by
    cases d with
    | int b =>
      simp only [intsD] at h
      cases e : intsD ds with
      | none => rw [e] at h; cases h
      | some cs =>
        rw [e] at h
        cases h
        obtain ⟨v, us, rfl, q, t⟩ := r.cons_inv
        rw [q.int_inv, ints_reps e t]
        rfl
    | _ => simp [intsD] at h
def sumD : List D → Option D
  | [.lst ds] => (intsD ds).map fun bs => .int bs.sum
  | _ => none
theorem cg_sum {X : Cx} (hc : X.calm = true) : CallG X (.builtin "sum") sumD := by
  refine ⟨_, cr_sum hc, fun xs z e G H vs Q s rs k => ?_⟩
  unfold sumD at e
  split at e
  · rename_i ds
    cases e2 : intsD ds with
    | none => rw [e2] at e; cases e
    | some bs =>
      rw [e2] at e
      cases e
      obtain ⟨v, rfl, r⟩ := rs.one
      obtain ⟨a, us, rfl, q, rr⟩ := r.lst_inv
      obtain rfl := ints_reps e2 rr
      exact ⟨a, bs, rfl, .inl (rd_mono s q), fin_flat k .int_of⟩
  · cases e
theorem bo_sum : bootBuiltins "sum" = some (.builtin "sum") := by decide +kernel
theorem ints_map {α : Type} (p : α → Int) : ∀ xs : List α, intsD (xs.map fun x => .int (p x)) = some (xs.map p)
  | [] => rfl
  | x :: xs => by simp only [List.map_cons, intsD, ints_map p xs]; rfl
theorem sum_map {α : Type} (p : α → Int) (xs : List α) : sumD [.lst (xs.map fun x => .int (p x))] = some (.int (xs.map p).sum) := by
  simp only [sumD, ints_map p xs, Option.map_some]
end Pk

set_option maxHeartbeats 1000000
namespace Pk
open PySem PySem.Spec PyProof.Rows L2
/-! ### data that the module names -/
def GV (K : PySem.W.Frag) (mg : Str → Option Value) (c : Str) (d : D) : Prop := ∃ v u, mg c = some u ∧ RelV v u ∧ ∀ P w G, Rep ⟨K, P, w⟩ G d v
section
variable {Θ : List (Addr × Str)} {X : Cx}
theorem se_glb {c : Str} {p : Pos} {d : D} (hg : Gl X c) (h : GV X.K X.mg c d) (hd : (c == ("__debug__" : Str)) = false := by decide) : SE Θ X (.Name c p) (Pk.rt d) := by
  obtain ⟨v, u, hm, hr, hp⟩ := h
  exact se_const (pe_glob hg hm hr hd) (hp X.prog X.w)
end
section
variable {K : PySem.W.Frag} {L : KP} {h : Heap} {mg : Str → Option Value} {c : Str}
theorem gv_int {i : Int} {t} (X : K.In h) (G : h.Ns mainGlobals mg) (a : PySem.W.nsIn K mainGlobals c = some (some (.int i t))) : GV K mg c (.int i) :=
  ⟨.int i, _, PySem.W.mg_of X G a, ⟨_, rfl⟩, fun _ _ _ => .int_of⟩
theorem gv_str {x : Str} {t} (X : K.In h) (G : h.Ns mainGlobals mg) (a : PySem.W.nsIn K mainGlobals c = some (some (.str x t))) : GV K mg c (.str x) :=
  ⟨.str x, _, PySem.W.mg_of X G a, ⟨_, rfl⟩, fun _ _ _ => .str_of⟩
theorem gv_tup {q : Addr} {its : Array Value} {n : Nat} {sl : Array (Option Value)} {ds : List D} (vs : List V) (X : K.In h) (G : h.Ns mainGlobals mg) (a : PySem.W.nsIn K mainGlobals c = some (some (.ref q)))
    (l : K.lookup q = some ⟨.type "tuple", none, .seq its n, sl⟩) (hs : its.size ≤ sizeLine) (hv : Vals vs its.toList) (hr : ∀ P w G, Reps ⟨K, P, w⟩ G ds vs) : GV K mg c (.tup ds) :=
  ⟨.ref q, _, PySem.W.mg_of X G a, rfl, fun P w G' => .tup_of (.inr ⟨_, _, _, l, rfl, rfl, rfl, hs, hv⟩) (hr P w G')⟩
theorem reps_nil {G : Hp} : Reps L G [] [] := by rw [Reps]
theorem reps_str {G : Hp} {x : Str} {ds : List D} {vs : List V} (h : Reps L G ds vs) : Reps L G (.str x :: ds) (.str x :: vs) := by
  rw [Reps]; exact ⟨_, _, rfl, .str_of, h⟩
theorem reps_int {G : Hp} {x : Int} {ds : List D} {vs : List V} (h : Reps L G ds vs) : Reps L G (.int x :: ds) (.int x :: vs) := by
  rw [Reps]; exact ⟨_, _, rfl, .int_of, h⟩
end
end Pk

set_option maxHeartbeats 1000000
namespace Pk
open PySem PySem.Spec PyProof.Rows L2
/-! ### a, b = x, y with plain names -/
def par2 (i j : Nat) : List D → Ro → Option Ro
  | [d, e] => fun r => (setD i d r).bind (setD j e)
  | _ => fun _ => none
section
variable {Θ : List (Addr × Str)} {X : Cx} {a b : Expr} {ml : M (List D)} {pos : Pos}
theorem ss_par {i j : Nat} {x y : Str} {px py pt : Pos} {kt k2 pt2} (hc : X.calm = true) (hN : X.N.Nodup) (hi : X.N[i]? = some x) (hj : X.N[j]? = some y) (hij : i ≠ j)
    (hx : X.env.scope.names.lookup x = some .local) (hy : X.env.scope.names.lookup y = some .local) (ha : SA Θ X [a, b] ml)
    (hw : swappedStores [.Tuple [.Name x px, .Name y py] kt pt] (.Tuple [a, b] k2 pt2) X.env = pure (some [x, y]))
    (hs : swapsWithSole [.Tuple [.Name x px, .Name y py] kt pt] (.Tuple [a, b] k2 pt2) pos.line X.env = pure false := by rfl) :
    SS Θ X (.Assign [.Tuple [.Name x px, .Name y py] kt pt] (.Tuple [a, b] k2 pt2) pos) (bd ml fun ds => nxt (par2 i j ds)) := ps_imp (ps_par hc hN hi hj hij hx hy ha hw hs) fun σ H E q => by
  obtain ⟨G, r0, R, c⟩ := q
  refine ⟨G, r0, R, (cs_bd c).mono fun ds G2 H2 ⟨r2, R2, s2, c2⟩ vs rs => ?_⟩
  obtain ⟨r4, e4, k⟩ := cs_nxt c2
  match ds, e4 with
  | [d, e], e4 =>
    obtain ⟨v, us, rfl, q1, t1⟩ := rs.cons_inv
    obtain ⟨w, us', rfl, q2, t2⟩ := t1.cons_inv
    obtain rfl := t2.nil_inv
    obtain ⟨r3, e3, e5⟩ := Option.bind_eq_some_iff.mp e4
    obtain ⟨R3, F3⟩ := setD_rel R2 e3 q1
    obtain ⟨R4, F4⟩ := setD_rel R3 e5 q2
    exact ⟨v, w, rfl, k _ _ _ R4 (F3.trans F4)⟩
  | [], e4 => cases e4
  | [_], e4 => cases e4
  | _ :: _ :: _ :: _, e4 => cases e4
end
end Pk

set_option maxHeartbeats 1000000
namespace Pk
open PySem PySem.Spec PyProof.Rows L2
/-! ### dicts of the module that hold data -/
def EntsR (K : PySem.W.Frag) : List DictEntry → List (Str × D) → Prop
  | [], [] => True
  | e :: es, p :: T => (∃ t, e.key = .str p.1 t) ∧ (∃ v, RelV v e.val ∧ ∀ P w G, Rep ⟨K, P, w⟩ G p.2 v) ∧ EntsR K es T
  | _, _ => False
structure KTab (K : PySem.W.Frag) (w : World) (a : Addr) (T : List (Str × D)) : Prop where
  ex : ∃ es n, K.lookup a = some ⟨.type "dict", none, .dict es n, #[]⟩ ∧ PySem.W.KeysLit w.params es.toList ∧ EntsR K es.toList T
  low : (a == sysModules) = false
def ktD (T : List (Str × D)) : D → Option D
  | .str z => T.lookup z
  | _ => none
def ktIn (T : List (Str × D)) : D → Option D
  | .str z => some (.bl (T.lookup z).isSome)
  | _ => none
def ktNotIn (T : List (Str × D)) : D → Option D
  | .str z => some (.bl (!(T.lookup z).isSome))
  | _ => none
section
variable {K : PySem.W.Frag}
theorem ents_find : ∀ {es : List DictEntry} {T : List (Str × D)} (h : EntsR K es T) (x : Str),
    (∃ d e v, T.lookup x = some d ∧ es.find? (fun e => e.key.isStr x) = some e ∧ RelV v e.val ∧ ∀ P w G, Rep ⟨K, P, w⟩ G d v) ∨
    (T.lookup x = none ∧ es.find? (fun e => e.key.isStr x) = none)
  | [], [], _, x => .inr ⟨rfl, rfl⟩
  | e :: es, (k, d) :: T, ⟨⟨t, ek⟩, ⟨v, rv, rp⟩, h⟩, x => by
    have hs : e.key.isStr x = (k == x) := by rw [ek, PySem.W.isStr_of]; rfl
    by_cases hx : (k == x) = true
    · refine .inl ⟨d, e, v, ?_, ?_, rv, rp⟩
      · have : k = x := by simpa using hx
        subst this
        simp [List.lookup]
      · simp [List.find?, hs, hx]
    · have hx' : (k == x) = false := by simpa using hx
      have hn : (x == k) = false := by
        cases e : (x == k) with
        | false => rfl
        | true =>
          have : x = k := by simpa using e
          subst this
          exact absurd (by simp) hx
      rcases ents_find h x with ⟨d', e', v', h1, h2, h3, h4⟩ | ⟨h1, h2⟩
      · exact .inl ⟨d', e', v', by simp only [List.lookup, hn]; exact h1, by simp only [List.find?, hs, hx']; exact h2, h3, h4⟩
      · exact .inr ⟨by simp only [List.lookup, hn]; exact h1, by simp only [List.find?, hs, hx']; exact h2⟩
  | [], _ :: _, h, x => h.elim
  | _ :: _, [], h, x => h.elim
theorem ents_ref : ∀ {es : List DictEntry} {T : List (Str × D)} (h : EntsR K es T), es.any (·.refKey) = false
  | [], [], _ => rfl
  | e :: es, p :: T, ⟨⟨t, ek⟩, _, h⟩ => by
    rw [List.any_cons, ents_ref h, Bool.or_false]
    unfold DictEntry.refKey
    rw [ek] <;> rfl
  | [], _ :: _, h => h.elim
  | _ :: _, [], h => h.elim
theorem KTab.at_ {w : World} {a : Addr} {T : List (Str × D)} (h : KTab K w a T) {x : Str} {d : D} (e : T.lookup x = some d) : ∃ v, KDct K w a x v ∧ ∀ P w G, Rep ⟨K, P, w⟩ G d v := by
  obtain ⟨es, n, hl, hk, hr⟩ := h.ex
  rcases ents_find hr x with ⟨d', e', v, h1, h2, h3, h4⟩ | ⟨h1, _⟩
  · rw [e] at h1
    cases h1
    refine ⟨v, ⟨es, n, e'.val, hl, hk, ?_, h3⟩, h4⟩
    unfold PySem.W.nsIn
    rw [hl]
    dsimp only
    rw [h2]
  · rw [e] at h1; cases h1
theorem KTab.ns {w : World} {a : Addr} {T : List (Str × D)} (h : KTab K w a T) (x : Str) : ∃ o, PySem.W.nsIn K a x = some o ∧ o.isSome = (T.lookup x).isSome := by
  obtain ⟨es, n, hl, hk, hr⟩ := h.ex
  rcases ents_find hr x with ⟨d', e', v, h1, h2, h3, h4⟩ | ⟨h1, h2⟩
  · refine ⟨some e'.val, ?_, by rw [h1]; rfl⟩
    unfold PySem.W.nsIn
    rw [hl]
    dsimp only
    rw [h2]
  · refine ⟨none, ?_, by rw [h1]; rfl⟩
    unfold PySem.W.nsIn
    rw [hl]
    dsimp only
    rw [h2]
    dsimp only
    rw [if_neg (by rw [ents_ref hr]; exact Bool.false_ne_true)]
end
section
variable {Θ : List (Addr × Str)} {X : Cx} {t : Str} {pt ps pos : Pos} {w : Expr} {mw : M D} {tp : Addr} {T : List (Str × D)}
theorem se_kix (hg : Gl X t) (hm : X.mg t = some (.ref tp)) (hT : KTab X.K X.w tp T) (hw : SE Θ X w mw) (hsx : PlainIx w) (hdt : (t == ("__debug__" : Str)) = false := by decide) :
    SE Θ X (.Subscript (.Name t pt) w ps) (bd mw fun d => of (ktD T d)) := pe_imp (pe_ix ix_kdict (pe_glob hg hm (v := .ref tp) rfl hdt) hw hsx) fun σ H Q q => by
  obtain ⟨G, r, R, c⟩ := q
  refine ⟨G, r, R, (cn_bd c).mono fun d G1 H1 ⟨r1, R1, s1, c1⟩ v rv => ?_⟩
  obtain ⟨z, hz, k⟩ := cn_of R1 c1
  cases d with
  | str x =>
    obtain rfl := rv.str_inv
    obtain ⟨v, kd, rp⟩ := hT.at_ hz
    exact ⟨tp, x, v, rfl, rfl, kd, k G1 H1 (Ext.refl _ _) v (rp _ _ _)⟩
  | _ => cases hz
theorem op_inKT (hT : KTab X.K X.w tp T) : OpR X (compareOp .In) fun x y H Q => ∃ z, x = .str z ∧ y = .ref tp ∧ Q (.bl (T.lookup z).isSome) H := by
  intro pins s σ H x y v u Q I rx ry h
  obtain ⟨z, rfl, rfl, q⟩ := h
  obtain rfl : u = Value.ref tp := ry
  obtain ⟨t, rfl⟩ := rx
  obtain ⟨es, n, hl, hk, hr⟩ := hT.ex
  obtain ⟨o, e1, e2⟩ := hT.ns z
  refine wpAny_in_of (strKind_is X.prog X.w z t) hT.low (PySem.W.mapOf_K (prog := X.prog) (w := X.w) I.kIn hl hk) ?_
  rw [PySem.W.find_K hl e1]
  exact ⟨.bl (T.lookup z).isSome, H, I.tok _, by rw [e2]; rfl, q⟩
theorem op_notInKT (hT : KTab X.K X.w tp T) : OpR X (compareOp .NotIn) fun x y H Q => ∃ z, x = .str z ∧ y = .ref tp ∧ Q (.bl (!(T.lookup z).isSome)) H := by
  intro pins s σ H x y v u Q I rx ry h
  obtain ⟨z, rfl, rfl, q⟩ := h
  obtain rfl : u = Value.ref tp := ry
  obtain ⟨t, rfl⟩ := rx
  obtain ⟨es, n, hl, hk, hr⟩ := hT.ex
  obtain ⟨o, e1, e2⟩ := hT.ns z
  refine wpAny_notIn_of (strKind_is X.prog X.w z t) hT.low (PySem.W.mapOf_K (prog := X.prog) (w := X.w) I.kIn hl hk) ?_
  rw [PySem.W.find_K hl e1]
  exact ⟨.bl (!(T.lookup z).isSome), H, I.tok _, by rw [e2]; rfl, q⟩
theorem se_kin (hg : Gl X t) (hm : X.mg t = some (.ref tp)) (hT : KTab X.K X.w tp T) (hw : SE Θ X w mw) (hdt : (t == ("__debug__" : Str)) = false := by decide) :
    SE Θ X (.Compare w [.In] [.Name t pt] pos) (bd mw fun d => of (ktIn T d)) := pe_imp (pe_cmpR (op_inKT hT) hw (pe_glob hg hm (v := .ref tp) rfl hdt) rfl) fun σ H Q q => by
  obtain ⟨G, r, R, c⟩ := q
  refine ⟨G, r, R, (cn_bd c).mono fun d G1 H1 ⟨r1, R1, s1, c1⟩ v rv => ?_⟩
  obtain ⟨z, hz, k⟩ := cn_of R1 c1
  cases d with
  | str x =>
    obtain rfl := rv.str_inv
    cases hz
    exact ⟨x, rfl, rfl, k G1 H1 (Ext.refl _ _) _ .bl_of⟩
  | _ => cases hz
theorem se_knotin (hg : Gl X t) (hm : X.mg t = some (.ref tp)) (hT : KTab X.K X.w tp T) (hw : SE Θ X w mw) (hdt : (t == ("__debug__" : Str)) = false := by decide) :
    SE Θ X (.Compare w [.NotIn] [.Name t pt] pos) (bd mw fun d => of (ktNotIn T d)) := pe_imp (pe_cmpR (op_notInKT hT) hw (pe_glob hg hm (v := .ref tp) rfl hdt) rfl) fun σ H Q q => by
  obtain ⟨G, r, R, c⟩ := q
  refine ⟨G, r, R, (cn_bd c).mono fun d G1 H1 ⟨r1, R1, s1, c1⟩ v rv => ?_⟩
  obtain ⟨z, hz, k⟩ := cn_of R1 c1
  cases d with
  | str x =>
    obtain rfl := rv.str_inv
    cases hz
    exact ⟨x, rfl, rfl, k G1 H1 (Ext.refl _ _) _ .bl_of⟩
  | _ => cases hz
/-- as a test -/
theorem st_kin (hg : Gl X t) (hm : X.mg t = some (.ref tp)) (hT : KTab X.K X.w tp T) (hw : SE Θ X w mw) (hdt : (t == ("__debug__" : Str)) = false := by decide) :
    STs Θ X (.Compare w [.In] [.Name t pt] pos) (bd (bd mw fun d => of (ktIn T d)) fun x => of (asB x)) := by
  refine pt_imp (pt_cmpR (op_inKT hT) hw (pe_glob hg hm (v := .ref tp) rfl hdt) rfl) fun σ H Q q => ?_
  have q' := tb_read q
  obtain ⟨G, r, R, c⟩ := q'
  refine ⟨G, r, R, (cn_bd c).mono fun d G1 H1 ⟨r1, R1, s1, c1⟩ v rv => ?_⟩
  obtain ⟨z, hz, k⟩ := cn_of R1 c1
  cases d with
  | str x =>
    obtain rfl := rv.str_inv
    cases hz
    exact ⟨x, rfl, rfl, k G1 H1 (Ext.refl _ _) _ .bl_of⟩
  | _ => cases hz
/-- data held in the dict: a flat tuple -/
theorem kd_tup {K : PySem.W.Frag} {q : Addr} {its : Array Value} {n : Nat} {sl : Array (Option Value)} {ds : List D} (vs : List V) (l : K.lookup q = some ⟨.type "tuple", none, .seq its n, sl⟩) (hs : its.size ≤ sizeLine) (hv : Vals vs its.toList) (hr : ∀ P w G, Reps ⟨K, P, w⟩ G ds vs) :
    ∃ v, RelV v (.ref q) ∧ ∀ P w G, Rep ⟨K, P, w⟩ G (.tup ds) v := ⟨.ref q, rfl, fun P w G' => .tup_of (.inr ⟨_, _, _, l, rfl, rfl, rfl, hs, hv⟩) (hr P w G')⟩
theorem kd_str {K : PySem.W.Frag} {x : Str} {t : Tok} : ∃ v, RelV v (.str x t) ∧ ∀ P w G, Rep ⟨K, P, w⟩ G (.str x) v := ⟨.str x, ⟨_, rfl⟩, fun _ _ _ => .str_of⟩
theorem kd_int {K : PySem.W.Frag} {x : Int} {t : Tok} : ∃ v, RelV v (.int x t) ∧ ∀ P w G, Rep ⟨K, P, w⟩ G (.int x) v := ⟨.int x, ⟨_, rfl⟩, fun _ _ _ => .int_of⟩
theorem reps_bl {K : KP} {G : Hp} {x : Bool} {ds : List D} {vs : List V} (h : Reps K G ds vs) : Reps K G (.bl x :: ds) (.bl x :: vs) := by
  rw [Reps]; exact ⟨_, _, rfl, .bl_of, h⟩
end
end Pk

set_option maxHeartbeats 1000000
namespace Pk
open PySem PySem.Spec PyProof.Rows L2
variable {Θ : List (Addr × Str)} {K : KP}
/-! ### x[::-1] -/
def revLD : D → Option (List D)
  | .lst ds => some ds.reverse
  | .ro ds => some ds.reverse
  | _ => none
theorem sf_revL {X : Cx} {e : Expr} {m : M D} {k : Nat} {p1 p2 p3 pos : Pos} (he : SE Θ X e m) : SF Θ X (.Subscript e (.Slice none none (some (.UnaryOp .USub (.Constant (.int 1) k p1) p2)) p3) pos) (bd m fun d => of (revLD d)) := pe_imp (pe_revL he) fun σ H Q q => by
  obtain ⟨G, r, R, ds, r', e, k⟩ := q
  obtain ⟨x, r1, e1, e2⟩ := bd_some e
  obtain ⟨e5, rfl⟩ := of_some e2
  refine ⟨G, r, R, x, r', e1, fun G1 H1 R1 F1 vx rx => ?_⟩
  have fin : ∀ {a : Addr} {vs : List V} {xs : List D}, SqL X.kp G1 a vs → Reps X.kp G1 xs vs → ds = xs.reverse → ∃ a' xs', V.ref a = V.ref a' ∧ SqL X.kp H1 a' xs' ∧ ∀ p, H1 p = none → Q (.ref p) (upd H1 p (.lst xs'.reverse)) := fun {a vs xs} hq hr hd => by
    refine ⟨a, vs, rfl, sqL_mono R1.sub hq, fun p hp => ?_⟩
    obtain ⟨R3, F3⟩ := new_side R1 hp (.lst vs.reverse)
    obtain ⟨g, n⟩ := new_out R1 hp
    rw [hd] at k
    exact k G1 _ p _ R3 (F1.trans F3) (F1.mono p (nw_none hp)) upd_same g n hr.rev
  cases x with
  | lst xs =>
    cases e5
    obtain ⟨a, vs, rfl, h1, r1⟩ := rx.lst_inv
    exact fin (.inl h1) r1 rfl
  | ro xs =>
    cases e5
    obtain ⟨a, vs, rfl, h1, r1⟩ := rx.ro_inv
    exact fin h1 r1 rfl
  | _ => cases e5
/-! ### arguments that stand still -/
def dS (ds : List D) : Ro := ds.map fun d => some (.d d)
theorem dS_at {ds : List D} {i : Nat} {x : S} (h : (dS ds)[i]? = some (some x)) : ∃ d, ds[i]? = some d ∧ x = .d d := by
  unfold dS at h
  rw [List.getElem?_map] at h
  cases e : ds[i]? with
  | none => rw [e] at h; cases h
  | some d => rw [e] at h; cases h; exact ⟨d, rfl, rfl⟩
theorem rel_ds {G H : Hp} {ds : List D} {vs : List V} (t : Tb Θ G H) (s : Same G H) (rs : Reps K G ds vs) : Rel Θ K G H (dS ds) (vs.map some) := by
  refine ⟨?_, s, fun i d z => ?_, fun i p es z => ?_, fun i j p es q fs a z => ?_, t⟩
  · unfold dS; rw [List.length_map, List.length_map, rs.length]
  · obtain ⟨d', e, e2⟩ := dS_at z
    cases e2
    obtain ⟨v, h1, h2⟩ := rs.get e
    exact ⟨v, by rw [List.getElem?_map, h1]; rfl, h2⟩
  · obtain ⟨d', e, e2⟩ := dS_at z; cases e2
  · obtain ⟨d', e, e2⟩ := dS_at z; cases e2
theorem ds_owned {ds : List D} {τ : L2.St} {b : Addr} : ¬ Owned (dS ds) τ b := fun ⟨i, p, es, z, _⟩ => by
  obtain ⟨d', e, e2⟩ := dS_at z; cases e2
/-- what a step that changes nothing old keeps -/
structure Kp (G H G' H' : Hp) : Prop where
  le : Same G G'
  keep : ∀ b u, H b = some u → tf u = true → H' b = some u ∧ (G b = none → G' b = none)
  mono : ∀ b, nw H' b → nw H b
theorem Kp.refl {G H : Hp} : Kp G H G H := ⟨Same.refl _, fun _ _ e _ => ⟨e, fun z => z⟩, fun _ h => h⟩
theorem Kp.trans {G H G1 H1 G2 H2 : Hp} (a : Kp G H G1 H1) (b : Kp G1 H1 G2 H2) : Kp G H G2 H2 :=
  ⟨a.le.trans b.le, fun c u e t => by
    obtain ⟨h1, g1⟩ := a.keep c u e t
    obtain ⟨h2, g2⟩ := b.keep c u h1 t
    exact ⟨h2, fun z => g2 (g1 z)⟩, fun c h => a.mono c (b.mono c h)⟩
theorem Kp.of_fr {G H G' H' : Hp} {ds : List D} {τ τ' : L2.St} {r' : Ro} (F : Fr G H (dS ds) τ G' H' r' τ') : Kp G H G' H' :=
  ⟨F.le, fun b u e t => by
    obtain ⟨h1, _, h3⟩ := F.keep b u e t ds_owned
    exact ⟨h1, h3⟩, F.mono⟩
theorem Kp.fr {G H G' H' : Hp} (k : Kp G H G' H') (ds : List D) (τ : L2.St) : Fr G H (dS ds) τ G' H' (dS ds) τ :=
  ⟨k.le, fun b u e t _ => ⟨(k.keep b u e t).1, ds_owned, (k.keep b u e t).2⟩, (fun i es z => by
    obtain ⟨d', e, e2⟩ := dS_at z
    cases e2), (fun i z => by
    obtain ⟨d', e, e2⟩ := dS_at z
    cases e2), k.mono⟩
/-- something new that nobody knows -/
theorem Kp.new {G H : Hp} {p : Addr} (hp : H p = none) (o : HO) : Kp G H G (upd H p o) :=
  ⟨Same.refl _, fun b u e _ => ⟨same_new hp o _ _ e, fun z => z⟩, fun b h => same_nw (same_new hp o) h⟩
/-- a list written that the beginning did not know -/
theorem Kp.set {G H G' H' : Hp} {p : Addr} {vs ws : List V} (k : Kp G H G' H') (h : nw H p) (hp : H' p = some (.lst vs)) : Kp G H G' (upd H' p (.lst ws)) :=
  ⟨k.le, fun b u e t => by
    obtain ⟨h1, h2⟩ := k.keep b u e t
    exact ⟨by rw [upd_ne (nw_ne h e t)]; exact h1, h2⟩, fun b hb => k.mono b (fun u e => by
      by_cases q : b = p
      · subst q
        have := hb _ upd_same
        cases this
      · exact hb u (by rw [upd_ne q]; exact e))⟩
/-! ### a tuple of two data and a new list -/
/-- what a def gives out -/
def spG (Θ : List (Addr × Str)) (K : KP) (n : Nat) (F : M (List D)) : Sp := fun vs H Q _ => vs.length = n ∧ ∃ G r, Rel Θ K G H r (vs.map some) ∧ ∃ x y ds r', F r = some (x :: y :: ds, r') ∧
  ∀ G' H' t o vx vy p ws, Rel Θ K G' H' r' (vs.map some) → Fr G H r (vs.map some) G' H' r' (vs.map some) → nw H p → H' t = some (.frz o (.tup [vx, vy, .ref p])) → H' p = some (.lst ws) → G' p = none → ¬ Owned r' (vs.map some) p → Rep K G' x vx → Rep K G' y vy → Reps K G' ds ws → Q (.ref t) H'
theorem fn_noneG {P : Program} {w : World} {mg : Str → Option Value} {base : Heap} {k n : Nat} {f : Addr} {fd : FuncData} {ps : List Str} : FnOk P w K mg base CX0 k f fd ps (spG Θ K n fun _ => none) := by
  have no : ∀ vs H Q E, ¬ spG Θ K n (fun _ => none) vs H Q E := fun vs H Q E h => by
    obtain ⟨_, G, r, R, x, y, ds, r', e, _⟩ := h
    cases e
  exact ⟨fun vs H Q E h => absurd h (no vs H Q E), fun A outer s H args us vs Q E _ _ _ _ h => absurd h (no vs H Q E)⟩
/-- its body: statements, then return (a, b, e[::-1]) -/
def bodyG (n nl : Nat) (m : M Fl) (a b : M D) (e : M (List D)) : M (List D) := fun r => if r.length = n then match m (r.map pinS ++ List.replicate nl none) with
    | some (.nx, r1) => match (bd a fun x => bd b fun y => bd e fun ds => Pk.rt (x :: y :: ds)) r1 with
      | some (L, r') => some (L, outS r r')
      | none => none
    | _ => none
  else none
theorem group_read {n nl : Nat} {m : M Fl} {a b : M D} {e : M (List D)} {vs : List V} {N : List Str} {H : Hp} {Q : VK} {E : XK} (hN : N.length = n + nl) (q : spG Θ K n (bodyG n nl m a b e) vs H Q E) :
    tSeq (rdS Θ K m) (tRet (tTupX (tCons (rdE Θ K a) (tCons (rdE Θ K b) (tCons (rdF Θ K e) tNil))))) { nx := fun _ H' => Q .non H', rt := Q } (L2.start N vs) H := by
  obtain ⟨_, G, r, R, x, y, ds, ro, e0, k⟩ := q
  unfold bodyG at e0
  split at e0
  · rename_i hr
    have hv : N.length = vs.length + nl := by rw [hN, ← hr, R.len, List.length_map]
    obtain ⟨R0, O0⟩ := body_in (nl := nl) R hv
    refine ⟨G, _, R0, ?_⟩
    split at e0
    · rename_i r1 e1
      refine ⟨.nx, r1, e1, fun G1 H1 σ1 R1 F1 => ?_⟩
      split at e0
      · rename_i L r' e2
        cases e0
        obtain ⟨x', r2, e3, e4⟩ := bd_some e2
        obtain ⟨y', r3, e5, e6⟩ := bd_some e4
        obtain ⟨ds', r4, e7, e8⟩ := bd_some e6
        obtain ⟨e9, rfl⟩ := rt_some e8
        cases e9
        refine ⟨G1, r1, R1, _, r2, e3, fun G2 H2 R2 F2 vx rx => ⟨G2, r2, R2, _, r3, e5, fun G3 H3 R3 F3 vy ry => ⟨G3, r3, R3, _, _, e7, fun G4 H4 p ws R4 F4 h1 h2 h3 h4 h5 => ?_⟩⟩⟩
        refine ⟨Nat.le_of_ble_eq_true rfl, fun t o ht po => ?_⟩
        obtain ⟨R5, F5⟩ := new_side R4 ht (.frz o (.tup [vx, vy, .ref p]))
        have F := (((F1.trans F2).trans F3).trans F4).trans F5
        obtain ⟨R6, F6⟩ := body_out R hv R5 F
        have hpt : p ≠ t := ne_of_none h2 ht
        exact k G4 _ t o vx vy p ws R6 F6 (F1.mono p (F2.mono p (F3.mono p h1))) upd_same (by rw [upd_ne hpt]; exact h2) h3 (fun oo => h4 (out_owned R hv F oo)) (Rep.mono (F3.le.trans F4.le) _ _ rx) (Rep.mono F4.le _ _ ry) h5
      · cases e0
    · cases e0
  · cases e0
end Pk

set_option maxHeartbeats 1000000
namespace Pk
open PySem PySem.Spec PyProof.Rows L2
variable {Θ : List (Addr × Str)} {K : KP}
/-! ### a stack of groups, each with a list that is used up -/
abbrev Grp := D × D × List D
/-- answer, and questions asked; the top stands first -/
def hwLoop (T : List (Str × D)) (hb : D → D → Option D) (gr : D → D → Option Grp) : Nat → List Grp → D → Option D
  | _, [], ans => some ans
  | 0, _ :: _, _ => none
  | n + 1, (a, b, qs) :: gs, ans => match eqD ans a with
    | some (.bl true) => hwLoop T hb gr n gs b
    | some (.bl false) => match qs.getLast? with
      | none => match b with
        | .bl k => hwLoop T hb gr n gs (.bl (!k))
        | _ => none
      | some (.tup [.tup (.str w :: part), place]) => match (T.lookup w).isSome with
        | true => match gr (.tup (.str w :: part)) place with
          | some g => if gs.length + 2 ≤ sizeLine then hwLoop T hb gr n (g :: (a, b, qs.dropLast) :: gs) .non else none
          | none => none
        | false => match hb (.tup (.str w :: part)) place with
          | some z => hwLoop T hb gr n ((a, b, qs.dropLast) :: gs) z
          | none => none
      | _ => none
    | _ => none
/-- the groups in the heap -/
inductive Stk (K : KP) (H0 G H : Hp) : List V → List Grp → List Addr → Prop
  | nil : Stk K H0 G H [] [] []
  | cons {t p : Addr} {o : Obj} {v1 v2 : V} {ws : List V} {a b : D} {qs : List D} {us : List V} {gs : List Grp} {ps : List Addr} : H t = some (.frz o (.tup [v1, v2, .ref p])) → H p = some (.lst ws) → G p = none → nw H0 p → p ∉ ps →
      Rep K G a v1 → Rep K G b v2 → Reps K G qs ws → Stk K H0 G H us gs ps → Stk K H0 G H (.ref t :: us) ((a, b, qs) :: gs) (p :: ps)
theorem Stk.length {H0 G H : Hp} {us : List V} {gs : List Grp} {ps : List Addr} (s : Stk K H0 G H us gs ps) : us.length = gs.length := by
  induction s with
  | nil => rfl
  | cons _ _ _ _ _ _ _ _ _ ih => rw [List.length_cons, List.length_cons, ih]
theorem Stk.kp {H0 G H G' H' : Hp} {us : List V} {gs : List Grp} {ps : List Addr} (s : Stk K H0 G H us gs ps) (k : Kp G H G' H') : Stk K H0 G' H' us gs ps := by
  induction s with
  | nil => exact .nil
  | cons h1 h2 h3 h4 h5 r1 r2 r3 _ ih => exact .cons (k.keep _ _ h1 rfl).1 (k.keep _ _ h2 rfl).1 ((k.keep _ _ h2 rfl).2 h3) h4 h5 (Rep.mono k.le _ _ r1) (Rep.mono k.le _ _ r2) (Reps.mono k.le _ _ r3) ih
/-- a list written that is none of the groups' -/
theorem Stk.set {H0 G H : Hp} {us : List V} {gs : List Grp} {ps : List Addr} (s : Stk K H0 G H us gs ps) {b : Addr} {xs ys : List V} (hb : H b = some (.lst xs)) (n : b ∉ ps) : Stk K H0 G (upd H b (.lst ys)) us gs ps := by
  induction s with
  | nil => exact .nil
  | @cons t p o v1 v2 ws a b' qs us gs ps h1 h2 h3 h4 h5 r1 r2 r3 _ ih =>
    rw [List.mem_cons, not_or] at n
    refine .cons (o := o) ?_ ?_ h3 h4 h5 r1 r2 r3 (ih n.2)
    · rw [upd_ne (fun z => by rw [z, hb] at h1; cases h1)]; exact h1
    · rw [upd_ne (fun z => n.1 z.symm)]; exact h2
theorem Stk.ps_lst {H0 G H : Hp} {us : List V} {gs : List Grp} {ps : List Addr} (s : Stk K H0 G H us gs ps) : ∀ p ∈ ps, ∃ ws, H p = some (.lst ws) := by
  induction s with
  | nil => intro p hp; cases hp
  | cons _ h2 _ _ _ _ _ _ _ ih =>
    intro q hq
    rcases List.mem_cons.mp hq with rfl | h
    · exact ⟨_, h2⟩
    · exact ih q h
structure HwI (Θ : List (Addr × Str)) (K : KP) (G0 H0 G H : Hp) (a : Addr) (us : List V) (gs : List Grp) (ps : List Addr) : Prop where
  sub : Same G H
  tab : Tb Θ G H
  kp : Kp G0 H0 G H
  hA : H a = some (.lst us.reverse)
  gA : G a = none
  wA : nw H0 a
  nA : a ∉ ps
  S : Stk K H0 G H us gs ps
theorem HwI.step {G0 H0 G H G' H' : Hp} {a : Addr} {us : List V} {gs : List Grp} {ps : List Addr} (I : HwI Θ K G0 H0 G H a us gs ps) (k : Kp G H G' H') (s : Same G' H') (t : Tb Θ G' H') : HwI Θ K G0 H0 G' H' a us gs ps :=
  ⟨s, t, I.kp.trans k, (k.keep _ _ I.hA rfl).1, (k.keep _ _ I.hA rfl).2 I.gA, I.wA, I.nA, I.S.kp k⟩
theorem same_upd {G H : Hp} (s : Same G H) {b : Addr} (h : G b = none) (o : HO) : Same G (upd H b o) := fun c u e => by
  by_cases q : c = b
  · subst q; rw [h] at e; cases e
  · rw [upd_ne q]; exact s _ _ e
/-- the stack is written -/
theorem HwI.setA {G0 H0 G H : Hp} {a : Addr} {us us' : List V} {gs gs' : List Grp} {ps ps' : List Addr} (I : HwI Θ K G0 H0 G H a us gs ps) (n : a ∉ ps') (h : Stk K H0 G (upd H a (.lst us'.reverse)) us' gs' ps') : HwI Θ K G0 H0 G (upd H a (.lst us'.reverse)) a us' gs' ps' :=
  ⟨same_upd I.sub I.gA _, I.tab.lst I.hA, I.kp.set I.wA I.hA, upd_same, I.gA, I.wA, n, h⟩
theorem HwI.pop {G0 H0 G H : Hp} {a : Addr} {u : V} {us : List V} {g : Grp} {gs : List Grp} {p : Addr} {ps : List Addr} (I : HwI Θ K G0 H0 G H a (u :: us) (g :: gs) (p :: ps)) : HwI Θ K G0 H0 G (upd H a (.lst us.reverse)) a us gs ps := by
  have n := I.nA
  rw [List.mem_cons, not_or] at n
  refine I.setA n.2 ?_
  cases I.S with
  | cons _ _ _ _ _ _ _ _ s => exact s.set I.hA n.2
theorem HwI.ask {G0 H0 G H : Hp} {a t p : Addr} {o : Obj} {v1 v2 : V} {ws : List V} {us : List V} {x y : D} {qs : List D} {gs : List Grp} {ps : List Addr} (I : HwI Θ K G0 H0 G H a (.ref t :: us) ((x, y, qs) :: gs) (p :: ps))
    (ht : H t = some (.frz o (.tup [v1, v2, .ref p]))) (hp : H p = some (.lst ws)) : HwI Θ K G0 H0 G (upd H p (.lst ws.dropLast)) a (.ref t :: us) ((x, y, qs.dropLast) :: gs) (p :: ps) := by
  have n := I.nA
  rw [List.mem_cons, not_or] at n
  cases I.S with
  | cons h1 h2 h3 h4 h5 r1 r2 r3 s =>
    rw [ht] at h1
    cases h1
    rw [hp] at h2
    cases h2
    refine ⟨same_upd I.sub h3 _, I.tab.lst hp, I.kp.set h4 hp, by rw [upd_ne n.1]; exact I.hA, I.gA, I.wA, I.nA, .cons (o := o) ?_ upd_same h3 h4 h5 r1 r2 ?_ (s.set hp h5)⟩
    · rw [upd_ne (fun z => by rw [z, hp] at ht; cases ht)]; exact ht
    · rw [List.dropLast_eq_take, List.dropLast_eq_take, r3.length]; exact r3.take _
theorem HwI.push {G0 H0 G H : Hp} {a t p : Addr} {o : Obj} {v1 v2 : V} {ws : List V} {us : List V} {x y : D} {qs : List D} {gs : List Grp} {ps : List Addr} (I : HwI Θ K G0 H0 G H a us gs ps)
    (ht : H t = some (.frz o (.tup [v1, v2, .ref p]))) (hp : H p = some (.lst ws)) (hg : G p = none) (w : nw H0 p) (na : a ≠ p) (np : p ∉ ps) (r1 : Rep K G x v1) (r2 : Rep K G y v2) (r3 : Reps K G qs ws) :
    HwI Θ K G0 H0 G (upd H a (.lst (V.ref t :: us).reverse)) a (.ref t :: us) ((x, y, qs) :: gs) (p :: ps) := by
  have n : a ∉ p :: ps := by rw [List.mem_cons, not_or]; exact ⟨na, I.nA⟩
  refine I.setA n (.cons (o := o) ?_ ?_ hg w np r1 r2 r3 (I.S.set I.hA I.nA))
  · rw [upd_ne (fun z => by rw [z, I.hA] at ht; cases ht)]; exact ht
  · rw [upd_ne (fun z => na z.symm)]; exact hp
/-! ### the def -/
def hbOf (hb : M D) (x y : D) : Option D := (hb [some (.d x), some (.d y)]).map (·.1)
def grOf (gr : M (List D)) (h x y : D) : Option Grp := match gr [some (.d x), some (.d y), some (.d h)] with
  | some (a :: b :: ds, _) => some (a, b, ds)
  | _ => none
/-- def holds_with -/
noncomputable def hwF (T : List (Str × D)) (hb : M D) (gr : M (List D)) : M D := fun r => match r with
  | [some (.d f), some (.d v), some (.d h)] =>
    letI := Classical.propDecidable
    if q : ∃ n d, hwLoop T (hbOf hb) (grOf gr h) n [(.bl false, .bl false, [.tup [f, v]])] .non = some d then some (q.choose_spec.choose, r) else none
  | _ => none
theorem hwF_some {T : List (Str × D)} {hb : M D} {gr : M (List D)} {r r' : Ro} {d : D} (e : hwF T hb gr r = some (d, r')) : ∃ f v h n, r = dS [f, v, h] ∧ r' = r ∧
    hwLoop T (hbOf hb) (grOf gr h) n [(.bl false, .bl false, [.tup [f, v]])] .non = some d := by
  unfold hwF at e
  split at e
  · rename_i f v h
    split at e
    · rename_i q
      cases e
      exact ⟨f, v, h, q.choose, rfl, rfl, q.choose_spec.choose_spec⟩
    · cases e
  · cases e
end Pk

set_option maxHeartbeats 2000000
namespace Pk
open PySem PySem.Spec PyProof.Rows L2
variable {Θ : List (Addr × Str)} {K : KP}
def rInKT (T : List (Str × D)) (tp : Addr) : R2 := fun x y H Q => ∃ z, x = .str z ∧ y = .ref tp ∧ Q (.bl (T.lookup z).isSome) H
theorem op_inKT' {X : Cx} {tp : Addr} {T : List (Str × D)} (hT : KTab X.K X.w tp T) : OpR X (compareOp .In) (rInKT T tp) := op_inKT hT
def tTru (K : KP) (i : Nat) : TT := fun σ H Q => tVar i σ H fun x H' => ∃ k, TruV K x H' k ∧ Q k H'
def tHW (K : KP) (A : Around) (tp : Addr) (T : List (Str × D)) (spH spGr : Sp) : TS :=
  tSeq (tAsg (tLst (tCons (tTupX (tCons (tC (.bl false)) (tCons (tC (.bl false)) (tCons (tLst (tCons (tTupX (tCons (tVar 0) (tCons (tVar 1) tNil))) tNil)) tNil)))) tNil)) (gName 3))
  (tSeq (tAsg (tC .non) (gName 4))
  (tSeq (tWhile (tTru K 3)
    (tSeq (tAsg (tOp (rIxL K) (tVar 3) (tUn (rU fun i => .int (-i)) (tC (.int 1)))) (gTup K 3 (gCons (gName 5) (gCons (gName 6) (gCons (gName 7) gNil)))))
      (tIfS (tB (tOp (rEqY K A false) (tVar 4) (tVar 5)))
        (tSeq (tAsg (tVar 6) (gName 4)) (tDrop (tBM0 K "list" rPop (tVar 3))))
        (tIfS (tNot (tTru K 7))
          (tSeq (tAsg (tNotV (tVar 6)) (gName 4)) (tDrop (tBM0 K "list" rPop (tVar 3))))
          (tSeq (tAsg (tBM0 K "list" rPop (tVar 7)) (gTup K 2 (gCons (gName 8) (gCons (gName 9) gNil))))
            (tIfS (tB (tOp (rInKT T tp) (tOp (rIxT K) (tVar 8) (tC (.int 0))) (tC (.ref tp))))
              (tSeq (tDrop (tBM K "list" rAppend (tVar 3) (tCons (tCall spGr [] E0 (tCons (tVar 8) (tCons (tVar 9) (tCons (tVar 2) tNil)))) tNil))) (tAsg (tC .non) (gName 4)))
              (tAsg (tCall spH [] E0 (tCons (tVar 8) (tCons (tVar 9) tNil))) (gName 4))))))))
  (tRet (tVar 4))))
theorem eqD_bl {x y : D} {k : Bool} (h : eqD x y = some (.bl k)) : okEq x y = true ∧ eqv x y = k := by
  unfold eqD at h
  split at h
  · cases h; exact ⟨by assumption, rfl⟩
  · cases h
theorem okEq_outA {x y : D} (h : okEq x y = true) {u : Nat} (hu : u + 200 < cLine) : x.py.canLay0 = true ∧ y.py.canLay0 = true ∧ u + min x.py.depth y.py.depth < cLine := by
  unfold okEq at h
  simp only [Bool.and_eq_true, decide_eq_true_eq] at h
  exact ⟨h.1.1, h.1.2, by omega⟩
theorem Kp.ext {G H G' H' : Hp} (e : Ext G H G' H') : Kp G H G' H' := ⟨e.le, fun b u h _ => ⟨e.same _ _ h, e.out b u h⟩, fun b h => same_nw e.same h⟩
theorem atI_last {us : List V} {u : V} : L2.atI (u :: us).reverse (-1) = some u := by
  unfold L2.atI L2.ixN
  have h1 : ¬ (0 : Int) ≤ -1 := by decide
  have h2 : -(((u :: us).reverse.length : Nat) : Int) ≤ -1 := by simp; omega
  have h3 : (-1 + (((u :: us).reverse.length : Nat) : Int)).toNat = us.length := by simp; omega
  rw [if_neg h1, if_pos h2, Option.bind_some, h3]
  simp
theorem hw_read {A : Around} {tp : Addr} {T : List (Str × D)} {hb : M D} {gr : M (List D)} {vs : List V} {N : List Str} {H : Hp} {Q : VK} {E : XK} (hu : A.units + 200 < cLine) (hN : N.length = 10) (q : spF Θ K 3 (hwF T hb gr) vs H Q E) :
    tHW K A tp T (spF Θ K 2 hb) (spG Θ K 3 gr) { nx := fun _ H' => Q .non H', rt := Q } (L2.start N vs) H := by
  obtain ⟨_, G, r, R, d, r', e, k⟩ := q
  obtain ⟨f, v, h, n, rfl, rfl, el⟩ := hwF_some e
  have hl : vs.length = 3 := by have := R.len; rw [List.length_map] at this; exact this.symm
  obtain ⟨vf, vv, vh, rfl⟩ : ∃ a b c, vs = [a, b, c] := by
    match vs, hl with
    | [a, b, c], _ => exact ⟨a, b, c, rfl⟩
  obtain ⟨vf', ef, rf⟩ := R.get 0 f rfl
  cases ef
  obtain ⟨vv', ev, rv⟩ := R.get 1 v rfl
  cases ev
  obtain ⟨vh', eh, rh⟩ := R.get 2 h rfl
  cases eh
  have hσ : L2.start N [vf, vv, vh] = [some vf, some vv, some vh, none, none, none, none, none, none, none] := by unfold L2.start; rw [hN]; rfl
  rw [hσ]
  have fin : ∀ G' H' va, Same G' H' → Tb Θ G' H' → Kp G H G' H' → Rep K G' d va → Q va H' := fun G' H' va s t kp ra =>
    k G' H' (rel_ds t s (.cons (Rep.mono kp.le _ _ rf) (.cons (Rep.mono kp.le _ _ rv) (.cons (Rep.mono kp.le _ _ rh) .nil)))) (kp.fr _ _) va ra
  refine ⟨vf, rfl, vv, rfl, Nat.le_of_ble_eq_true rfl, fun t1 o1 ht1 po1 => ⟨Nat.le_of_ble_eq_true rfl, fun p1 hp1 => ⟨Nat.le_of_ble_eq_true rfl, fun t2 o2 ht2 po2 => ⟨Nat.le_of_ble_eq_true rfl, fun a ha => ?_⟩⟩⟩⟩
  let G1 := upd G t1 (.frz o1 (.tup [vf, vv]))
  let H1 := upd H t1 (.frz o1 (.tup [vf, vv]))
  have x1 : Ext G H G1 H1 := Ext.new R.sub ht1 _
  have s1 : Same G1 H1 := x1.sub R.sub
  have tb1 : Tb Θ G1 H1 := R.tab.same x1.same x1.out x1.cl
  let H2 := upd H1 p1 (.lst [.ref t1])
  have k2 : Kp G1 H1 G1 H2 := Kp.new hp1 _
  let H3 := upd H2 t2 (.frz o2 (.tup [.bl false, .bl false, .ref p1]))
  have k3 : Kp G1 H2 G1 H3 := Kp.new ht2 _
  let H4 := upd H3 a (.lst [.ref t2])
  have k4 : Kp G1 H3 G1 H4 := Kp.new ha _
  have g2 : G1 p1 = none := free_of s1 hp1
  have s2 : Same G1 H2 := same_upd s1 g2 _
  have s3 : Same G1 H3 := same_upd s2 (free_of s2 ht2) _
  have g4 : G1 a = none := free_of s3 ha
  have s4 : Same G1 H4 := same_upd s3 g4 _
  have tb4 : Tb Θ G1 H4 := ((tb1.new hp1).new ht2).new ha
  have e2 : H3 t2 = some (.frz o2 (.tup [.bl false, .bl false, .ref p1])) := upd_same
  have e1 : H3 p1 = some (.lst [.ref t1]) := by
    show upd H2 t2 _ p1 = _
    rw [upd_ne (ne_of_none (upd_same : H2 p1 = _) ht2)]; exact upd_same
  have w1 : nw H p1 := x1.same |> fun z => same_nw z (nw_none hp1)
  have wa : nw H a := same_nw x1.same (k2.mono _ (k3.mono _ (nw_none ha)))
  have I0 : HwI Θ K G H G1 H4 a [.ref t2] [(.bl false, .bl false, [.tup [f, v]])] [p1] := by
    refine ⟨s4, tb4, (Kp.ext x1).trans (k2.trans (k3.trans k4)), upd_same, g4, wa, ?_, .cons (o := o2) ?_ ?_ g2 w1 (by simp) .bl_of .bl_of (.cons (.tup_of (.inl ⟨o1, upd_same, po1⟩) (.cons (Rep.mono x1.le _ _ rf) (.cons (Rep.mono x1.le _ _ rv) .nil))) .nil) .nil⟩
    · rw [List.mem_singleton]; exact fun z => by
        subst z
        have q : H3 a = none := ha
        rw [q] at e1; cases e1
    · show upd H3 a _ t2 = _
      rw [upd_ne (ne_of_none e2 ha)]; exact e2
    · show upd H3 a _ p1 = _
      rw [upd_ne (ne_of_none e1 ha)]; exact e1
  refine ⟨fun m σ' H' => ∃ G' a us gs ps ans va x5 x6 x7 x8 x9, σ' = [some vf, some vv, some vh, some (.ref a), some va, x5, x6, x7, x8, x9] ∧ HwI Θ K G H G' H' a us gs ps ∧ Rep K G' ans va ∧
      hwLoop T (hbOf hb) (grOf gr h) m gs ans = some d, ⟨n, G1, a, _, _, _, .non, .non, none, none, none, none, none, rfl, I0, .non_of, el⟩, ?_⟩
  clear el I0
  rintro m σ' H' ⟨G', a, us, gs, ps, ans, va, x5, x6, x7, x8, x9, rfl, I, ra, el⟩
  refine ⟨.ref a, rfl, !us.reverse.isEmpty, .inl ⟨us.reverse, SqL.of I.hA, rfl⟩, ?_⟩
  obtain ⟨sub, tab, kp, hA, gA, wA, nA, S⟩ := I
  cases S with
  | nil =>
    have : ans = d := by cases m <;> (simp only [hwLoop] at el; cases el; rfl)
    subst this
    exact ⟨va, rfl, fin G' H' va sub tab kp ra⟩
  | @cons t p o v1 v2 ws da db qs us gs ps h1 h2 h3 h4 h5 r1 r2 r3 S =>
    have I : HwI Θ K G H G' H' a (.ref t :: us) ((da, db, qs) :: gs) (p :: ps) := ⟨sub, tab, kp, hA, gA, wA, nA, .cons h1 h2 h3 h4 h5 r1 r2 r3 S⟩
    cases m with
    | zero => simp only [hwLoop] at el; cases el
    | succ m =>
      have hk : (!(V.ref t :: us).reverse.isEmpty) = true := by simp
      rw [hk]
      refine ⟨fun σ' H' => ∃ m', m' < m + 1 ∧ _, fun _ _ z => z, ?_⟩
      refine ⟨.ref a, rfl, 1, rfl, a, _, -1, .ref t, rfl, rfl, SqL.of hA, atI_last, t, [v1, v2, .ref p], rfl, .inl (.inr ⟨o, h1⟩), rfl, v1, _, rfl, v2, _, rfl, .ref p, _, rfl, rfl, ?_⟩
      have back : ∀ {m' σ' H' G'' us gs ps ans va x5 x6 x7 x8 x9}, m' < m + 1 → σ' = [some vf, some vv, some vh, some (.ref a), some va, x5, x6, x7, x8, x9] → HwI Θ K G H G'' H' a us gs ps → Rep K G'' ans va → hwLoop T (hbOf hb) (grOf gr h) m' gs ans = some d → (∃ m', m' < m + 1 ∧ ∃ G' a us gs ps ans va x5 x6 x7 x8 x9, σ' = [some vf, some vv, some vh, some (.ref a), some va, x5, x6, x7, x8, x9] ∧ HwI Θ K G H G' H' a us gs ps ∧ Rep K G' ans va ∧
      hwLoop T (hbOf hb) (grOf gr h) m' gs ans = some d) := fun h1 h2 h3 h4 h5 => ⟨_, h1, _, _, _, _, _, _, _, _, _, _, _, _, h2, h3, h4, h5⟩
      have popA : (V.ref t :: us).reverse[(V.ref t :: us).reverse.length - 1]? = some (.ref t) := by simp
      have dropA : (V.ref t :: us).reverse.dropLast = us.reverse := by simp
      simp only [hwLoop] at el
      split at el
      · rename_i hE
        obtain ⟨hok, hv⟩ := eqD_bl hE
        obtain ⟨c1, c2, c3⟩ := okEq_outA hok hu
        refine ⟨va, rfl, v1, rfl, ans.py, da.py, Rep.dp sub _ _ ra c1, Rep.dp sub _ _ r1 c2, c1, c2, c3, eqv ans da, rfl, ?_⟩
        rw [hv]; dsimp only; rw [if_pos rfl]
        refine ⟨v2, rfl, .ref a, rfl, .inl ⟨rfl, _, SqL.of hA⟩, a, _, .ref t, rfl, rfl, hA, popA, ?_⟩
        rw [dropA]
        exact back (Nat.lt_succ_self m) rfl I.pop r2 el
      · rename_i hE
        obtain ⟨hok, hv⟩ := eqD_bl hE
        obtain ⟨c1, c2, c3⟩ := okEq_outA hok hu
        refine ⟨va, rfl, v1, rfl, ans.py, da.py, Rep.dp sub _ _ ra c1, Rep.dp sub _ _ r1 c2, c1, c2, c3, eqv ans da, rfl, ?_⟩
        rw [hv]; dsimp only; rw [if_neg Bool.false_ne_true]
        refine ⟨.ref p, rfl, !ws.isEmpty, .inl ⟨ws, SqL.of h2, rfl⟩, ?_⟩
        split at el
        · rename_i hq
          have hq' : qs = [] := by simpa using hq
          subst hq'
          obtain rfl := r3.nil_inv
          split at el
          · rename_i kb
            refine ⟨v2, rfl, kb, r2.bl_inv, .ref a, rfl, .inl ⟨rfl, _, SqL.of hA⟩, a, _, .ref t, rfl, rfl, hA, popA, ?_⟩
            rw [dropA]
            exact back (Nat.lt_succ_self m) rfl I.pop .bl_of el
          · cases el
        · rename_i w part place hq
          have hne : (!(!ws.isEmpty)) = false := by
            have := r3.length
            cases ws with
            | nil => cases qs with
              | nil => cases hq
              | cons _ _ => cases this
            | cons _ _ => rfl
          rw [hne]; dsimp only; rw [if_neg Bool.false_ne_true]
          obtain ⟨vq, hvq, rq, _⟩ := r3.last hq
          obtain ⟨tq, xq, rfl, sq, rsq⟩ := rq.tup_inv
          obtain ⟨vpart, xq', rfl, rpart, rsq'⟩ := rsq.cons_inv
          obtain ⟨vplace, xq'', rfl, rplace, rsq''⟩ := rsq'.cons_inv
          obtain rfl := rsq''.nil_inv
          have I2 := I.ask h1 h2
          refine ⟨.ref p, rfl, .inl ⟨rfl, _, SqL.of h2⟩, p, ws, .ref tq, rfl, rfl, h2, hvq, tq, _, rfl, sqT_mono I2.sub sq, rfl, vpart, _, rfl, vplace, _, rfl, rfl, ?_⟩
          obtain ⟨pa, xp, rfl, sp, rsp⟩ := (show Rep K G' _ vpart from rpart).tup_inv
          obtain ⟨vw, xp', rfl, rw_, rsp'⟩ := rsp.cons_inv
          obtain rfl := rw_.str_inv
          refine ⟨.ref pa, rfl, pa, _, 0, .str w, rfl, rfl, sqT_mono I2.sub sp, by unfold L2.atI L2.ixN; simp, w, rfl, rfl, (T.lookup w).isSome, rfl, ?_⟩
          have rh2 : Rep K G' h vh := Rep.mono kp.le _ _ rh
          split at el
          · rename_i hw
            rw [hw]; dsimp only; rw [if_pos rfl]
            split at el
            · rename_i g hg
              split at el
              · rename_i hlen
                refine ⟨.ref a, rfl, .inl ⟨rfl, _, SqL.of I2.hA⟩, .ref pa, rfl, vplace, rfl, vh, rfl, ?_⟩
                unfold grOf at hg
                split at hg
                · rename_i x y ds rr hgr
                  cases hg
                  refine ⟨rfl, G', dS [.tup (.str w :: part), place, h], rel_ds I2.tab I2.sub (.cons rpart (.cons rplace (.cons rh2 .nil))), x, y, ds, rr, hgr, fun G3 H3 t3 o3 vx vy p3 ws3 R3 F3 n1 n2 n3 n4 _ rx ry rds => ?_⟩
                  have kp3 := Kp.of_fr F3
                  have I3 := I2.step kp3 R3.sub R3.tab
                  refine ⟨a, _, .ref t3, rfl, rfl, I3.hA, ?_, ?_⟩
                  · rw [List.length_reverse, List.length_cons, S.length]; omega
                  · have e3 : (V.ref t :: us).reverse ++ [V.ref t3] = (V.ref t3 :: V.ref t :: us).reverse := by simp
                    rw [e3]
                    have I4 := I3.push n2 n3 n4 (I2.kp.mono _ n1) (nw_ne n1 I2.hA rfl) (fun z => by
                      obtain ⟨ws', hws⟩ := I2.S.ps_lst _ z
                      exact nw_ne n1 hws rfl rfl) rx ry rds
                    exact back (Nat.lt_succ_self m) rfl I4 .non_of el
                · cases hg
              · cases el
            · cases el
          · rename_i hw
            rw [hw]; dsimp only; rw [if_neg Bool.false_ne_true]
            split at el
            · rename_i z hz
              unfold hbOf at hz
              cases hh : hb [some (.d (.tup (.str w :: part))), some (.d place)] with
              | none => rw [hh] at hz; cases hz
              | some zz =>
                obtain ⟨z', rr⟩ := zz
                rw [hh] at hz
                cases hz
                refine ⟨.ref pa, rfl, vplace, rfl, rfl, G', dS [.tup (.str w :: part), place], rel_ds I2.tab I2.sub (.cons rpart (.cons rplace .nil)), _, rr, hh, fun G3 H3 R3 F3 vz rz => ?_⟩
                exact back (Nat.lt_succ_self m) rfl (I2.step (Kp.of_fr F3) R3.sub R3.tab) rz el
            · cases el
        · cases el
      · cases el
end Pk

set_option maxHeartbeats 1000000
namespace Pk
open PySem PySem.Spec PyProof.Rows L2
/-! ### what the stack of groups comes to -/
section
variable {T : List (Str × D)} {hb : D → D → Option D} {gr : D → D → Option Grp}
def Reach (T : List (Str × D)) (hb : D → D → Option D) (gr : D → D → Option Grp) (s : List Grp) (a : D) (s' : List Grp) (a' : D) : Prop := ∃ k, ∀ m, hwLoop T hb gr (m + k) s a = hwLoop T hb gr m s' a'
theorem Reach.refl {s : List Grp} {a : D} : Reach T hb gr s a s a := ⟨0, fun _ => rfl⟩
theorem Reach.trans {s s' s'' : List Grp} {a a' a'' : D} (h : Reach T hb gr s a s' a') (h' : Reach T hb gr s' a' s'' a'') : Reach T hb gr s a s'' a'' := by
  obtain ⟨k, e⟩ := h
  obtain ⟨k', e'⟩ := h'
  exact ⟨k' + k, fun m => by rw [← Nat.add_assoc, e, e']⟩
theorem Reach.one {s s' : List Grp} {a a' : D} (h : ∀ m, hwLoop T hb gr (m + 1) s a = hwLoop T hb gr m s' a') : Reach T hb gr s a s' a' := ⟨1, h⟩
theorem hw_mono : ∀ {n : Nat} {s : List Grp} {a d : D} (k : Nat), hwLoop T hb gr n s a = some d → hwLoop T hb gr (n + k) s a = some d
  | n, [], a, d, k, h => by
    have h1 : hwLoop T hb gr n [] a = some a := by cases n <;> rfl
    have h2 : hwLoop T hb gr (n + k) [] a = some a := by cases (n + k) <;> rfl
    rw [h2, ← h1]; exact h
  | 0, g :: gs, a, d, k, h => by cases h
  | n + 1, (x, y, qs) :: gs, a, d, k, h => by
    rw [Nat.add_right_comm]
    simp only [hwLoop] at h ⊢
    split at h
    · rename_i hE
      try rw [hE]
      exact hw_mono k h
    · rename_i hE
      try rw [hE]
      try dsimp only
      split at h
      · rename_i hq
        try rw [hq]
        try dsimp only
        split at h
        · exact hw_mono k h
        · cases h
      · rename_i w part place hq
        try rw [hq]
        try dsimp only
        split at h
        · rename_i hw
          try rw [hw]
          try dsimp only
          split at h
          · rename_i g hg
            try rw [hg]
            try dsimp only
            split at h
            · rename_i hl
              rw [if_pos hl]
              exact hw_mono k h
            · cases h
          · cases h
        · rename_i hw
          try rw [hw]
          try dsimp only
          split at h
          · rename_i z hz
            try rw [hz]
            exact hw_mono k h
          · cases h
      · cases h
    · cases h
theorem hw_det {n m : Nat} {s : List Grp} {a d d' : D} (h : hwLoop T hb gr n s a = some d) (h' : hwLoop T hb gr m s a = some d') : d = d' := by
  have h1 := hw_mono m h
  have h2 := hw_mono n h'
  rw [Nat.add_comm] at h2
  rw [h1] at h2
  exact Option.some.inj h2
/-- not yet decided -/
def Open (a : D) (d : Bool) : Prop := eqD a (.bl d) = some (.bl false)
theorem open_non {d : Bool} : Open .non d := by cases d <;> rfl
theorem open_bl {a d : Bool} (h : a ≠ d) : Open (.bl a) d := by cases a <;> cases d <;> first | rfl | exact absurd rfl h
theorem eq_bl {a : Bool} : eqD (.bl a) (.bl a) = some (.bl true) := by cases a <;> rfl
/-- what is asked: nested n deep, the formula, the value, the answer -/
structure Asks (T : List (Str × D)) (hb : D → D → Option D) (gr : D → D → Option Grp) (P : Nat → D → D → Bool → Prop) : Prop where
  zero : ∀ f v b, ¬ P 0 f v b
  step : ∀ n f v b, P (n + 1) f v b → ∃ w part, f = .tup (.str w :: part) ∧ (((T.lookup w).isSome = false ∧ hb f v = some (.bl b)) ∨
    ((T.lookup w).isSome = true ∧ ∃ (d e : Bool) (qs : List D) (A : D → Bool), gr f v = some (.bl d, .bl e, qs.reverse) ∧ (∀ q ∈ qs, ∃ g u, q = .tup [g, u] ∧ P n g u (A q)) ∧ b = if qs.any (fun q => A q == d) then e else !e))
theorem hw_group {P : Nat → D → D → Bool → Prop} {n : Nat}
    (ih : ∀ f v b, P n f v b → ∀ (d e : Bool) (qs : List D) (gs : List Grp) (a : D), gs.length + n + 2 ≤ sizeLine → Open a d → Reach T hb gr ((.bl d, .bl e, qs ++ [.tup [f, v]]) :: gs) a ((.bl d, .bl e, qs) :: gs) (.bl b))
    {d e : Bool} {gs : List Grp} (hl : gs.length + n + 2 ≤ sizeLine) (A : D → Bool) : ∀ (qs : List D) (a : D), (∀ q ∈ qs, ∃ g u, q = .tup [g, u] ∧ P n g u (A q)) → (Open a d ∨ a = .bl d) →
      (a = .bl d → Reach T hb gr ((.bl d, .bl e, qs.reverse) :: gs) a gs (.bl e)) ∧
      (Open a d → Reach T hb gr ((.bl d, .bl e, qs.reverse) :: gs) a gs (.bl (if qs.any (fun q => A q == d) then e else !e)))
  | qs, a, hq, ha => by
    have h1 : ∀ (qs' : List D), Reach T hb gr ((.bl d, .bl e, qs') :: gs) (.bl d) gs (.bl e) := fun qs' => .one fun m => by
      simp only [hwLoop, eq_bl]
    refine ⟨fun e1 => by subst e1; exact h1 _, fun ho => ?_⟩
    induction qs generalizing a with
    | nil =>
      refine .one fun m => ?_
      have ho' : eqD a (.bl d) = some (.bl false) := ho
      simp only [hwLoop, ho', List.reverse_nil, List.getLast?_nil, List.any_nil]
      rfl
    | cons q qs iq =>
      obtain ⟨g, u, rfl, hp⟩ := hq q (List.mem_cons_self ..)
      rw [List.reverse_cons]
      refine (ih g u _ hp d e qs.reverse gs a hl ho).trans ?_
      by_cases hd : A (.tup [g, u]) = d
      · rw [hd, List.any_cons, hd]
        simp only [BEq.rfl, Bool.true_or, if_true]
        exact h1 _
      · rw [List.any_cons]
        have : (A (.tup [g, u]) == d) = false := by simpa using hd
        rw [this, Bool.false_or]
        exact iq (.bl (A (.tup [g, u]))) (fun q' hq' => hq q' (List.mem_cons_of_mem _ hq')) (.inl (open_bl hd)) (open_bl hd)
theorem hw_ask {P : Nat → D → D → Bool → Prop} (H : Asks T hb gr P) : ∀ (n : Nat) (f v : D) (b : Bool), P n f v b → ∀ (d e : Bool) (qs : List D) (gs : List Grp) (a : D), gs.length + n + 2 ≤ sizeLine → Open a d →
    Reach T hb gr ((.bl d, .bl e, qs ++ [.tup [f, v]]) :: gs) a ((.bl d, .bl e, qs) :: gs) (.bl b)
  | 0, f, v, b, h, _, _, _, _, _, _, _ => absurd h (H.zero f v b)
  | n + 1, f, v, b, h, d, e, qs, gs, a, hl, ho => by
    obtain ⟨w, part, rfl, h1 | h1⟩ := H.step n f v b h
    · obtain ⟨hw, hv⟩ := h1
      refine .one fun m => ?_
      have ho' : eqD a (.bl d) = some (.bl false) := ho
      simp only [hwLoop, ho', List.getLast?_concat, hw, hv, List.dropLast_concat]
    · obtain ⟨hw, d', e', qs', A, hg, hq, rfl⟩ := h1
      have ho' : eqD a (.bl d) = some (.bl false) := ho
      refine Reach.trans (s' := (.bl d', .bl e', qs'.reverse) :: (.bl d, .bl e, qs) :: gs) (a' := .non) (.one fun m => ?_) ?_
      · simp only [hwLoop, ho', List.getLast?_concat, hw, hg, List.dropLast_concat]
        rw [if_pos (by omega)]
      · exact (hw_group (fun f v b hp => hw_ask H n f v b hp) (by rw [List.length_cons]; omega) A qs' .non hq (.inl open_non)).2 open_non
end
theorem hwF_ok {T : List (Str × D)} {hb : M D} {gr : M (List D)} {P : Nat → D → D → Bool → Prop} {f v h : D} {b : Bool} {n : Nat}
    (H : Asks T (hbOf hb) (grOf gr h) P) (hp : P n f v b) (hn : n ≤ 1000000) : hwF T hb gr [some (.d f), some (.d v), some (.d h)] = some (.bl b, [some (.d f), some (.d v), some (.d h)]) := by
  have hl : ([] : List Grp).length + n + 2 ≤ sizeLine := Nat.le_trans (show _ ≤ 1000002 by simp; omega) (by decide)
  obtain ⟨k, e⟩ := hw_ask H n f v b hp false false [] [] .non hl open_non
  have e2 := e 2
  have fin : hwLoop T (hbOf hb) (grOf gr h) 2 [(.bl false, .bl false, [])] (.bl b) = some (.bl b) := by
    cases b <;> rfl
  rw [fin] at e2
  have q : ∃ n d, hwLoop T (hbOf hb) (grOf gr h) n [(.bl false, .bl false, [.tup [f, v]])] .non = some d := ⟨_, _, e2⟩
  unfold hwF
  dsimp only
  rw [dif_pos q]
  rw [hw_det q.choose_spec.choose_spec e2]
theorem w_bodyG {P : List D → Ro → Prop} {r : Ro} {n nl : Nat} {m : M Fl} {a b : M D} {e : M (List D)} (hn : r.length = n)
    (h : wp m (fun fl r1 => fl = .nx ∧ wp (bd a fun x => bd b fun y => bd e fun ds => Pk.rt (x :: y :: ds)) (fun L r' => P L (outS r r')) r1) (r.map pinS ++ List.replicate nl none)) : wp (bodyG n nl m a b e) P r := by
  obtain ⟨fl, r1, e1, rfl, L, r2, e2, q⟩ := h
  refine ⟨L, _, ?_, q⟩
  unfold bodyG
  rw [if_pos hn, e1]
  dsimp only
  rw [e2]
end Pk

namespace Pk
open PySem PySem.Spec PyProof.Rows L2
/-! ### steps found by their heads: one refine a step (failed alternatives of a `first` stay in Lean's info trees, to the end of the file) -/
class Stp (G : Prop) (Q : outParam Prop) : Prop where
  imp : Q → G
theorem stp {G Q : Prop} [i : Stp G Q] (h : Q) : G := i.imp h
section
variable {α β : Type} {m : M α} {k : α → M β}
instance i_w_seq {P : Fl → Ro → Prop} {m n : M Fl} : Stp (wp (seqM m n) P r) (wp m (fun f r1 => match f with | .nx => wp n P r1 | x => P x r1) r) := ⟨fun h => w_seq h⟩
instance i_w_ret {P : Fl → Ro → Prop} {m : M D} : Stp (wp (retM m) P r) (wp m (fun d r1 => P (.rt d) r1) r) := ⟨fun h => w_ret h⟩
instance i_w_if {t : M Bool} {a b : M β} : Stp (wp (ifM t a b) P r) (wp t (fun x r1 => wp (if x = true then a else b) P r1) r) := ⟨fun h => w_if h⟩
instance i_w_and {P : Bool → Ro → Prop} {a b : M Bool} : Stp (wp (andM a b) P r) (wp a (fun x r1 => if x = true then wp b P r1 else P false r1) r) := ⟨fun h => w_and h⟩
instance i_w_or {P : Bool → Ro → Prop} {a b : M Bool} : Stp (wp (orM a b) P r) (wp a (fun x r1 => if x = true then P true r1 else wp b P r1) r) := ⟨fun h => w_or h⟩
instance i_w_bd : Stp (wp (bd m k) P r) (wp m (fun x r1 => wp (k x) P r1) r) := ⟨fun h => w_bd h⟩
instance i_w_rt {x : β} : Stp (wp (rt x) P r) (P x r) := ⟨fun h => w_rt h⟩
instance i_w_nil {P : Fl → Ro → Prop} : Stp (wp nilM P r) (P .nx r) := ⟨fun h => w_nil h⟩
instance i_w_chain {g g' : D → D → Option D} {a b c : M D} {P : D → Ro → Prop} {r : Ro} : Stp (wp (chainM g g' a b c) P r) (wp (bd a fun x => bd b fun y => bd (of (g x y)) fun z => bd (of (asB z)) fun k => if k = true then bd c fun w => of (g' y w) else rt (.bl false)) P r) := ⟨fun h => w_chain h⟩
instance i_w_andV {a b : M D} {P : D → Ro → Prop} {r : Ro} : Stp (wp (andV a b) P r) (wp (bd a fun x => bd (of (asB x)) fun k => if k = true then b else rt (.bl false)) P r) := ⟨fun h => w_andV h⟩
instance i_w_orV {a b : M D} {P : D → Ro → Prop} {r : Ro} : Stp (wp (orV a b) P r) (wp (bd a fun x => bd (of (asB x)) fun k => if k = true then rt (.bl true) else b) P r) := ⟨fun h => w_orV h⟩
instance i_p_itT {a b : Prop} : Stp (if true = true then a else b) (a) := ⟨fun h => p_itT h⟩
instance i_p_itF {a b : Prop} : Stp (if false = true then a else b) (b) := ⟨fun h => p_itF h⟩
instance i_w_itT {β : Type} {a b : M β} {P : β → Ro → Prop} {r : Ro} : Stp (wp (if true = true then a else b) P r) (wp a P r) := ⟨fun h => w_itT h⟩
instance i_w_itF {β : Type} {a b : M β} {P : β → Ro → Prop} {r : Ro} : Stp (wp (if false = true then a else b) P r) (wp b P r) := ⟨fun h => w_itF h⟩
instance i_o_asB {P : Bool → Ro → Prop} {k : Bool} : Stp (wp (of (asB (.bl k))) P r) (P k r) := ⟨fun h => o_asB h⟩
instance i_o_asI {P : Option Int → Ro → Prop} : Stp (wp (of (asI (.int a))) P r) (P (some a) r) := ⟨fun h => o_asI h⟩
instance i_o_asS {P : Str → Ro → Prop} : Stp (wp (of (asS (.str x))) P r) (P x r) := ⟨fun h => o_asS h⟩
instance i_o_truB {P : Bool → Ro → Prop} {k : Bool} : Stp (wp (of (truD (.bl k))) P r) (P k r) := ⟨fun h => o_truB h⟩
instance i_o_truN {P : Bool → Ro → Prop} : Stp (wp (of (truD .non)) P r) (P false r) := ⟨fun h => o_truN h⟩
instance i_o_truT {P : Bool → Ro → Prop} : Stp (wp (of (truD (.tup ds))) P r) (P (!ds.isEmpty) r) := ⟨fun h => o_truT h⟩
instance i_o_truL {P : Bool → Ro → Prop} : Stp (wp (of (truD (.lst ds))) P r) (P (!ds.isEmpty) r) := ⟨fun h => o_truL h⟩
instance i_o_intI : Stp (wp (of (intD [.int a])) P r) (P (.int a) r) := ⟨fun h => o_intI h⟩
instance i_o_intB {k : Bool} : Stp (wp (of (intD [.bl k])) P r) (P (.int (if k then 1 else 0)) r) := ⟨fun h => o_intB h⟩
instance i_o_lenT : Stp (wp (of (lenD [.tup ds])) P r) (P (.int ds.length) r) := ⟨fun h => o_lenT h⟩
instance i_o_lenL : Stp (wp (of (lenD [.lst ds])) P r) (P (.int ds.length) r) := ⟨fun h => o_lenL h⟩
instance i_o_lenR : Stp (wp (of (lenD [.ro ds])) P r) (P (.int ds.length) r) := ⟨fun h => o_lenR h⟩
instance i_o_listT : Stp (wp (of (listD [.tup ds])) P r) (P (.lst ds) r) := ⟨fun h => o_listT h⟩
instance i_o_listL : Stp (wp (of (listD [.lst ds])) P r) (P (.lst ds) r) := ⟨fun h => o_listL h⟩
instance i_o_tupleT : Stp (wp (of (tupleD [.tup ds])) P r) (P (.tup ds) r) := ⟨fun h => o_tupleT h⟩
instance i_o_tupleL : Stp (wp (of (tupleD [.lst ds])) P r) (P (.tup ds) r) := ⟨fun h => o_tupleL h⟩
instance i_o_addI : Stp (wp (of (addD (.int a) (.int b))) P r) (P (.int (a + b)) r) := ⟨fun h => o_addI h⟩
instance i_o_subI : Stp (wp (of (subD (.int a) (.int b))) P r) (P (.int (a - b)) r) := ⟨fun h => o_subI h⟩
instance i_o_negI : Stp (wp (of (negD (.int a))) P r) (P (.int (-a)) r) := ⟨fun h => o_negI h⟩
instance i_o_minI : Stp (wp (of (minD [.int a, .int b])) P r) (P (.int (if b < a then b else a)) r) := ⟨fun h => o_minI h⟩
instance i_o_maxI : Stp (wp (of (maxD [.int a, .int b])) P r) (P (.int (if b > a then b else a)) r) := ⟨fun h => o_maxI h⟩
instance i_o_eqI : Stp (wp (of (eqD (.int a) (.int b))) P r) (P (.bl (a == b)) r) := ⟨fun h => o_eqI h⟩
instance i_o_neI : Stp (wp (of (neD (.int a) (.int b))) P r) (P (.bl (!(a == b))) r) := ⟨fun h => o_neI h⟩
instance i_o_ltI : Stp (wp (of (ltD (.int a) (.int b))) P r) (P (.bl (decide (a < b))) r) := ⟨fun h => o_ltI h⟩
instance i_o_leI : Stp (wp (of (leD (.int a) (.int b))) P r) (P (.bl (decide (a ≤ b))) r) := ⟨fun h => o_leI h⟩
instance i_o_gtI : Stp (wp (of (gtD (.int a) (.int b))) P r) (P (.bl (decide (b < a))) r) := ⟨fun h => o_gtI h⟩
instance i_o_geI : Stp (wp (of (geD (.int a) (.int b))) P r) (P (.bl (decide (b ≤ a))) r) := ⟨fun h => o_geI h⟩
instance i_o_ltS : Stp (wp (of (ltD (.str x) (.str y))) P r) (P (.bl (decide (x.cps.toList < y.cps.toList))) r) := ⟨fun h => o_ltS h⟩
instance i_o_leS : Stp (wp (of (leD (.str x) (.str y))) P r) (P (.bl (!decide (y.cps.toList < x.cps.toList))) r) := ⟨fun h => o_leS h⟩
instance i_o_gtS : Stp (wp (of (gtD (.str x) (.str y))) P r) (P (.bl (decide (y.cps.toList < x.cps.toList))) r) := ⟨fun h => o_gtS h⟩
instance i_o_geS : Stp (wp (of (geD (.str x) (.str y))) P r) (P (.bl (!decide (x.cps.toList < y.cps.toList))) r) := ⟨fun h => o_geS h⟩
instance i_o_isN : Stp (wp (of (isD d .non)) P r) (P (.bl d.isNon) r) := ⟨fun h => o_isN h⟩
instance i_o_isNotN : Stp (wp (of (isNotD d .non)) P r) (P (.bl (!d.isNon)) r) := ⟨fun h => o_isNotN h⟩
instance i_o_mkT0 : Stp (wp (of (mkT [])) P r) (P (.tup []) r) := ⟨fun h => o_mkT0 h⟩
instance i_o_mkT1 {d : D} : Stp (wp (of (mkT [d])) P r) (P (.tup [d]) r) := ⟨fun h => o_mkT1 h⟩
instance i_o_mkT2 {d e : D} : Stp (wp (of (mkT [d, e])) P r) (P (.tup [d, e]) r) := ⟨fun h => o_mkT2 h⟩
instance i_o_mkT3 {d e f : D} : Stp (wp (of (mkT [d, e, f])) P r) (P (.tup [d, e, f]) r) := ⟨fun h => o_mkT3 h⟩
instance i_o_mkT4 {d e f g : D} : Stp (wp (of (mkT [d, e, f, g])) P r) (P (.tup [d, e, f, g]) r) := ⟨fun h => o_mkT4 h⟩
instance i_o_mkT5 {d e f g i : D} : Stp (wp (of (mkT [d, e, f, g, i])) P r) (P (.tup [d, e, f, g, i]) r) := ⟨fun h => o_mkT5 h⟩
instance i_o_mkL0 : Stp (wp (of (mkL [])) P r) (P (.lst []) r) := ⟨fun h => o_mkL0 h⟩
instance i_o_mkL1 {d : D} : Stp (wp (of (mkL [d])) P r) (P (.lst [d]) r) := ⟨fun h => o_mkL1 h⟩
instance i_o_mkL2 {d e : D} : Stp (wp (of (mkL [d, e])) P r) (P (.lst [d, e]) r) := ⟨fun h => o_mkL2 h⟩
instance i_o_mkL3 {d e f : D} : Stp (wp (of (mkL [d, e, f])) P r) (P (.lst [d, e, f]) r) := ⟨fun h => o_mkL3 h⟩
instance i_o_mkL4 {d e f g : D} : Stp (wp (of (mkL [d, e, f, g])) P r) (P (.lst [d, e, f, g]) r) := ⟨fun h => o_mkL4 h⟩
instance i_o_seqT {ds : List D} {P : List D → Ro → Prop} : Stp (wp (of (seqOf (.tup ds))) P r) (P ds r) := ⟨fun h => o_seqT h⟩
instance i_o_seqL {ds : List D} {P : List D → Ro → Prop} : Stp (wp (of (seqOf (.lst ds))) P r) (P ds r) := ⟨fun h => o_seqL h⟩
instance i_o_seqR {ds : List D} {P : List D → Ro → Prop} : Stp (wp (of (seqOf (.ro ds))) P r) (P ds r) := ⟨fun h => o_seqR h⟩
instance i_w_itN {x : Bool} {a b : M β} {P : β → Ro → Prop} : Stp (wp (if (!x) = true then a else b) P r) (wp (if x = true then b else a) P r) := ⟨fun h => w_itN h⟩
instance i_p_itN {x : Bool} {a b : Prop} : Stp (if (!x) = true then a else b) (if x = true then b else a) := ⟨fun h => p_itN h⟩
instance i_o_ixh {P : D → Ro → Prop} {r : Ro} {d : D} {ds : List D} : Stp (wp (of (ixD (.tup (d :: ds)) (.int 0))) P r) (P d r) := ⟨fun h => o_ixh h⟩
end
/-! as above, the rules of the older block only -/
class Sto (G : Prop) (Q : outParam Prop) : Prop where
  imp : Q → G
theorem sto {G Q : Prop} [i : Sto G Q] (h : Q) : G := i.imp h
section
variable {α β : Type} {m : M α} {k : α → M β}
instance j_w_seq {P : Fl → Ro → Prop} {m n : M Fl} : Sto (wp (seqM m n) P r) (wp m (fun f r1 => match f with | .nx => wp n P r1 | x => P x r1) r) := ⟨fun h => w_seq h⟩
instance j_w_ret {P : Fl → Ro → Prop} {m : M D} : Sto (wp (retM m) P r) (wp m (fun d r1 => P (.rt d) r1) r) := ⟨fun h => w_ret h⟩
instance j_w_if {t : M Bool} {a b : M β} : Sto (wp (ifM t a b) P r) (wp t (fun x r1 => wp (if x = true then a else b) P r1) r) := ⟨fun h => w_if h⟩
instance j_w_and {P : Bool → Ro → Prop} {a b : M Bool} : Sto (wp (andM a b) P r) (wp a (fun x r1 => if x = true then wp b P r1 else P false r1) r) := ⟨fun h => w_and h⟩
instance j_w_or {P : Bool → Ro → Prop} {a b : M Bool} : Sto (wp (orM a b) P r) (wp a (fun x r1 => if x = true then P true r1 else wp b P r1) r) := ⟨fun h => w_or h⟩
instance j_w_bd : Sto (wp (bd m k) P r) (wp m (fun x r1 => wp (k x) P r1) r) := ⟨fun h => w_bd h⟩
instance j_w_rt {x : β} : Sto (wp (rt x) P r) (P x r) := ⟨fun h => w_rt h⟩
instance j_w_nil {P : Fl → Ro → Prop} : Sto (wp nilM P r) (P .nx r) := ⟨fun h => w_nil h⟩
instance j_w_chain {g g' : D → D → Option D} {a b c : M D} {P : D → Ro → Prop} {r : Ro} : Sto (wp (chainM g g' a b c) P r) (wp (bd a fun x => bd b fun y => bd (of (g x y)) fun z => bd (of (asB z)) fun k => if k = true then bd c fun w => of (g' y w) else rt (.bl false)) P r) := ⟨fun h => w_chain h⟩
instance j_w_andV {a b : M D} {P : D → Ro → Prop} {r : Ro} : Sto (wp (andV a b) P r) (wp (bd a fun x => bd (of (asB x)) fun k => if k = true then b else rt (.bl false)) P r) := ⟨fun h => w_andV h⟩
instance j_w_orV {a b : M D} {P : D → Ro → Prop} {r : Ro} : Sto (wp (orV a b) P r) (wp (bd a fun x => bd (of (asB x)) fun k => if k = true then rt (.bl true) else b) P r) := ⟨fun h => w_orV h⟩
instance j_p_itT {a b : Prop} : Sto (if true = true then a else b) (a) := ⟨fun h => p_itT h⟩
instance j_p_itF {a b : Prop} : Sto (if false = true then a else b) (b) := ⟨fun h => p_itF h⟩
instance j_w_itT {β : Type} {a b : M β} {P : β → Ro → Prop} {r : Ro} : Sto (wp (if true = true then a else b) P r) (wp a P r) := ⟨fun h => w_itT h⟩
instance j_w_itF {β : Type} {a b : M β} {P : β → Ro → Prop} {r : Ro} : Sto (wp (if false = true then a else b) P r) (wp b P r) := ⟨fun h => w_itF h⟩
instance j_o_asB {P : Bool → Ro → Prop} {k : Bool} : Sto (wp (of (asB (.bl k))) P r) (P k r) := ⟨fun h => o_asB h⟩
instance j_o_asI {P : Option Int → Ro → Prop} : Sto (wp (of (asI (.int a))) P r) (P (some a) r) := ⟨fun h => o_asI h⟩
instance j_o_asS {P : Str → Ro → Prop} : Sto (wp (of (asS (.str x))) P r) (P x r) := ⟨fun h => o_asS h⟩
instance j_o_truB {P : Bool → Ro → Prop} {k : Bool} : Sto (wp (of (truD (.bl k))) P r) (P k r) := ⟨fun h => o_truB h⟩
instance j_o_truN {P : Bool → Ro → Prop} : Sto (wp (of (truD .non)) P r) (P false r) := ⟨fun h => o_truN h⟩
instance j_o_truT {P : Bool → Ro → Prop} : Sto (wp (of (truD (.tup ds))) P r) (P (!ds.isEmpty) r) := ⟨fun h => o_truT h⟩
instance j_o_truL {P : Bool → Ro → Prop} : Sto (wp (of (truD (.lst ds))) P r) (P (!ds.isEmpty) r) := ⟨fun h => o_truL h⟩
instance j_o_intI : Sto (wp (of (intD [.int a])) P r) (P (.int a) r) := ⟨fun h => o_intI h⟩
instance j_o_intB {k : Bool} : Sto (wp (of (intD [.bl k])) P r) (P (.int (if k then 1 else 0)) r) := ⟨fun h => o_intB h⟩
instance j_o_lenT : Sto (wp (of (lenD [.tup ds])) P r) (P (.int ds.length) r) := ⟨fun h => o_lenT h⟩
instance j_o_lenL : Sto (wp (of (lenD [.lst ds])) P r) (P (.int ds.length) r) := ⟨fun h => o_lenL h⟩
instance j_o_lenR : Sto (wp (of (lenD [.ro ds])) P r) (P (.int ds.length) r) := ⟨fun h => o_lenR h⟩
instance j_o_listT : Sto (wp (of (listD [.tup ds])) P r) (P (.lst ds) r) := ⟨fun h => o_listT h⟩
instance j_o_listL : Sto (wp (of (listD [.lst ds])) P r) (P (.lst ds) r) := ⟨fun h => o_listL h⟩
instance j_o_tupleT : Sto (wp (of (tupleD [.tup ds])) P r) (P (.tup ds) r) := ⟨fun h => o_tupleT h⟩
instance j_o_tupleL : Sto (wp (of (tupleD [.lst ds])) P r) (P (.tup ds) r) := ⟨fun h => o_tupleL h⟩
instance j_o_addI : Sto (wp (of (addD (.int a) (.int b))) P r) (P (.int (a + b)) r) := ⟨fun h => o_addI h⟩
instance j_o_subI : Sto (wp (of (subD (.int a) (.int b))) P r) (P (.int (a - b)) r) := ⟨fun h => o_subI h⟩
instance j_o_negI : Sto (wp (of (negD (.int a))) P r) (P (.int (-a)) r) := ⟨fun h => o_negI h⟩
instance j_o_minI : Sto (wp (of (minD [.int a, .int b])) P r) (P (.int (if b < a then b else a)) r) := ⟨fun h => o_minI h⟩
instance j_o_maxI : Sto (wp (of (maxD [.int a, .int b])) P r) (P (.int (if b > a then b else a)) r) := ⟨fun h => o_maxI h⟩
instance j_o_eqI : Sto (wp (of (eqD (.int a) (.int b))) P r) (P (.bl (a == b)) r) := ⟨fun h => o_eqI h⟩
instance j_o_neI : Sto (wp (of (neD (.int a) (.int b))) P r) (P (.bl (!(a == b))) r) := ⟨fun h => o_neI h⟩
instance j_o_ltI : Sto (wp (of (ltD (.int a) (.int b))) P r) (P (.bl (decide (a < b))) r) := ⟨fun h => o_ltI h⟩
instance j_o_leI : Sto (wp (of (leD (.int a) (.int b))) P r) (P (.bl (decide (a ≤ b))) r) := ⟨fun h => o_leI h⟩
instance j_o_gtI : Sto (wp (of (gtD (.int a) (.int b))) P r) (P (.bl (decide (b < a))) r) := ⟨fun h => o_gtI h⟩
instance j_o_geI : Sto (wp (of (geD (.int a) (.int b))) P r) (P (.bl (decide (b ≤ a))) r) := ⟨fun h => o_geI h⟩
instance j_o_ltS : Sto (wp (of (ltD (.str x) (.str y))) P r) (P (.bl (decide (x.cps.toList < y.cps.toList))) r) := ⟨fun h => o_ltS h⟩
instance j_o_leS : Sto (wp (of (leD (.str x) (.str y))) P r) (P (.bl (!decide (y.cps.toList < x.cps.toList))) r) := ⟨fun h => o_leS h⟩
instance j_o_gtS : Sto (wp (of (gtD (.str x) (.str y))) P r) (P (.bl (decide (y.cps.toList < x.cps.toList))) r) := ⟨fun h => o_gtS h⟩
instance j_o_geS : Sto (wp (of (geD (.str x) (.str y))) P r) (P (.bl (!decide (x.cps.toList < y.cps.toList))) r) := ⟨fun h => o_geS h⟩
instance j_o_isN : Sto (wp (of (isD d .non)) P r) (P (.bl d.isNon) r) := ⟨fun h => o_isN h⟩
instance j_o_isNotN : Sto (wp (of (isNotD d .non)) P r) (P (.bl (!d.isNon)) r) := ⟨fun h => o_isNotN h⟩
instance j_o_mkT0 : Sto (wp (of (mkT [])) P r) (P (.tup []) r) := ⟨fun h => o_mkT0 h⟩
instance j_o_mkT1 {d : D} : Sto (wp (of (mkT [d])) P r) (P (.tup [d]) r) := ⟨fun h => o_mkT1 h⟩
instance j_o_mkT2 {d e : D} : Sto (wp (of (mkT [d, e])) P r) (P (.tup [d, e]) r) := ⟨fun h => o_mkT2 h⟩
end
end Pk

set_option maxHeartbeats 4000000
/-! tuple * int, any count, the new tuple plain -/
namespace L2
open PySem PySem.Spec PyProof.Rows
theorem tuple_mulOne (l : Addr) (items : Array Value) (n : Nat) (dd : Option Addr) (sl : Array (Option Value)) (u : Tok) :
    Meets (Builtin.«tuple.__mul__» ⟨[.ref l, .int 1 u], []⟩) (fun _ R s => s.heap.get? l = some { cls := .type "tuple", dict := dd, data := .seq items n, slots := sl } ∧
      R (.ok (.ret (Value.ref l))) s) :=
  .of_wp fun prog w A R s h => by
    obtain ⟨hp, g, d, tk, os⟩ := s
    obtain ⟨hl, h⟩ := h
    have f1 := AutoSeq1.idx_int
    have c0 : (decide ((1 : Int) < -(2 ^ 63)) || decide ((1 : Int) ≥ 2 ^ 63)) = false := by decide
    have c1 : (items.isEmpty || (1 : Int) == 1) = true := by simp
    wp_walk using wpAny_loadPart' hl
    repeat (first
      | (refine wpAny_ite_false (decide_eq_false (by rw [c0]; exact Bool.false_ne_true)) ?_; wp_walk using wpAny_loadPart' hl)
      | (refine wpAny_ite_true (decide_eq_true c1) ?_; wp_walk using wpAny_loadPart' hl))
    exact ⟨_, rfl, h⟩
theorem tuple_mulZero (l : Addr) (items : Array Value) (n : Nat) (dd : Option Addr) (sl : Array (Option Value)) (x : Int) (u : Tok) (c0 : (decide (x < -(2 ^ 63)) || decide (x ≥ 2 ^ 63)) = false) (c1 : (items.isEmpty || x == 1) = false) (c2 : (decide (x ≤ 0) || items.isEmpty) = true) :
    Meets (Builtin.«tuple.__mul__» ⟨[.ref l, .int x u], []⟩) (fun _ R s => s.heap.get? l = some { cls := .type "tuple", dict := dd, data := .seq items n, slots := sl } ∧
      R (.ok (.ret (Value.ref s.heap.objs.size))) { s with heap := s.heap.push { cls := Value.type "tuple", data := Data.seq #[] }, toks := s.toks }) :=
  .of_wp fun prog w A R s h => by
    obtain ⟨hp, g, d, tk, os⟩ := s
    obtain ⟨hl, h⟩ := h
    have f1 := AutoSeq1.idx_int
    wp_walk using wpAny_loadPart' hl
    repeat (first
      | (refine wpAny_ite_false (decide_eq_false (by rw [c0]; exact Bool.false_ne_true)) ?_; wp_walk using wpAny_loadPart' hl)
      | (refine wpAny_ite_false (decide_eq_false (by rw [c1]; exact Bool.false_ne_true)) ?_; wp_walk using wpAny_loadPart' hl)
      | (refine wpAny_ite_true (decide_eq_true c2) ?_; wp_walk using wpAny_loadPart' hl))
    exact ⟨_, rfl, h⟩
end L2
namespace Pk
open PySem PySem.Spec PyProof.Rows L2
def rRepX (K : KP) : R2 := fun x y H Q => ∃ l k xs, x = .ref l ∧ y = .int k ∧ SqT K H l xs ∧ xs ≠ [] ∧ -1000 ≤ k ∧ k ≤ 1000 ∧ xs.length ≤ 1000 ∧ (k = 1 → Q (.ref l) H) ∧ (k ≠ 1 → NwT (List.replicate k.toNat xs).flatten H Q)
section
variable {X : Cx}
theorem op_repX : OpR X (binaryOp .Mult) (rRepX X.kp) := by
  intro pins s σ H x y v u Q I rx ry h
  obtain ⟨l, k, xs, rfl, rfl, hT, hne, h1, h2, hz, q1, q2⟩ := h
  cases rx
  obtain ⟨t, rfl⟩ := ry
  obtain ⟨its, r, ⟨⟨cls, dd, data, sl⟩, ho, hc, n, hd⟩, hs⟩ := I.tuple hT
  simp only at hc hd
  subst hc hd
  have hle : its.length = xs.length := r.length.symm
  have hn : its ≠ [] := fun e => hne (by
    rw [e] at hle
    exact List.eq_nil_of_length_eq_zero hle.symm)
  have hi : its.toArray.isEmpty = false := by
    cases its with
    | nil => exact absurd rfl hn
    | cons a b => rfl
  have hsz0 : its.toArray.size = xs.length := by rw [List.size_toArray, hle]
  have c0 : (decide (k < -(2 ^ 63)) || decide (k ≥ 2 ^ 63)) = false := by
    rw [decide_eq_false (by omega), decide_eq_false (by omega)] <;> rfl
  by_cases hk1 : k = 1
  · subst hk1
    exact wpAny_binaryOp_repeat_ref (T := "tuple") (U := "int") (by decide) ⟨_, ho, rfl⟩ (fun s' => typeIs_int s' 1 t) noFill_tuple_mul F.fills_int_mul F.slot_int_rmul repeat_tuple F.slot_int_index.lookup
      (call_meets F.slot_int_rmul (typeIs_int s 1 t) F.entry_int_rmul (F.args_int_rmul_2 _ _) (int_rmul_tuple 1 t l its.toArray n dd sl)
        ⟨ho, rfl, ⟨_, ho, rfl⟩, call_meets F.slot_tuple_mul ⟨_, ho, rfl⟩ F.entry_tuple_mul (F.args_tuple_mul_2 _ _) (tuple_mulOne l its.toArray n dd sl t) ⟨ho, ⟨.ref l, H, I, rfl, q1 rfl⟩⟩⟩)
  have c1 : (its.toArray.isEmpty || k == 1) = false := by
    rw [hi, Bool.false_or]
    exact beq_eq_false_iff_ne.mpr hk1
  by_cases hk0 : k ≤ 0
  · have c2 : (decide (k ≤ 0) || its.toArray.isEmpty) = true := by rw [decide_eq_true hk0]; rfl
    have e0 : (List.replicate k.toNat xs).flatten = [] := by
      have : k.toNat = 0 := by omega
      rw [this]; rfl
    rw [e0] at q2
    refine wpAny_binaryOp_repeat_ref (T := "tuple") (U := "int") (by decide) ⟨_, ho, rfl⟩ (fun s' => typeIs_int s' k t) noFill_tuple_mul F.fills_int_mul F.slot_int_rmul repeat_tuple F.slot_int_index.lookup
      (call_meets F.slot_int_rmul (typeIs_int s k t) F.entry_int_rmul (F.args_int_rmul_2 _ _) (int_rmul_tuple k t l its.toArray n dd sl)
        ⟨ho, rfl, ⟨_, ho, rfl⟩, call_meets F.slot_tuple_mul ⟨_, ho, rfl⟩ F.entry_tuple_mul (F.args_tuple_mul_2 _ _) (tuple_mulZero l its.toArray n dd sl k t c0 c1 c2) ⟨ho, ?_⟩⟩)
    exact laidT (its := #[]) (h' := s.heap) (k := s.toks) I (fun _ _ e => e) (Nat.zero_le _) .nil (q2 hk1)
  have hm : ((its.toArray.size : Nat) : Int) * k ≤ 1000000 := by
    rw [hsz0]
    have a1 : ((xs.length : Nat) : Int) * k ≤ 1000 * k := Int.mul_le_mul_of_nonneg_right (by omega) (by omega)
    omega
  have flen : (List.replicate k.toNat its).flatten.length ≤ sizeLine := by
    rw [PyProof.Rows.lm_len_rep_flat, hle, sizeLine_eq]
    have a1 : k.toNat * xs.length ≤ 1000 * 1000 := Nat.mul_le_mul (by omega) hz
    omega
  have c2 : (decide (k ≤ 0) || its.toArray.isEmpty) = false := by
    rw [hi, Bool.or_false]
    exact decide_eq_false (by omega)
  have c4 : Builtin.Tuple.tupleTooMany (((its.toArray.size : Nat) : Int) * k) = false := by
    unfold Builtin.Tuple.tupleTooMany
    rw [sizeLine_eq]
    exact decide_eq_false (by omega)
  refine wpAny_binaryOp_repeat_ref (T := "tuple") (U := "int") (by decide) ⟨_, ho, rfl⟩ (fun s' => typeIs_int s' k t) noFill_tuple_mul F.fills_int_mul F.slot_int_rmul repeat_tuple F.slot_int_index.lookup
    (call_meets F.slot_int_rmul (typeIs_int s k t) F.entry_int_rmul (F.args_int_rmul_2 _ _) (int_rmul_tuple k t l its.toArray n dd sl)
      ⟨ho, rfl, ⟨_, ho, rfl⟩, call_meets F.slot_tuple_mul ⟨_, ho, rfl⟩ F.entry_tuple_mul (F.args_tuple_mul_2 _ _) (tuple_mulW l its.toArray n dd sl k t c0 c1 c2 (by omega) c4 (by rw [size_rep, List.size_toArray]; exact flen)) ⟨ho, ?_⟩⟩)
  rw [size_rep]
  refine laidT (h' := s.heap) (k := s.toks) I (fun _ _ e => e) ?_ ?_ (q2 hk1)
  · rw [PyProof.Rows.lm_len_rep_flat, sizeLine_eq]
    have a1 : k.toNat * xs.length ≤ 1000 * 1000 := Nat.mul_le_mul (by omega) hz
    omega
  · simpa using r.rep k.toNat
def mulT : D → D → Option D
  | .tup xs, .int k => if xs ≠ [] ∧ -1000 ≤ k ∧ k ≤ 1000 ∧ xs.length ≤ 1000 then some (.tup (List.replicate k.toNat xs).flatten) else none
  | _, _ => none
theorem opg_mulT : OpG X (binaryOp .Mult) mulT := by
  refine ⟨_, op_repX, fun x y z e G H vx vy Q s rx ry k => ?_⟩
  unfold mulT at e
  split at e
  · rename_i xs i
    split at e
    · rename_i hc
      obtain ⟨c1, c2, c3, c4⟩ := hc
      cases e
      obtain ⟨a, vs, rfl, h1, r1⟩ := rx.tup_pl
      obtain rfl := ry.int_inv
      refine ⟨a, i, vs, rfl, rfl, sqT_mono s h1.sq, fun e => c1 (List.eq_nil_of_length_eq_zero (by rw [← r1.length, e]; rfl)), c2, c3, by rw [r1.length]; exact c4, fun hk => ?_, fun _ => fin_tup s k (reps_rep r1 i.toNat)⟩
      subst hk
      have e1 : (List.replicate (1 : Int).toNat xs).flatten = xs := by simp
      rw [e1] at k
      exact k G H _ (Ext.refl _ _) rx
    · cases e
  · cases e
/-- * with tuples -/
def mulX (x y : D) : Option D := match x with
  | .tup _ => mulT x y
  | _ => mulD x y
theorem opg_mulX : OpG X (binaryOp .Mult) mulX := OpG.or opg_mul opg_mulT fun x y z h => by
  unfold mulX at h
  split at h
  · exact .inr h
  · exact .inl h
end
end Pk

namespace Pk
open PySem PySem.Spec PyProof.Rows L2
/-! ### is True -/
def isBD : D → D → Option D
  | .bl a, .bl b => some (.bl (decide (a = b)))
  | _, _ => none
def isNotBD : D → D → Option D
  | .bl a, .bl b => some (.bl (!decide (a = b)))
  | _, _ => none
section
variable {X : Cx}
theorem opg_isB : OpG X (compareOp .Is) isBD := by
  refine ⟨_, op_isBl, fun x y z e G H vx vy Q s rx ry k => ?_⟩
  unfold isBD at e
  split at e
  · rename_i a b
    cases e
    exact ⟨a, b, rx.bl_inv, ry.bl_inv, fin_flat (z := .bl (decide (a = b))) k .bl_of⟩
  · cases e
theorem opg_isNotB : OpG X (compareOp .IsNot) isNotBD := by
  refine ⟨_, op_notBl, fun x y z e G H vx vy Q s rx ry k => ?_⟩
  unfold isNotBD at e
  split at e
  · rename_i a b
    cases e
    exact ⟨a, b, rx.bl_inv, ry.bl_inv, fin_flat (z := .bl (!decide (a = b))) k .bl_of⟩
  · cases e
end
end Pk

set_option maxHeartbeats 2000000
/-! a lambda handed to a def that calls it -/
namespace Pk
open PySem PySem.Spec PyProof.Rows L2
/-- the call of a slot's function, the one at f being told: g of what it captured and of its argument -/
noncomputable def apF (f : Addr) (ws : List V) (g : List D → D → Option D) : D → D → Option D
  | .fn a vs cs, d => open Classical in if a = f ∧ vs = ws then g cs d else none
  | _, _ => none
theorem apF_some {f : Addr} {ws : List V} {g : List D → D → Option D} {x d z : D} (h : apF f ws g x d = some z) : ∃ cs, x = .fn f ws cs ∧ g cs d = some z := by
  unfold apF at h
  split at h
  · split at h
    · rename_i e; obtain ⟨rfl, rfl⟩ := e; exact ⟨_, rfl, h⟩
    · cases h
  · cases h
theorem apF_fn {f : Addr} {ws : List V} {cs : List D} {g : List D → D → Option D} {d : D} : apF f ws g (.fn f ws cs) d = g cs d := if_pos ⟨rfl, rfl⟩
def dSl (ds : List D) : Ro := ds.map fun d => some (.d d)
/-- what F gives of d and of any function that captured cs and gives g -/
noncomputable def hoF (F : (D → D → Option D) → M D) (g : List D → D → Option D) (cs : List D) (d : D) : Option D :=
  open Classical in if h : ∃ z, ∀ a ws, ∃ r', F (apF a ws g) (dSl [d, .fn a ws cs]) = some (z, r') then some h.choose else none
theorem hoF_of {F : (D → D → Option D) → M D} {g : List D → D → Option D} {cs : List D} {d z : D} (h : ∀ a ws, ∃ r', F (apF a ws g) (dSl [d, .fn a ws cs]) = some (z, r')) : hoF F g cs d = some z := by
  have e : ∃ z, ∀ a ws, ∃ r', F (apF a ws g) (dSl [d, .fn a ws cs]) = some (z, r') := ⟨z, h⟩
  unfold hoF
  rw [dif_pos e]
  obtain ⟨r1, h1⟩ := e.choose_spec 0 []
  obtain ⟨r2, h2⟩ := h 0 []
  rw [h1] at h2
  cases h2
  rfl
theorem hoF_some {F : (D → D → Option D) → M D} {g : List D → D → Option D} {cs : List D} {d z : D} (h : hoF F g cs d = some z) : ∀ a ws, ∃ r', F (apF a ws g) (dSl [d, .fn a ws cs]) = some (z, r') := by
  unfold hoF at h
  split at h
  · rename_i e
    cases h
    exact e.choose_spec
  · cases h
/-- a lambda's value at its argument and what it captured -/
def vlam (m : M D) (ds : List D) : Option D := (m (dSl ds)).map (·.1)
theorem vlam_some {m : M D} {ds : List D} {z : D} (h : vlam m ds = some z) : ∃ r, m (dSl ds) = some (z, r) := by
  unfold vlam at h
  cases e : m (dSl ds) with
  | none => rw [e] at h; cases h
  | some p => obtain ⟨d, r⟩ := p; rw [e] at h; cases h; exact ⟨r, rfl⟩
def lds : List Nat → M (List D)
  | [] => rt []
  | i :: is => bd (ld i) fun d => bd (lds is) fun ds => rt (d :: ds)
theorem lds_some : ∀ {js : List Nat} {r r' : Ro} {ds : List D}, lds js r = some (ds, r') → r' = r ∧ js.map (fun j => r[j]?) = ds.map fun d => some (some (.d d))
  | [], r, r', ds, h => by
    obtain ⟨rfl, rfl⟩ := rt_some h
    exact ⟨rfl, rfl⟩
  | j :: js, r, r', ds, h => by
    obtain ⟨d, r1, e1, e2⟩ := bd_some h
    obtain ⟨a1, rfl⟩ := ld_some e1
    obtain ⟨ds1, r2, e3, e4⟩ := bd_some e2
    obtain ⟨rfl, rfl⟩ := rt_some e4
    obtain ⟨rfl, h2⟩ := lds_some e3
    exact ⟨rfl, by rw [List.map_cons, List.map_cons, a1, h2]⟩
/-! arguments that are data only -/
theorem argS_d {r : Ro} : ∀ ds : List D, argS r (ds.map .v) = some (dSl ds)
  | [] => rfl
  | d :: ds => by rw [List.map_cons, argS, argS_d ds]; rfl
theorem putB_d {r : Ro} : ∀ (ds : List D) (ss : Ro), putB r (ds.map .v) ss = r
  | [], _ => by rw [List.map_nil]; cases ‹Ro› <;> rfl
  | d :: ds, [] => by rw [List.map_cons]; rfl
  | d :: ds, s :: ss => by rw [List.map_cons, putB, putB_d ds ss]
theorem slots_d : ∀ ds : List D, slots (ds.map .v) = []
  | [] => rfl
  | d :: ds => slots_d ds
theorem arR_d {K : KP} {G : Hp} {σ : L2.St} : ∀ {ds : List D} {vs : List V}, Reps K G ds vs → ArR K G σ (ds.map .v) vs
  | [], vs, h => h.nil_inv
  | d :: ds, vs, h => by
    obtain ⟨v, us, rfl, a, b⟩ := h.cons_inv
    exact ⟨v, us, rfl, a, arR_d b⟩
theorem data_rel {Θ : List (Addr × Str)} {K : KP} {G H : Hp} {r : Ro} {σ : L2.St} (R : Rel Θ K G H r σ) {ds : List D} {vs : List V} (q : Reps K G ds vs) : Rel Θ K G H (dSl ds) (vs.map some) :=
  args_rel R (argS_d ds) (arR_d q) (by rw [slots_d]; exact List.nodup_nil)
theorem data_back {Θ : List (Addr × Str)} {K : KP} {G H G' H' : Hp} {r ss' : Ro} {σ : L2.St} (R : Rel Θ K G H r σ) {ds : List D} {vs : List V} (q : Reps K G ds vs) (R' : Rel Θ K G' H' ss' (vs.map some)) (F : Fr G H (dSl ds) (vs.map some) G' H' ss' (vs.map some)) :
    Rel Θ K G' H' r σ ∧ Fr G H r σ G' H' r σ := by
  have := call_rel R (argS_d ds) (arR_d q) (by rw [slots_d]; exact List.nodup_nil) R' F
  rwa [putB_d] at this
theorem among_more {pos : Pos} {cv : Value} {m : List Value} : ∀ {l : List Value}, TriplesOk l → codeAmong pos l = some cv → codeAmong pos (l ++ m) = some cv := fun {l} => by
  fun_induction TriplesOk l with
  | case1 => intro _ e; simp [codeAmong] at e
  | case2 x t y u z rest ih =>
    intro h e
    simp only [List.cons_append, codeAmong] at e ⊢
    split at e
    · rename_i q; rw [if_pos q]; exact e
    · rename_i q; rw [if_neg q]; exact ih h e
  | case3 => intro h; exact h.elim
section
variable {Θ : List (Addr × Str)} {X : Cx} {pins : List (Addr × Obj)} {σ : L2.St} {H : Hp} {s : Shared}
/-- a lambda's object, and the table's word for its place -/
structure LamAt (H : Hp) (s : Shared) (P : Addr) (q : Str) (params : Arguments) (body : Expr) (scope : Scope) (cl : List (Str × Addr)) (pos : Pos) (f : Addr) (pm ctv : Value) (c' : Addr) : Prop where
  obj : s.heap.get? f = some (PySem.W.kla_obj "<lambda>" q params body scope cl pm c' ctv)
  free : H f = none
  tab : ∃ ps : Array Value, H P = some (.tbl ps) ∧ TriplesOk ps.toList ∧ codeAmong pos ps.toList = some (.ref c')
/-- behind, in any frame that began there -/
theorem LamAt.code {P : Addr} {q : Str} {params : Arguments} {body : Expr} {scope : Scope} {cl : List (Str × Addr)} {pos : Pos} {f : Addr} {pm ctv : Value} {c' : Addr} {H' : Hp} {s' : Shared} {fs : List Addr} {Pr : Program} {w : World}
    (L : LamAt H s P q params body scope cl pos f pm ctv c') (U : Un fs [] H H' s.heap s'.heap) (hok : HOk Pr w H' s'.heap) (T : LamX.TabS H' P q) : s'.heap.CodeRec (.ref c') q := by
  obtain ⟨ps, h1, h2, h3⟩ := L.tab
  obtain ⟨more, h4⟩ := U.tbls P ps h1
  obtain ⟨ps', k1, k2, k3⟩ := T
  rw [h4] at k1
  cases k1
  obtain ⟨c, e1, e2⟩ := k3 pos (.ref c') (by rw [Array.toList_append]; exact among_more h2 h3)
  cases e1
  exact NdefX.codeO_at hok e2
theorem lam_made {T : List (Addr × Str)} {c P : Addr} {params : Arguments} {body : Expr} {scope : Scope} {pos : Pos} {E : Value → Shared → Prop} {Q : Value → Shared → Prop} (I : Inv X pins σ H s) (TB : LamX.TabB X.base X.mg c P) (hcode : X.env.code = .ref c)
    (hm : (P, X.env.qual ++ "<lambda>") ∈ T) (hu : ∀ p ∈ T, p.1 = P → p.2 = X.env.qual ++ "<lambda>") (hT : LamX.Tabs T H) (hdef : defaultsOf params X.env = ([], [])) (hfree : ∀ y ∈ scope.names, y.2 = .free → ∃ c, X.env.cells.lookup y.1 = some c)
    (h : ∀ (f c' : Addr) (pm ctv : Value) (H1 : Hp) (s' : Shared), Inv X pins σ H1 s' → LamX.ExtN H H1 → LamX.Tabs T H1 → LamAt H1 s' P (X.env.qual ++ "<lambda>") params body scope (cloFrom X.env.cells scope.names []) pos f pm ctv c' → f ∉ frs X.stack → Q (.ref f) s') :
    wpAny (model X.prog X.w) X.A (eval (.Lambda params body scope pos) X.env) Q E s := by
  obtain ⟨ps, hP, ht, ha⟩ := hT _ hm
  have bP : s.heap.BuiltinsAt X.mg P := TB.bm.keeps I.bk
  have hP' : s.heap.get? P = some { cls := .none, data := .fields ps } := I.hok P _ hP
  have far : ∀ f, s.heap.objs.size ≤ f → f ∉ frs X.stack := fun f hf z => by
    rcases List.mem_cons.mp (I.stkSub _ z) with e | e
    · exact absurd (Nat.lt_of_lt_of_le (e ▸ I.lt) hf) (Nat.lt_irrefl _)
    · exact I.nofs hf e
  refine PySem.W.kla_eval hdef ?_
  rcases hc : codeAmong pos ps.toList with _ | cv
  · refine PySem.W.kla_makeFunction (mg := X.mg) (c := c) (P := P) (ps := ps) (closure_ok hfree) I.ok.glob (I.mod.glob.keeps I.bk) hcode (TB.code.keeps I.bk) hP' ht hc TB.gP bP fun c' ctv h' tk hx hge hlt hrec htb => ?_
    obtain ⟨c2, oc, vs, t, e2, hoc, hd, hv⟩ := hrec
    cases e2
    have nC : H c' = none := I.hok.fresh hge
    have szs : s.heap.objs.size ≤ h'.objs.size := Nat.le_trans hge (Nat.le_of_lt hlt)
    have keepB : ∀ b o, b ≠ P → s.heap.get? b = some o → (h'.push (PySem.W.kla_obj "<lambda>" (X.env.qual ++ "<lambda>") params body scope (cloFrom X.env.cells scope.names []) ((X.mg "__name__").getD .none) c' ctv)).get? b = some o := fun b o hb e => Heap.get?_push_of_some _ (hx b o hb e)
    have J := LamX.inv_table (t' := tk) (q := X.env.qual ++ "<lambda>") (more := #[rawInt pos.line, rawInt pos.col, .ref c']) I hP keepB (Heap.get?_push_of_some _ htb) hge ⟨oc, vs, t, Heap.get?_push_of_some _ hoc, hd, hv⟩
    have nPc : P ≠ c' := ne_of_none hP nC
    have old : ∀ b u, H b = some u → (∀ q, u ≠ .tbl q) → upd (upd H P (.tbl (ps ++ #[rawInt pos.line, rawInt pos.col, .ref c']))) c' (LamX.CodeO c' (X.env.qual ++ "<lambda>")) b = some u := fun b u e n => by
      rw [upd_ne (ne_of_none e nC), upd_ne (fun z => n ps (Option.some.inj (e.symm.trans (by rw [z]; exact hP))))]
      exact e
    have atP : upd (upd H P (.tbl (ps ++ #[rawInt pos.line, rawInt pos.col, .ref c']))) c' (LamX.CodeO c' (X.env.qual ++ "<lambda>")) P = some (.tbl (ps ++ #[rawInt pos.line, rawInt pos.col, .ref c'])) := by rw [upd_ne nPc, upd_same]
    have lst : (ps ++ #[rawInt pos.line, rawInt pos.col, .ref c']).toList = ps.toList ++ [rawInt pos.line, rawInt pos.col, .ref c'] := by simp
    have okT : TriplesOk (ps ++ #[rawInt pos.line, rawInt pos.col, .ref c']).toList := by rw [lst]; exact PySem.TriplesOk_snoc _ _ _ _ ht
    refine h h'.objs.size c' ((X.mg "__name__").getD .none) ctv _ _ J old (fun p hp => ?_) ⟨Heap.get?_push_size _ rfl, ?_, _, atP, okT, by rw [lst]; exact PySem.codeAmong_snoc _ ht hc⟩ (far _ szs)
    · by_cases hb : p.1 = P
      · rw [hu p hp hb, hb]
        refine ⟨_, atP, okT, fun p' w hw => ?_⟩
        rw [lst] at hw
        rcases LamX.among_app _ ht hw with z | z
        · obtain ⟨c0, e1, e2⟩ := ha p' w z
          exact ⟨c0, e1, old _ _ e2 LamX.codeO_ne⟩
        · exact ⟨c', z, upd_same⟩
      · obtain ⟨ps', a1, a2, a3⟩ := hT p hp
        refine ⟨ps', by rw [upd_ne (ne_of_none a1 nC), upd_ne hb]; exact a1, a2, fun p' w hw => ?_⟩
        obtain ⟨c0, e1, e2⟩ := a3 p' w hw
        exact ⟨c0, e1, old _ _ e2 LamX.codeO_ne⟩
    · rw [upd_ne (Nat.ne_of_gt hlt), upd_ne (Nat.ne_of_gt (Nat.lt_of_lt_of_le (Heap.lt_size hP') szs))]
      exact I.hok.fresh szs
  · obtain ⟨c', rfl, hco⟩ := ha pos cv hc
    refine PySem.W.kla_makeFunctionHit (mg := X.mg) (c := c) (P := P) (ps := ps) (closure_ok hfree) I.ok.glob (I.mod.glob.keeps I.bk) hcode (TB.code.keeps I.bk) hP' ht hc bP fun ctv h' tk hx hsz => ?_
    exact h h'.objs.size c' ((X.mg "__name__").getD .none) ctv H _ (I.kept fun b o e => Heap.get?_push_of_some _ (hx b o e)) (LamX.ExtN.refl H) hT ⟨Heap.get?_push_size _ rfl, I.hok.fresh hsz, ps, hP, ht, hc⟩ (far _ hsz)
/-- the cells that a function captured, in any frame that began behind its making -/
theorem cells_in {cl : List (Str × Addr)} {fr : List Str} {ws : List (Option V)} {H' : Hp} {s' : Shared} {fs : List Addr} (C : NdefX.CellsAt cl fr ws s.heap H) (U : Un fs [] H H' s.heap s'.heap) : NdefX.CellsAt cl fr ws s'.heap H' := by
  have kp : ∀ y c, cl.lookup y = some c → ∀ v, s.heap.IsCell c v → s'.heap.IsCell c v := fun y c e v ⟨o, ho, hd⟩ => by
    obtain ⟨sl, q⟩ := U.any ho (C.all y c e).1 (by simp)
    exact ⟨_, q, hd⟩
  refine ⟨C.len, fun y c e => ?_, C.inj, fun i y e => ?_⟩
  · obtain ⟨n, v, z⟩ := C.all y c e
    refine ⟨?_, v, kp y c e v z⟩
    obtain ⟨o, ho, _⟩ := z
    exact U.free c o ho n (by simp)
  · obtain ⟨c, hc, hv⟩ := C.has i y e
    refine ⟨c, hc, fun v ev => ?_⟩
    obtain ⟨u, r, z⟩ := hv v ev
    exact ⟨u, r, kp y c hc _ z⟩
abbrev lamF (q : Str) (params : Arguments) (scope : Scope) (cl : List (Str × Addr)) (c' : Addr) : NdefX.NF := ⟨"<lambda>", q, params, [], scope, cl, c'⟩
/-- y(e), in the def that got the lambda -/
theorem se_act {params : Arguments} {body : Expr} {scope : Scope} {q : Str} {cl : List (Str × Addr)} {f c' P : Addr} {lpos : Pos} {pm ctv : Value} {Nl fr : List Str} {y0 : Str} {vcs : List V} {ml : M D} {k i : Nat}
    {Ng : List Str} {qg : Str} {sg : Scope} {g : Addr} {cdg : Value} {y : Str} {e : Expr} {m : M D} {p1 p2 : Pos} {Z : Cx} (hZ : Z = (cxOf CX0 X.prog X.w X.kp X.mg X.base Ng qg sg g cdg X.A X.stack s H E0).nox)
    (L : LamAt H s P q params body scope cl lpos f pm ctv c') (hfr : f ∉ frs X.stack) (hTm : (P, q) ∈ Θ)
    (S : NdefX.NScope Nl [y0] fr scope) (hNl : Nl.length = 1 + fr.length) (C : NdefX.CellsAt cl fr (vcs.map some) s.heap H)
    (hbind : ∀ u : Value, bindArgs (PySem.W.kla_fn "<lambda>" q params body scope cl pm (.ref c') ctv) ⟨[u], []⟩ = pure ([y0].zip [u]))
    (hr : Room (k + 1) Z.A)
    (hbody : ∀ (A : Around) (outer : List Env) (s : Shared) (H : Hp) (f c' : Addr), Room k (A.deeper (NdefX.envF (lamF q params scope cl c') f s.heap.objs.size)) → SE Θ (NdefX.ncx CX0 X.prog X.w X.kp X.mg X.base Nl (lamF q params scope cl c') f A outer s H E0).nox body ml)
    (hN : Z.N[i]? = some y) (hv : Vis Z.env.scope y) (hm : SE Θ Z e m)
    (hd : (y == ("__debug__" : Str)) = false := by decide) (hcd : (y == ("__classdict__" : Str)) = false := by decide)
    (he : starEach [e] Z.env = (false, eval e Z.env) :: starEach [] Z.env := by rfl)
    (hpl : (backTo p2 (starEach [] Z.env)).any (·.1) = false := by rfl) :
    SE Θ Z (.Call (.Name y p1) [e] [] p2) (bd (ld i) fun fv => bd m fun d => of (apF f vcs (fun cs d => vlam ml (d :: cs)) fv d)) := by
  refine ⟨fun pinsZ sZ σZ HZ Q IZ h => ?_⟩
  obtain ⟨GZ, rZ, RZ, dz, rz', e1, kk⟩ := h
  obtain ⟨fv, r1, e2, e3⟩ := bd_some e1
  obtain ⟨hi, rfl⟩ := ld_some e2
  obtain ⟨d, r2, e4, e5⟩ := bd_some e3
  obtain ⟨e6, rfl⟩ := of_some e5
  obtain ⟨cs, rfl, e7⟩ := apF_some e6
  obtain ⟨vf, hs, rf⟩ := RZ.get i _ hi
  obtain ⟨rfl, rcs⟩ := rf.fn_inv
  refine wpAny_Call_Name_kw (thn ((pe_var (pos := p1) (i := i) hN hv hd hcd).run pinsZ sZ σZ HZ (fun v H1 => v = .ref f ∧ H1 = HZ) IZ ⟨.ref f, hs, rfl, rfl⟩) fun u s1 ⟨v, H1, I1, r1, q1⟩ => ?_)
  obtain ⟨ev, eH⟩ := q1
  subst ev
  rw [eH] at I1
  obtain rfl : u = Value.ref f := r1
  have fat : ∀ {σ2 : L2.St} {H2 : Hp} {s2 : Shared}, Inv Z pinsZ σ2 H2 s2 → s2.heap.get? f = some (PySem.W.kla_obj "<lambda>" q params body scope cl pm c' ctv) := fun {σ2 H2 s2} I => by
    subst hZ
    exact I.base.keep f _ L.obj L.free hfr (fun z => nomatch (show f ∈ ([] : List Addr) from z))
  have arg := (sa_cons (Θ := Θ) hm sa_nil he).run p2 pinsZ s1 σZ HZ (fun vs H1 => ∃ G1 v, vs = [v] ∧ Rel Θ Z.kp G1 H1 rz' σZ ∧ Fr GZ HZ r1 σZ G1 H1 rz' σZ ∧ Rep Z.kp G1 d v) I1 ⟨GZ, r1, RZ, [d], rz', by unfold bd; rw [e4]; rfl, fun G1 H1 R1 F1 vs rs => by
    obtain ⟨v, vs', rfl, a1, a2⟩ := rs.cons_inv
    exact ⟨G1, v, by rw [a2.nil_inv], R1, F1, a1⟩⟩
  refine PySem.W.callWith_F (first := []) ⟨_, _, _, _, fat I1⟩ (thn arg fun us s2 ⟨vs, H2, I2, vv, G2, v, hvs, R2, F2, rv⟩ => ⟨⟨_, _, _, _, fat I2⟩, ?_⟩) he hpl
  subst hvs
  obtain ⟨u2, hu2, v1⟩ : ∃ u2, us = [u2] ∧ L2.RelV v u2 := by
    cases vv with | cons v1 v2 =>
    cases v2
    exact ⟨_, rfl, v1⟩
  subst hu2
  show wpAny _ _ (call (.ref f) [u2]) _ _ _
  have un : Un (frs X.stack) [] H H2 s.heap s2.heap := by subst hZ; exact I2.base
  have C2 := cells_in C un
  obtain ⟨rb, e8⟩ := vlam_some e7
  have rep2 : Reps Z.kp G2 (d :: cs) (v :: vcs) := .cons rv (Reps.mono F2.le _ _ rcs)
  have hl2 : (v :: vcs).map some = NdefX.startF Nl [v] (vcs.map some) := by
    have := C.len
    rw [List.length_map] at this
    unfold NdefX.startF
    rw [List.length_map, hNl, this]
    simp
  have cd2 := L.code un (by have := I2.hok; subst hZ; exact this) (R2.tab.ok _ hTm)
  have rc : codeAny (model Z.prog Z.w) Z.A (.call (.ref f) ⟨[u2], []⟩) (CR CX0 Z.stack Z.prog Z.w H2 s2 Q E0) s2 := by
    refine PySem.W.kla_callFunE hr.depth (fat I2) rfl S.co S.gen rfl cd2 ?_
    rw [hbind]
    refine wpAny_pure (wpAny_newFunctionEnv S.nocell (fun ⟨n, _⟩ hy => S.par n (List.of_mem_zip hy).1) (fun h₁ hns hsb => ⟨I2.nolimit.fresh _ hsb, ?_⟩) S.kind)
    have kp : ∀ b o, s2.heap.get? b = some o → h₁.get? b = some o := fun b o e => hsb.extBut b o (Nat.ne_of_lt (Heap.lt_size e)) (Heap.get?_push_of_some _ e)
    have J : Inv (NdefX.ncx CX0 Z.prog Z.w Z.K Z.mg Z.base Nl (lamF q params scope cl c') f Z.A Z.stack s2 H2 E0) [] (NdefX.startF Nl [v] (vcs.map some)) H2 { s2 with heap := h₁, toks := s2.toks + 1 } :=
      NdefX.inv_startN (F := lamF q params scope cl c') S hr.hd I2.env0 rfl (.cons v1 .nil) C2 hns kp
    have hb := (hbody Z.A Z.stack s2 H2 f c' (hr.deeper _)).nox
    have hb' : SE Θ (NdefX.ncx CX0 Z.prog Z.w Z.K Z.mg Z.base Nl (lamF q params scope cl c') f Z.A Z.stack s2 H2 E0) body ml := by subst hZ; exact hb
    refine PySem.W.kla_codeExpr (wpAny_mono (hb'.run [] _ _ H2 Q J ⟨G2, dSl (d :: cs), by rw [← hl2]; exact data_rel R2 rep2, dz, rb, e8, fun G3 H3 R3 F3 w rw' => ?_⟩) (fun w s' hq => ?_) fun e s' hq => hq)
    · rw [← hl2] at R3 F3
      obtain ⟨R4, F4⟩ := data_back R2 rep2 R3 F3
      exact kk G3 H3 R4 (F2.trans F4) w rw'
    · obtain ⟨w', H', J', rv', q'⟩ := hq
      exact ⟨w', H', J'.os, J'.bare, J'.base, J'.hok, rv', q'⟩
  refine wpAny_call (codeAny_mono rc fun r s' hq => ?_)
  cases r with
  | error e => exact (show False from hq).elim
  | ok fl =>
    cases fl with
    | ret u => exact I2.after hq
    | next => exact False.elim hq
    | brk => exact False.elim hq
    | cont => exact False.elim hq
/-- nothing is said of code whose reading fails -/
theorem se_never {e : Expr} {m : M D} (h : ∀ r, m r = none) : SE Θ X e m := ⟨fun pins s σ H Q I q => by
  obtain ⟨G, r, R, d, r', e1, _⟩ := q
  rw [h r] at e1
  cases e1⟩
theorem se_noho {e : Expr} {m1 : M D} {js : List Nat} {α : Type} {F : D → List D → α → Option D} : SE Θ X e (bd m1 fun d => bd (lds js) fun cs => of ((none : Option α).bind (F d cs))) := se_never fun r => by
  unfold bd
  cases m1 r with
  | none => rfl
  | some p =>
    obtain ⟨d, r1⟩ := p
    dsimp only
    cases lds js r1 with
    | none => rfl
    | some q => rfl
/-- what may be called in the def that got the lambda -/
abbrev Acts (Θ : List (Addr × Str)) (Z : Cx) (y : Str) (i : Nat) (h : D → D → Option D) : Prop := ∀ (e : Expr) (m : M D) (p1 p2 : Pos), SE Θ Z e m → (starEach [e] Z.env = (false, eval e Z.env) :: starEach [] Z.env) →
  SE Θ Z (.Call (.Name y p1) [e] [] p2) (bd (ld i) fun fv => bd m fun d => of (h fv d))
theorem caps_rep {G : Hp} {r : Ro} (R : Rel Θ X.kp G H r σ) : ∀ {js : List Nat} {cs : List D}, js.map (fun j => r[j]?) = cs.map (fun d => some (some (Pk.S.d d))) → ∃ vcs : List V, js.map (NdefX.slotAt σ) = vcs.map some ∧ Reps X.kp G cs vcs
  | [], [], _ => ⟨[], rfl, .nil⟩
  | [], c :: cs, h => by cases h
  | j :: js, [], h => by cases h
  | j :: js, c :: cs, h => by
    rw [List.map_cons, List.map_cons] at h
    injection h with a1 a2
    obtain ⟨vcs, b1, b2⟩ := caps_rep R a2
    obtain ⟨v, b3, b4⟩ := R.get j c a1
    exact ⟨v :: vcs, by rw [List.map_cons, List.map_cons, b1, NdefX.slotAt_of b3], .cons b4 b2⟩
/-- x(e1, lambda y0: ..) -/
theorem se_ho {x : Str} {st : Stmt} {g c P : Addr} {fd : FuncData} {Ng Nl fr : List Str} {y1 y y0 : Str} {e1 : Expr} {m1 ml : M D} {params : Arguments} {body : Expr} {scope : Scope} {lpos p pos : Pos} {js : List Nat} {nl k : Nat} {bR : (D → D → Option D) → M Fl}
    (hs : SE Θ X e1 m1) (hg : Gl X x) (hm : X.mg x = some (.ref g)) (F : Fun X.kp x x st g fd) (hb : Binds X.kp fd [y1, y] []) (Sg : FnScope Ng [y1, y] (defScope st)) (hNg : Ng.length = 2 + nl)
    (TB : LamX.TabB X.base X.mg c P) (hcode : X.env.code = .ref c) (hT : (P, X.env.qual ++ "<lambda>") ∈ Θ) (hU : ∀ q ∈ Θ, q.1 = P → q.2 = X.env.qual ++ "<lambda>") (hr : Room (k + 2) X.A)
    (hdef : defaultsOf params X.env = ([], []))
    (hbind : ∀ (q : Str) (cl : List (Str × Addr)) (pm cv ctv u : Value), bindArgs (PySem.W.kla_fn "<lambda>" q params body scope cl pm cv ctv) ⟨[u], []⟩ = pure ([y0].zip [u]))
    (S : NdefX.NScope Nl [y0] fr scope) (hNl : Nl.length = 1 + fr.length) (hnd : NdefX.ndefB X.env.scope scope fr = true) (hjs : js.map (fun j => X.N[j]?) = fr.map some)
    (hbody : ∀ (q : Str) (cl : List (Str × Addr)) (A : Around) (outer : List Env) (s : Shared) (H : Hp) (f c' : Addr), Room k (A.deeper (NdefX.envF (lamF q params scope cl c') f s.heap.objs.size)) → SE Θ (NdefX.ncx CX0 X.prog X.w X.kp X.mg X.base Nl (lamF q params scope cl c') f A outer s H E0).nox body ml)
    (hR : ∀ (cdv : Value) (A : Around) (outer : List Env) (s : Shared) (H : Hp) (h : D → D → Option D), Room (k + 1) (A.deeper (envOfC x (defScope st) s.heap.objs.size g cdv)) → Acts Θ (cxOf CX0 X.prog X.w X.kp X.mg X.base Ng x (defScope st) g cdv A outer s H E0).nox y 1 h →
      SB Θ (cxOf CX0 X.prog X.w X.kp X.mg X.base Ng x (defScope st) g cdv A outer s H E0).nox (defBody st) (bR h))
    (hN1 : Ng[1]? = some y) (hv1 : Vis (defScope st) y)
    (hdb : (x == ("__debug__" : Str)) = false := by decide) (hd : (y == ("__debug__" : Str)) = false := by decide) (hcd : (y == ("__classdict__" : Str)) = false := by decide)
    (he : starEach [e1, .Lambda params body scope lpos] X.env = (false, eval e1 X.env) :: starEach [.Lambda params body scope lpos] X.env := by rfl)
    (he2 : starEach [.Lambda params body scope lpos] X.env = (false, eval (.Lambda params body scope lpos) X.env) :: starEach [] X.env := by rfl)
    (hpl : (backTo pos (starEach [.Lambda params body scope lpos] X.env)).any (·.1) = false := by rfl) :
    SE Θ X (.Call (.Name x p) [e1, .Lambda params body scope lpos] [] pos) (bd m1 fun d => bd (lds js) fun cs => of (hoF (fun h => bodyF 2 nl (bR h)) (fun cs d => vlam ml (d :: cs)) cs d)) := ⟨fun pins s σ H Q I q => by
  obtain ⟨G, r, R, z, r', e2, kk⟩ := q
  obtain ⟨d, r1, e3, e4⟩ := bd_some e2
  obtain ⟨cs, r2, e5, e6⟩ := bd_some e4
  obtain ⟨h2, hcs⟩ := lds_some e5
  subst h2
  obtain ⟨e7, h3⟩ := of_some e6
  subst h3
  refine wpAny_Call_Name_kw (ld_glob I hg hm ?_ hdb)
  refine PySem.W.callWith_K (h₀ := X.base) I.ok.mod.kin F.kp ?_ he hpl
  rw [he]
  show wpAny _ _ (spliced ((false, eval e1 X.env) :: backTo pos (starEach [.Lambda params body scope lpos] X.env))) _ _ s
  refine Calls.spliced_cons (thn (hs.run pins s σ H (fun v H1 => ∃ G1, Rel Θ X.kp G1 H1 r' σ ∧ Fr G H r σ G1 H1 r' σ ∧ Rep X.kp G1 d v) I ⟨G, r, R, d, r', e3, fun G1 H1 R1 F1 v rv => ⟨G1, R1, F1, rv⟩⟩) fun u1 s1 ⟨v1, H1, I1, rv1, G1, R1, F1, rep1⟩ => ?_)
  rw [he2]
  show wpAny _ _ (spliced ((false, eval (.Lambda params body scope lpos) X.env) :: backTo pos (starEach [] X.env))) _ _ s1
  have hfr := NdefX.ndef_free hnd
  have hfree : ∀ y ∈ scope.names, y.2 = .free → ∃ c, X.env.cells.lookup y.1 = some c := fun y hy e => (hfr y hy e).elim (fun z => I1.ok.has _ (.inl z)) fun z => I1.ok.has _ (.inr z)
  refine Calls.spliced_cons (lam_made I1 TB hcode hT hU R1.tab.ok hdef hfree fun f c' pm' ctv H2 s2 I2 eN T2 LA hf2 => ?_)
  refine Calls.spliced_nil ⟨I2.kIn, ?_⟩
  show wpAny _ _ (call (.ref g) [u1, .ref f]) _ _ _
  obtain ⟨vcs, hv1', hv2'⟩ := caps_rep R1 hcs
  have hs2 : Same G1 H2 := fun b u q => eN b u (R1.sub _ _ q) fun ts z => R1.tab.cl b ts (by rw [← z]; exact q)
  have R2 : Rel Θ X.kp G1 H2 r' σ := by
    refine ⟨R1.len, hs2, R1.get, fun i p ds z => ?_, R1.sep, ⟨T2, R1.tab.out, R1.tab.cl⟩⟩
    obtain ⟨a, vs, g1, g2, g3, g4⟩ := R1.own i p ds z
    exact ⟨a, vs, g1, eN _ _ g2 (fun ts z => by cases z), g3, g4⟩
  have F2 : Fr G1 H1 r' σ G1 H2 r' σ := by
    refine ⟨Same.refl _, fun b u q t n => ⟨eN b u q (fun ts z => by subst z; cases t), n, fun z => z⟩, fun i ds q => ⟨⟨ds, q⟩, rfl⟩, fun i q => ⟨q, rfl⟩, fun b h u q => ?_⟩
    cases t : tf u with
    | false => rfl
    | true =>
      have := h u (eN b u q fun ts z => by subst z; cases t)
      rw [t] at this; cases this
  have C2 : NdefX.CellsAt (cloFrom X.env.cells scope.names []) fr (vcs.map some) s2.heap H2 := by
    rw [← hv1']
    exact NdefX.cells_of I2 (NdefX.Caps.made I2.ok hfr (NdefX.ndef_fr hnd) hjs)
  obtain ⟨rb, e8⟩ := hoF_some e7 f vcs
  have rep2 : Reps X.kp G1 [d, .fn f vcs cs] [v1, .ref f] := .cons rep1 (.cons (.fn_of hv2') .nil)
  obtain ⟨oc, od, kV, doc, pm, an, cdv, ct, osl, rfl, lk, hcdv⟩ := F.ex
  have rc : codeAny (model X.prog X.w) X.A (.call (.ref g) ⟨[u1, .ref f], []⟩) (CR CX0 X.stack X.prog X.w H2 s2 Q E0) s2 := by
    refine LamX.run_ofS (N := Ng) (ps := [y1, y]) (us := [u1, .ref f]) (vs := [v1, .ref f]) lk hcdv Sg hr I2.env0 (hb s2 [u1, .ref f] I2.kIn rfl) (.cons rv1 (.cons rfl .nil)) rfl fun hr' => ?_
    have act : Acts Θ (cxOf CX0 X.prog X.w X.kp X.mg X.base Ng x (defScope st) g cdv X.A X.stack s2 H2 E0).nox y 1 (apF f vcs fun cs d => vlam ml (d :: cs)) := fun e m p1 p2 hm hst =>
      se_act rfl LA hf2 hT S hNl C2 (fun u => hbind _ _ _ _ _ u) hr' (hbody _ _) hN1 hv1 hm hd hcd hst
    refine ⟨_, (hR cdv X.A X.stack s2 H2 _ hr' act).nox, body_read hNg ⟨G1, _, data_rel R2 rep2, z, rb, e8, fun G3 H3 R3 F3 v rv => ?_⟩⟩
    obtain ⟨R4, F4⟩ := data_back R2 rep2 R3 F3
    exact kk G3 H3 R4 ((F1.trans F2).trans F4) v rv
  refine wpAny_call (codeAny_mono rc fun r s' hq => ?_)
  cases r with
  | error e => exact (show False from hq).elim
  | ok fl =>
    cases fl with
    | ret u => exact I2.after hq
    | next => exact False.elim hq
    | brk => exact False.elim hq
    | cont => exact False.elim hq⟩
end
end Pk

set_option maxHeartbeats 2000000
/-! xs[a:] = ys; t[::-1] of a tuple; xs[a:b] of one's own list; bool(..) -/
namespace Pk
open PySem PySem.Spec PyProof.Rows L2
/-! ### xs[a:] = ys -/
section
variable {prog : Program} {w : World} {A : Around} {E : Value → Shared → Prop} {s : Shared}
theorem bounds_from {a n : Nat} (h : a ≤ n) : sliceBounds (some (a : Int)) none none n = ((a : Int), (n : Int), 1) := by
  have := slice_bounds (some (a : Int)) none n
  obtain ⟨h1, h2, h3⟩ := this
  refine Prod.ext ?_ (Prod.ext ?_ h3)
  · rw [h1]
    show (((if (a : Int) < 0 then ((a : Int) + (n : Int)).toNat else min ((a : Int)).toNat n) : Nat) : Int) = (a : Int)
    rw [if_neg (by omega)]
    omega
  · rw [h2]; rfl
theorem setItem_from {l b sl : Addr} {items new : Array Value} {n n2 : Nat} {vl : Value} {a : Nat} {Q : Unit → Shared → Prop}
    (e : s.heap.get? l = some { cls := .type "list", data := .seq items n }) (e2 : s.heap.get? b = some { cls := .type "list", data := .seq new n2 }) (hne : l ≠ b)
    (hs : s.heap.IsSliceOf sl vl .none .none) (pl : IsPart vl (some (a : Int))) (ha : a ≤ items.size) (hsz : items.size + new.size ≤ sizeLine)
    (h : Q () { s with heap := s.heap.update l (Obj.mapSeq fun xs => xs.extract 0 a ++ new ++ xs.extract items.size xs.size) }) :
    wpAny (model prog w) A (setItem (.ref l) (.ref sl) (.ref b)) Q E s := by
  have tl : s.TypeIs (.ref l) "list" := (PySem.IsL.isList e).typeIs
  have tb : s.TypeIs (.ref b) "list" := (PySem.IsL.isList e2).typeIs
  obtain ⟨os, hos, hcs, hds⟩ := id hs
  have ts : s.TypeIs (.ref sl) "slice" := ⟨os, hos, hcs⟩
  have diff : Builtin.List.listSameRef (.ref l) (.ref b) = false := beq_eq_false_iff_ne.mpr hne
  have step : ¬ ((rawPart none == rawInt 0) = true) := Bool.false_ne_true
  have hz' : ((fun xs : Array Value => xs.extract 0 a ++ new ++ xs.extract items.size xs.size) items).size ≤ sizeLine + 1 := by
    simp only [Array.size_append, Array.size_extract]
    omega
  have hmax : (max (a : Int) (items.size : Int)).toNat = items.size := by omega
  unfold setItem
  try with_reducible refine wpAny_holding ?_
  first | refine wpAny_bind (wpAny_pure ?_) | skip
  refine wpAny_bind (wpAny_sequenceKey tl (by decide) ?_)
  refine wpAny_bind (wpAny_callSpecial?_slot (name := Str.ofString "__setitem__") tl slot_list_setitem (wpAny_call_entry slot_list_setitem tl entry_list_setitem ?_ (args_list_setitem _ _ _)))
  show wpAny _ _ (Builtin.List.listSubscript? (.ref sl) >>= _) _ _ s
  refine wpAny_bind ?_
  unfold Builtin.List.listSubscript?
  refine wpAny_bind (wpAny_specialOf ts slice_no_index ?_)
  simp only [Option.isNone_none, if_true]
  refine wpAny_pure ?_
  show wpAny _ _ (typeOf (.ref sl) >>= _) _ _ s
  refine wpAny_bind (wpAny_typeOf ts ?_)
  first
    | rw [if_neg (by decide)]
    | refine PySem.W.KFB.if_not (by decide) ?_
  rw [listSliceParts_eq]
  refine wpAny_bind (wpAny_bind (wpAny_field hos hds (x := .none) rfl (wpAny_bind (wpAny_listPart .none ?_))))
  rw [if_neg step]
  refine wpAny_bind (wpAny_field hos hds (x := vl) rfl (wpAny_bind (wpAny_listPart pl ?_)))
  refine wpAny_bind (wpAny_field hos hds (x := .none) rfl (wpAny_bind (wpAny_listPart .none (wpAny_pure ?_))))
  first
    | simp only [diff, Bool.false_eq_true, if_false]
    | refine PySem.W.KFB.if_not diff ?_
  refine wpAny_bind (m := Builtin.List.listAllItems (.ref b) "must assign iterable to extended slice") ?_
  unfold Builtin.List.listAllItems
  refine wpAny_bind (wpAny_typeOf tb ?_)
  first
    | refine PySem.W.KFB.if_so (by decide) ?_
    | rw [if_pos (by decide)]
    | simp only [beq_self_eq_true, Bool.true_or, if_true]
  unfold Builtin.List.listItems
  refine wpAny_bind (wpAny_seqItems e2 rfl (wpAny_pure ?_))
  refine wpAny_bind (wpAny_bind (wpAny_seqItems e rfl (wpAny_pure ?_)))
  refine wpAny_bind (wpAny_of_eq ((sliceIndices_raw (some (a : Int)) none none items.size (by simp)).trans (congrArg (pure : Int × Int × Int → Sem (Int × Int × Int)) (bounds_from ha))) ?_)
  show wpAny _ _ (if ((1 : Int) == 1) = true then _ else _) _ _ s
  rw [if_pos (by decide)]
  refine wpAny_bind (wpAny_rule ?_)
  first
    | simp only [notLongL hsz, Bool.false_eq_true, if_false]
    | refine PySem.W.KFB.if_not (notLongL hsz) ?_
  first | refine wpAny_bind (wpAny_pure ?_) | skip
  show wpAny _ _ (updateSeq l (fun xs => xs.extract 0 ((a : Int)).toNat ++ new ++ xs.extract (max (a : Int) (items.size : Int)).toNat xs.size) >>= _) _ _ s
  rw [hmax, Int.toNat_natCast]
  refine wpAny_bind (wpAny_updateSeq (hz := Nat.le_trans (Nat.le_add_right _ _) hsz) (_hz' := hz') e rfl ?_)
  refine wpAny_bind (wpAny_letGo ?_)
  first
    | exact wpAny_bind (wpAny_pure (wpAny_pure ⟨.none, rfl, wpAny_pure h⟩))
    | exact wpAny_pure ⟨.none, rfl, wpAny_pure h⟩
end
section
variable {X : Cx}
/-- o[lo:] = .. -/
def gFrom (to : TE) (tl : TO) : TG := fun v σ H Q => to σ H fun o H1 => tl σ H1 fun l H2 => ∃ a b xs ys n, o = .ref a ∧ v = .ref b ∧ l = some n ∧ 0 ≤ n ∧ n ≤ (xs.length : Int) ∧ H2 a = some (.lst xs) ∧ H2 b = some (.lst ys) ∧ a ≠ b ∧ xs.length + ys.length ≤ sizeLine ∧
  Q σ (upd H2 a (.lst (xs.take n.toNat ++ ys)))
theorem pg_from {o lo : Expr} {to : TE} {tl : TO} {p2 pos : Pos} (ho : PE X o to) (hl : PO X (some lo) tl)
    (ha : ∀ v, assign (.Subscript o (.Slice (some lo) none none p2) pos) X.env v = (do
      let ov ← holding [v] (eval o X.env)
      let iv ← holding [v, ov] (eval (.Slice (some lo) none none p2) X.env)
      standAt pos
      holding [v, ov, iv] (setItem ov iv v)
      release [iv, v, ov] []) := by intro _; rfl) : PG X (.Subscript o (.Slice (some lo) none none p2) pos) (gFrom to tl) := by
  refine ⟨fun pins s σ H v u Q I r h => ?_⟩
  rw [ha]
  refine wpAny_bind (wpAny_holding (thn (ho.run pins s σ H _ I h) fun ov s1 ⟨x, H1, I1, r1, q1⟩ => ?_))
  refine wpAny_bind (wpAny_holding ?_)
  refine wpAny_Slice (thn (hl.run pins s1 σ H1 _ I1 q1) fun vl s2 ⟨l, H2, I2, pl, q2⟩ => ?_)
  rw [evalPart_none]
  refine wpAny_pure ?_
  refine wpAny_pure ?_
  obtain ⟨a, b, xs, ys, n, rfl, rfl, rfl, h0, hn, hA, hB, hne, hz, q⟩ := q2
  cases r1
  cases r
  have I3 : Inv X pins σ H2 { s2 with heap := s2.heap.push { cls := .type "slice", data := .fields #[vl, .none, .none] } } := I2.kept (t' := s2.toks) fun b ob q => Heap.get?_push_of_some _ q
  obtain ⟨k, rfl⟩ := Int.eq_ofNat_of_zero_le h0
  simp only [Int.toNat_natCast] at q
  obtain ⟨z, its, n1, r, hl1, e⟩ := I3.lstM hA
  obtain ⟨z2, its2, n2, r2, hl2, e2⟩ := I3.lstM hB
  refine wpAny_bind (wpAny_standAt (wpAny_bind (wpAny_holding ?_)))
  refine setItem_from (a := k) e e2 hne (Heap.IsSliceOf.new _ vl .none .none) pl (by rw [List.size_toArray]; omega) (by rw [List.size_toArray, List.size_toArray]; omega) ?_
  refine wpAny_release ⟨σ, _, ?_, q⟩
  refine I3.lset (its' := its.take k ++ its2) (t' := s2.toks) hA e ?_ (Vals.append (r.take _) r2) (by rw [List.length_append, List.length_take]; omega)
  have := splice_eq its its2 k its.length
  rw [List.drop_length, List.append_nil] at this
  simpa using this
end
section
variable {Θ : List (Addr × Str)} {X : Cx} {e a b : Expr} {m mb : M D} {i : Nat} {pos : Pos}
def stFrom (i : Nat) (k d : D) : Ro → Option Ro := fun r => match r[i]?, k, d with
  | some (some (.own p ds)), .int n, .lst es => if 0 ≤ n ∧ n ≤ (ds.length : Int) ∧ ds.length + es.length ≤ sizeLine then some (r.set i (some (.own p (ds.take n.toNat ++ es)))) else none
  | _, _, _ => none
theorem stFrom_some {k d : D} {r r' : Ro} (h : stFrom i k d r = some r') : ∃ p ds n es, r[i]? = some (some (.own p ds)) ∧ k = .int n ∧ d = .lst es ∧ 0 ≤ n ∧ n ≤ (ds.length : Int) ∧ ds.length + es.length ≤ sizeLine ∧ r' = r.set i (some (.own p (ds.take n.toNat ++ es))) := by
  unfold stFrom at h
  split at h
  · rename_i p ds n es hi
    split at h
    · rename_i hc; cases h; exact ⟨p, ds, n, es, hi, rfl, rfl, hc.1, hc.2.1, hc.2.2, rfl⟩
    · cases h
  · cases h
/-- x[k:] = e of one's own list -/
theorem ss_from {spos p2 : Pos} (ho : PE X a (tVar i)) (hb : SE Θ X b mb) (he : SE Θ X e m)
    (ha : ∀ v, assign (.Subscript a (.Slice (some b) none none p2) spos) X.env v = (do
      let ov ← holding [v] (eval a X.env)
      let iv ← holding [v, ov] (eval (.Slice (some b) none none p2) X.env)
      standAt spos
      holding [v, ov, iv] (setItem ov iv v)
      release [iv, v, ov] []) := by intro _; rfl)
    (hs : swapsWithSole [.Subscript a (.Slice (some b) none none p2) spos] e pos.line X.env = pure false := by rfl) (hw : swappedStores [.Subscript a (.Slice (some b) none none p2) spos] e X.env = pure none := by rfl)
    (h1 : (assignEach [.Subscript a (.Slice (some b) none none p2) spos] X.env).map (·.2) = [assign (.Subscript a (.Slice (some b) none none p2) spos) X.env] := by rfl) :
    SS Θ X (.Assign [.Subscript a (.Slice (some b) none none p2) spos] e pos) (bd m fun d => bd (own i) fun _ => bd mb fun k => nxt (stFrom i k d)) := by
  refine ps_imp (ps_asg he (pg_from ho (po_some hb) ha) hs hw h1) fun σ H E q => ?_
  obtain ⟨G, r0, R, c⟩ := q
  refine ⟨G, r0, R, (cs_bd c).mono fun d G1 H1 ⟨r1, R1, s1, c1⟩ v rv => ?_⟩
  obtain ⟨p0, ds0, hi0, c1⟩ := cs_own c1
  obtain ⟨a, vs0, h1, h2, h3, h4⟩ := R1.own i p0 ds0 hi0
  refine ⟨.ref a, h1, G1, r1, R1, (cs_bd c1).mono fun k G2 H2 ⟨r2, R2, s2, c2⟩ vk rk => ?_⟩
  obtain ⟨r3, e3, kk⟩ := cs_nxt c2
  obtain ⟨p, ds, n, es, hi, rfl, rfl, h0, hn, hz, rfl⟩ := stFrom_some e3
  obtain ⟨a', vs, g1, g2, g3, g4⟩ := R2.own i _ _ hi
  rw [h1] at g1
  cases g1
  obtain rfl := rk.int_inv
  obtain ⟨c', us, rfl, u1, u2⟩ := (Rep.mono s2 _ _ rv).lst_eq
  have hne : a ≠ c' := fun z => by rw [z] at g3; rw [u1] at g3; cases g3
  obtain ⟨R', F'⟩ := chg_rel R2 hi h1 g2 g3 ((g4.take n.toNat).app u2)
  exact ⟨n, rfl, a, c', vs, us, n, rfl, rfl, rfl, h0, by rw [g4.length]; exact hn, g2, R2.sub _ _ u1, hne, by rw [g4.length, u2.length]; exact hz, kk G2 _ σ R' F'⟩
/-- x[lo:hi] of one's own list -/
theorem se_slO {lo hi : Option Expr} {p2 : Pos} {ml mh : M (Option Int)} (ha : PE X a (tVar i)) (hl : SO Θ X lo ml) (hh : SO Θ X hi mh) :
    SE Θ X (.Subscript a (.Slice lo hi none p2) pos) (bd (own i) fun _ => bd ml fun l => bd mh fun h => bd (own i) fun ds => of (slD (.lst ds) l h)) := by
  refine pe_imp (pe_slice sl_list ha hl hh) fun σ H Q q => ?_
  obtain ⟨G, r0, R, c⟩ := q
  obtain ⟨p0, ds0, hi0, c⟩ := cn_own c
  obtain ⟨a, vs0, h1, h2, h3, h4⟩ := R.own i p0 ds0 hi0
  refine ⟨.ref a, h1, G, r0, R, (cn_bd c).mono fun l G2 H2 ⟨r2, R2, s2, c2⟩ => ⟨G2, r2, R2, (cn_bd c2).mono fun h G3 H3 ⟨r3, R3, s3, c3⟩ => ?_⟩⟩
  obtain ⟨p2, ds2, hi2, c3⟩ := cn_own c3
  obtain ⟨a', vs2, g1, g2, g3, g4⟩ := R3.own i p2 ds2 hi2
  rw [h1] at g1
  cases g1
  obtain ⟨z, hz, k⟩ := cn_of R3 c3
  cases hz
  exact ⟨a, vs2, rfl, SqL.of g2, fin_lst R3.sub (fun G' H' v ex rv => k G' H' ex v rv) (g4.cut l h)⟩
end
/-! ### t[::-1] of a tuple -/
section
variable {prog : Program} {w : World} {A : Around} {E : Value → Shared → Prop} {s : Shared}
theorem places_rev (n : Nat) : Builtin.Slice.slicePlaces ((n : Int) - 1) (-1) (-1) = n := by
  unfold Builtin.Slice.slicePlaces
  rw [if_neg (by decide)]
  split
  · rw [show (-(-1 : Int)) = 1 from rfl, Int.ediv_one]; omega
  · omega
theorem applied_rev {sl : Addr} {vs : Value} {n : Nat} {Q : Int × Int × Nat → Shared → Prop} (hs : s.heap.IsSliceOf sl .none .none vs) (ps : IsPart vs (some (-1)))
    (h : Q ((n : Int) - 1, -1, n) s) : wpAny (model prog w) A (Builtin.Slice.sliceApplied (.ref sl) (pure (n : Int))) Q E s := by
  obtain ⟨os, hos, hcs, hds⟩ := id hs
  unfold Builtin.Slice.sliceApplied Builtin.Slice.sliceFields
  refine wpAny_bind (wpAny_bind (wpAny_field hos hds (x := .none) rfl (wpAny_bind (wpAny_field hos hds (x := .none) rfl (wpAny_bind (wpAny_field hos hds (x := vs) rfl (wpAny_pure ?_)))))))
  refine wpAny_bind (HT.slicePart_ ps ?_)
  show wpAny _ _ (if ((-1 : Int) == 0) = true then _ else _) _ _ s
  rw [if_neg (by decide)]
  refine wpAny_bind (HT.slicePart_ .none (wpAny_bind (HT.slicePart_ .none (wpAny_bind (wpAny_pure ?_)))))
  show wpAny _ _ (pure ((n : Int) - 1, (-1 : Int), Builtin.Slice.slicePlaces ((n : Int) - 1) (-1) (-1))) _ _ s
  rw [places_rev]
  exact wpAny_pure h
theorem fm_congr {α β : Type} {f g : α → Option β} : ∀ {l : List α}, (∀ k ∈ l, f k = g k) → l.filterMap f = l.filterMap g
  | [], _ => rfl
  | a :: l, h => by
    rw [List.filterMap_cons, List.filterMap_cons, h a List.mem_cons_self, fm_congr fun k hk => h k (List.mem_cons_of_mem _ hk)]
theorem pick_rev (xs : Array Value) : ((List.range xs.size).filterMap fun (k : Nat) => xs[((xs.size : Int) - 1 + (k : Int) * -1).toNat]?) = xs.toList.reverse := by
  have e : (List.range xs.size).filterMap (fun (k : Nat) => xs[((xs.size : Int) - 1 + (k : Int) * -1).toNat]?) = (List.range xs.toList.reverse.length).filterMap fun k => xs.toList.reverse[k]? := by
    have hl : xs.toList.reverse.length = xs.size := by simp
    rw [hl]
    refine fm_congr fun k hk => ?_
    have hk : k < xs.size := List.mem_range.mp hk
    have hi : ((xs.size : Int) - 1 + (k : Int) * -1).toNat = xs.size - 1 - k := by omega
    rw [hi, List.getElem?_reverse (by simpa using hk)]
    simp
  rw [e]
  generalize xs.toList.reverse = l
  have : ∀ l : List Value, (List.range l.length).filterMap (fun k => l[k]?) = l := fun l => by
    induction l with
    | nil => rfl
    | cons x l ih =>
      rw [List.length_cons, List.range_succ_eq_map, List.filterMap_cons, List.filterMap_map]
      simp only [List.getElem?_cons_zero]
      congr 1
  exact this l
theorem getItem_tuple_rev {t sl : Addr} {items : Array Value} {vs : Value} {Q : Value → Shared → Prop} (ht : IsTup s.heap t items) (hs : s.heap.IsSliceOf sl .none .none vs) (ps : IsPart vs (some (-1)))
    (h : Q (.ref s.heap.objs.size) { s with heap := s.heap.push { cls := .type "tuple", data := .seq items.toList.reverse.toArray } }) (hsz : items.size ≤ sizeLine) : wpAny (model prog w) A (getItem (.ref t) (.ref sl)) Q E s := by
  have hz : sizeOk (.seq items.toList.reverse.toArray) := by
    show items.toList.reverse.toArray.size ≤ sizeLine
    simpa using hsz
  obtain ⟨os, hos, hcs, hds⟩ := id hs
  have ts : s.TypeIs (.ref sl) "slice" := ⟨os, hos, hcs⟩
  unfold getItem
  try with_reducible refine wpAny_holding ?_
  first | refine wpAny_bind (wpAny_pure ?_) | skip
  refine wpAny_bind (wpAny_sequenceKey ht.typeIs (by decide) ?_)
  refine wpAny_bind (wpAny_callSpecial?_slot (name := Str.ofString "__getitem__") ht.typeIs PyProof.Rows.slot_tuple_getitem (wpAny_call_entry PyProof.Rows.slot_tuple_getitem ht.typeIs entry_tuple_getitem ?_ (args_tuple_getitem _ _)))
  show wpAny _ _ (Builtin.Tuple.tupleItemsOf (.ref t) >>= _) _ _ s
  refine wpAny_bind (tupleItemsOf_ ht ?_)
  refine wpAny_bind (wpAny_typeOf ts ?_)
  rw [if_pos (by decide)]
  refine wpAny_bind (applied_rev hs ps ?_)
  have hno : ¬ ((((items.size : Int) - 1) == 0 && (-1 : Int) == 1 && items.size == items.size) = true) := by
    rw [show ((-1 : Int) == 1) = false by decide, Bool.and_false, Bool.false_and]; exact Bool.false_ne_true
  show wpAny _ _ (if (((items.size : Int) - 1) == 0 && (-1 : Int) == 1 && items.size == items.size) = true then _ else _) _ _ s
  rw [if_neg hno, pick_rev]
  first
    | exact wpAny_bind (m := Builtin.Tuple.tupleExact _) (wpAny_newObj_type (wpAny_pure ⟨_, rfl, wpAny_pure h⟩) hz)
    | exact wpAny_bind (m := Builtin.Tuple.tupleExact _) (wpAny_newObj_type (wpAny_bind (wpAny_pure (wpAny_pure ⟨_, rfl, wpAny_pure h⟩))) hz)
    | exact wpAny_bind (wpAny_bind (m := Builtin.Tuple.tupleExact _) (wpAny_newObj_type (wpAny_pure (wpAny_pure ⟨_, rfl, wpAny_pure h⟩)) hz))
    | exact wpAny_bind (wpAny_bind (m := Builtin.Tuple.tupleExact _) (wpAny_newObj_type (wpAny_pure ⟨_, rfl, wpAny_pure h⟩) hz))
end
section
variable {Θ : List (Addr × Str)} {X : Cx} {e : Expr} {m : M D} {k : Nat} {p1 p2 p3 pos : Pos}
def tRevT (K : KP) (te : TE) : TE := fun σ H Q => te σ H fun x H1 => ∃ a xs, x = .ref a ∧ SqT K H1 a xs ∧ NwT xs.reverse H1 Q
theorem pe_revT {te : TE} (he : PE X e te) : PE X (.Subscript e (.Slice none none (some (.UnaryOp .USub (.Constant (.int 1) k p1) p2)) p3) pos) (tRevT X.kp te) := by
  refine ⟨fun pins s σ H Q I h => ?_⟩
  refine Subscript_ (thn (he.run pins s σ H _ I h) fun v s1 ⟨x, H1, I1, r1, q1⟩ => ?_)
  obtain ⟨a, xs, rfl, hx, q⟩ := q1
  cases r1
  have hst : PO X (some (.UnaryOp .USub (.Constant (.int 1) k p1) p2)) (tPart (tUn (rU fun i => .int (-i)) (tC (.int 1)))) := po_some (pe_un un_neg pe_int)
  refine wpAny_Slice ?_
  rw [evalPart_none]
  refine wpAny_pure ?_
  refine wpAny_pure ?_
  refine thn (hst.run pins s1 σ H1 (fun o H4 => o = some (-1) ∧ H4 = H1) I1 ⟨1, rfl, -1, rfl, rfl, rfl⟩) fun vs s4 ⟨o, H4, I4, ps, eo, e4⟩ => ?_
  subst eo e4
  have I5 : Inv X pins σ H4 { s4 with heap := s4.heap.push { cls := .type "slice", data := .fields #[.none, .none, vs] } } := I4.kept (t' := s4.toks) fun b ob q => Heap.get?_push_of_some _ q
  obtain ⟨its, r, ht, hz⟩ := I5.tuple hx
  show wpAny (model X.prog X.w) X.A (subscriptTail e (.Slice none none (some (.UnaryOp .USub (.Constant (.int 1) k p1) p2)) p3) (.ref a) (.ref s4.heap.objs.size)) (EP X pins σ Q) X.xe { s4 with heap := s4.heap.push { cls := .type "slice", data := .fields #[.none, .none, vs] } }
  refine tail_any (ops := [.ref a, .ref s4.heap.objs.size]) ht.typeIs (PyProof.Rows.slot_tuple_getitem.lookup) ?_ (by with_unfolding_all rfl)
  refine getItem_tuple_rev ht (Heap.IsSliceOf.new _ .none .none vs) ps ?_ (by rw [List.size_toArray, ← r.length]; exact hz)
  exact laidT (h' := s4.heap.push { cls := .type "slice", data := .fields #[.none, .none, vs] }) (k := s4.toks) I5 (fun _ _ e => e) (by rw [List.length_reverse]; exact hz) (by simpa using r.reverse) q
def revTD : D → Option D
  | .tup ds => some (.tup ds.reverse)
  | _ => none
theorem se_revT (he : SE Θ X e m) : SE Θ X (.Subscript e (.Slice none none (some (.UnaryOp .USub (.Constant (.int 1) k p1) p2)) p3) pos) (bd m fun d => of (revTD d)) := pe_imp (pe_revT he) fun σ H Q q => by
  obtain ⟨G, r, R, c⟩ := q
  refine ⟨G, r, R, (cn_bd c).mono fun x G1 H1 ⟨r1, R1, s1, c1⟩ vx rx => ?_⟩
  obtain ⟨z, hz, kk⟩ := cn_of R1 c1
  cases x with
  | tup xs =>
    cases hz
    obtain ⟨a, vs, rfl, h1, rr⟩ := rx.tup_inv
    exact ⟨a, vs, rfl, sqT_mono R1.sub h1, fin_tup R1.sub (fun G' H' v ex rv => kk G' H' ex v rv) rr.rev⟩
  | _ => cases hz
end
/-! ### bool(..) -/
theorem bool_tup_meets (l : Addr) (items : Array Value) (hfit : (items.size : Int) < 2 ^ 63) :
    Meets (Builtin.«bool.__new__» ⟨[.type "bool", .ref l], []⟩) (fun _ R s => IsTup s.heap l items ∧ R (.ok (.ret (.bool (!items.isEmpty)))) { s with toks := s.toks + 1 + 1 }) :=
  Meets.of_wp fun prog w A R s hs => by
    obtain ⟨hl, hs⟩ := hs
    obtain ⟨hp, g, d, tk, os⟩ := s
    have f1 := F.conv_sub_bool
    repeat (any_goals (first | assumption | (with_reducible refine truthy_tuple hl hfit ?_) | wp_step))
    all_goals first | exact ⟨_, rfl, hs⟩ | exact hs | skip
theorem call_boolT {X : Cx} : CallR X (.type "bool") (fun xs H Q => ∃ (a : Addr) (zs : List V), xs = [.ref a] ∧ SqT X.kp H a zs ∧ Q (.bl (!zs.isEmpty)) H) := by
  intro pins s σ H xs us Q I r h
  obtain ⟨a, zs, rfl, hq, q⟩ := h
  obtain rfl := Vals.ref1 r
  obtain ⟨its, rv, pl, hz⟩ := I.tuple hq
  have hl := line63
  have hlen := rv.length
  refine PySem.call_bool_1 (bool_tup_meets a its.toArray (by simp only [List.size_toArray]; omega)) ⟨pl, rfl, ?_⟩
  exact ⟨.bl (!zs.isEmpty), H, I.tok _, by rw [isEmpty_of rv]; rfl, q⟩
def boolT : List D → Option D
  | [.tup ds] => some (.bl (!ds.isEmpty))
  | _ => none
theorem cg_boolT {X : Cx} : CallG X (.type "bool") boolT := by
  refine ⟨_, call_boolT, fun xs z e G H vs Q s rs k => ?_⟩
  unfold boolT at e
  split at e
  · rename_i ds
    cases e
    obtain ⟨v, rfl, r⟩ := rs.one
    obtain ⟨a, us, rfl, q, rr⟩ := r.tup_inv
    refine ⟨a, us, rfl, sqT_mono s q, ?_⟩
    rw [← reps_empty rr]
    exact fin_flat k .bl_of
  · cases e
end Pk

set_option maxHeartbeats 2000000
/-! f-strings; str.replace in a def whose parameters give out tokens -/
namespace Pk
open PySem PySem.Spec PyProof.Rows L2
section
variable {Θ : List (Addr × Str)} {X : Cx} {e o : Expr} {m : M D} {pos : Pos}
/-! ### f-strings -/
def fmtD : D → Option D
  | .str x => if x.length ≤ sizeLine then some (.str x) else none
  | .int i => if i.natAbs.log2 < 1920 then some (.str (toString i)) else none
  | _ => none
theorem se_fmt (he : SE Θ X e m) : SE Θ X (.FormattedValue e (-1) none pos) (bd m fun d => of (fmtD d)) := pe_imp (pe_fmt he) fun σ H Q q => by
  obtain ⟨G, r, R, c⟩ := q
  refine ⟨G, r, R, (cn_bd c).mono fun x G1 H1 ⟨r1, R1, s1, c1⟩ vx rx => ?_⟩
  obtain ⟨z, hz, kk⟩ := cn_of R1 c1
  cases x with
  | str y =>
    replace hz : (if y.length ≤ sizeLine then some (D.str y) else none) = some z := hz
    split at hz
    · rename_i hc
      cases hz
      obtain rfl := rx.str_inv
      exact .inl ⟨y, rfl, hc, fin_flat (X := X) (fun G' H' v ex rv => kk G' H' ex v rv) .str_of⟩
    · cases hz
  | int i =>
    replace hz : (if i.natAbs.log2 < 1920 then some (D.str (toString i)) else none) = some z := hz
    split at hz
    · rename_i hc
      cases hz
      obtain rfl := rx.int_inv
      exact .inr ⟨i, rfl, hc, fin_flat (X := X) (fun G' H' v ex rv => kk G' H' ex v rv) .str_of⟩
    · cases hz
  | _ => cases hz
/-- a text behind what was written -/
def gluD (acc : Str) : D → Option Str
  | .str y => if (acc ++ y).length ≤ sizeLine then some (acc ++ y) else none
  | _ => none
def jsM : List (M D) → Str → M Str
  | [], acc => rt acc
  | m :: ms, acc => bd m fun d => bd (of (gluD acc d)) fun a => jsM ms a
inductive SJ (Θ : List (Addr × Str)) (X : Cx) : List Expr → List (M D) → Prop where
  | nil : SJ Θ X [] []
  | cons {e : Expr} {m : M D} {es : List Expr} {ms : List (M D)} (h : SE Θ X e m) (r : SJ Θ X es ms) : SJ Θ X (e :: es) (m :: ms)
theorem SJ.pj {es : List Expr} {ms : List (M D)} (h : SJ Θ X es ms) : PJ X es (ms.map (rdE Θ X.kp)) := by
  induction h with
  | nil => exact .nil
  | cons h r ih => exact .cons h ih
theorem js_read {σ : L2.St} : ∀ (ms : List (M D)) (acc : Str) {G H : Hp} {r : Ro} {Q : VK}, Rel Θ X.kp G H r σ → Cn Θ X.kp G H r σ (jsM ms acc r) (fun x G' H' => ∀ v, Rep X.kp G' (.str x) v → Q v H') → tJs (ms.map (rdE Θ X.kp)) acc σ H fun out H1 => Q (.str out) H1
  | [], acc, G, H, r, Q, R, c => by
    exact cn_rt R c G H (Ext.refl _ _) (.str acc) .str_of
  | m :: ms, acc, G, H, r, Q, R, c => by
    refine ⟨G, r, R, (cn_bd c).mono fun d G1 H1 ⟨r1, R1, s1, c1⟩ v rv => ?_⟩
    obtain ⟨a, r2, e2, q2⟩ := cn_bd c1
    obtain ⟨e3, rfl⟩ := of_some e2
    obtain ⟨r3, R3, s3, c3⟩ := q2 G1 H1 R1 (Fr.refl _ _ _ _)
    cases d with
    | str y =>
      replace e3 : (if (acc ++ y).length ≤ sizeLine then some (acc ++ y) else none) = some a := e3
      split at e3
      · rename_i hc
        cases e3
        obtain rfl := rv.str_inv
        exact ⟨y, rfl, hc, js_read ms _ R3 c3⟩
      · cases e3
    | _ => cases e3
theorem se_joined {v1 v2 : Expr} {rest : List Expr} {ms : List (M D)} (h : SJ Θ X (v1 :: v2 :: rest) ms) : SE Θ X (.JoinedStr (v1 :: v2 :: rest) pos) (bd (jsM ms Str.empty) fun x => rt (.str x)) := pe_imp (pe_joined h.pj) fun σ H Q q => by
  obtain ⟨G, r, R, c⟩ := q
  exact js_read ms Str.empty R ((cn_bd c).mono fun x G1 H1 ⟨r1, R1, s1, c1⟩ v rv => cn_rt R1 c1 G1 H1 (Ext.refl _ _) v rv)
theorem se_joined1 (he : SE Θ X e m) : SE Θ X (.JoinedStr [e] pos) m := pe_joined1 he
/-! ### replace -/
theorem pet_imp {t u : TE} (h : PET X e t) (k : ∀ σ H Q, u σ H Q → t σ H Q) : PET X e u := fun pins s σ H Q h0 I q => h pins s σ H Q h0 I (k _ _ _ q)
abbrev SEt (Θ : List (Addr × Str)) (X : Cx) (e : Expr) (m : M D) : Prop := PET X e (rdE Θ X.kp m)
theorem set_of (h : SE Θ X e m) : SEt Θ X e m := CwR.PET.of h
def sreplD (y z : Str) : D → Option D
  | .str x => if x.length + (x.length + 1) * z.length ≤ 16777216 then some (.str (Txt.replace x y z)) else none
  | _ => none
theorem set_repl {y z : Str} {j k : Nat} {c0 c1 apos : Pos} (ho : SEt Θ X o m) (hyz : (y == z) = false := by decide)
    (hst : starEach [.Constant (.str y) j c0, .Constant (.str z) k c1] X.env = [(false, eval (.Constant (.str y) j c0) X.env), (false, eval (.Constant (.str z) k c1) X.env)] := by rfl)
    (hbase : attributeBase o "replace" X.env (eval o X.env) = eval o X.env := by rfl) (hline : (apos.endLine == pos.line) = true := by rfl) :
    SEt Θ X (.Call (.Attribute o "replace" apos) [.Constant (.str y) j c0, .Constant (.str z) k c1] [] pos) (bd m fun d => of (sreplD y z d)) := pet_imp (CwR.pet_replT ho hyz hst hbase hline) fun σ H Q q => by
  obtain ⟨G, r, R, c⟩ := q
  refine ⟨G, r, R, (cn_bd c).mono fun x G1 H1 ⟨r1, R1, s1, c1⟩ vx rx => ?_⟩
  obtain ⟨u, hu, kk⟩ := cn_of R1 c1
  cases x with
  | str w =>
    replace hu : (if w.length + (w.length + 1) * z.length ≤ 16777216 then some (D.str (Txt.replace w y z)) else none) = some u := hu
    split at hu
    · rename_i hc
      cases hu
      obtain rfl := rx.str_inv
      exact ⟨w, rfl, hc, fin_flat (X := X) (fun G' H' v ex rv => kk G' H' ex v rv) .str_of⟩
    · cases hu
  | _ => cases hu
theorem pst_set {i : Nat} {x : Str} {te : TE} {pos' : Pos} (hN : X.N.Nodup) (hi : X.N[i]? = some x) (hx : Loc X.env.scope x) (he : PET X e te) (hs : swapsWith e (some (.Name x pos')) pos.line X.env = pure false := by rfl) (hf : X.fn x = true ∨ X.env.scope.names.lookup x = some .local := by first | exact .inl rfl | exact .inr rfl | assumption) :
    PST X (.Assign [.Name x pos'] e pos) (tAsg te (gName i)) := by
  intro pins s σ H D h0 I h
  refine wpAny_Assign_Name (thn (he pins s σ H _ h0 I h) fun v s1 ⟨y, H1, I1, r1, q1⟩ => ?_) hs
  exact store_ok I1 hN hi hx r1 (fun s2 I2 => ⟨_, H1, I2, q1⟩) hf
theorem pst_imp {st : Stmt} {t u : TS} (h : PST X st t) (k : ∀ D σ H, u D σ H → t D σ H) : PST X st u := fun pins s σ H D h0 I q => h pins s σ H D h0 I (k _ _ _ q)
theorem psst_imp {st : List Stmt} {t u : TS} (h : PSsT X st t) (k : ∀ D σ H, u D σ H → t D σ H) : PSsT X st u := fun pins s σ H D h0 I q => h pins s σ H D h0 I (k _ _ _ q)
abbrev SSt (Θ : List (Addr × Str)) (X : Cx) (st : Stmt) (m : M Fl) : Prop := PST X st (rdS Θ X.kp m)
abbrev SBt (Θ : List (Addr × Str)) (X : Cx) (st : List Stmt) (m : M Fl) : Prop := PSsT X st (rdS Θ X.kp m)
theorem sst_set {i : Nat} {x : Str} {pos' : Pos} (hN : X.N.Nodup) (hi : X.N[i]? = some x) (hx : Loc X.env.scope x) (he : SEt Θ X e m) (hs : swapsWith e (some (.Name x pos')) pos.line X.env = pure false := by rfl) (hf : X.fn x = true ∨ X.env.scope.names.lookup x = some .local := by first | exact .inl rfl | exact .inr rfl | assumption) :
    SSt Θ X (.Assign [.Name x pos'] e pos) (bd m fun d => nxt (setD i d)) := pst_imp (pst_set hN hi hx he hs hf) fun D σ H q => asg_read nm_read q
end
section
variable {Θ : List (Addr × Str)} {X : Cx}
theorem sbt_cons {st : Stmt} {sts : List Stmt} {m n : M Fl} (h1 : SSt Θ X st m) (h2 : SB Θ X sts n) : SBt Θ X (st :: sts) (seqM m n) := psst_imp (psst_cons h1 (PSsT.of h2)) fun D σ H q => by
  obtain ⟨G, r, R, c⟩ := q
  exact ⟨G, r, R, cs_seq c⟩
/-! ### powers of larger bases -/
def CPowB (i j : Int) : Prop := 0 ≤ j ∧ (Builtin.Int.intBits i : Int) * j ≤ 2 ^ 27
theorem op_powB : OpR X (binaryOp .Pow) (rI CPowB fun i j => .int (i ^ j.toNat)) := opI fun _ _ _ _ _ _ _ hc q => PyProof.Rows.pow_int hc.1 hc.2 q
def powB : D → D → Option D := onI (fun i j => decide (0 ≤ j ∧ (Builtin.Int.intBits i : Int) * j ≤ 2 ^ 27)) fun i j => .int (i ^ j.toNat)
theorem opg_powB : OpG X (binaryOp .Pow) powB := opg_int op_powB (fun _ _ h => by unfold CPowB; exact of_decide_eq_true h) fun _ _ _ => .int_of
end
/-- a def whose body wants a token -/
theorem fn_okT {Θ : List (Addr × Str)} {P : Program} {w : World} {K : PySem.W.Frag} {mg : Str → Option Value} {base : Heap} {x qual : Str} {st : Stmt} {f : Addr} {fd : FuncData} {N ps : List Str} {k n nl : Nat} {m : M Fl} (F : Fun K x qual st f fd) (Sc : FnScope N ps (defScope st)) (hn : ps.length = n) (hN : N.length = n + nl)
    (hbody : ∀ (cdv : Value) (A : Around) (outer : List Env) (s : Shared) (H : Hp) (E : XK), Room k (A.deeper (envOfC qual (defScope st) s.heap.objs.size f cdv)) →
      SBt Θ (cxOf CX0 P w K mg base N qual (defScope st) f cdv A outer s H E) (defBody st) m) (hnc : ∀ y ∈ (defScope st).names, y.2 ≠ .cell := by decide +kernel) (hps : 1 ≤ ps.length := by decide) : FnOk P w K mg base CX0 (k + 1) f fd ps (spF Θ ⟨K, P, w⟩ n (bodyF n nl m)) := by
  obtain ⟨oc, od, kV, doc, pm, an, cdv, ct, osl, rfl, lk, hcd⟩ := F.ex
  refine fn_ofT lk hcd Sc hnc hps (fun vs H Q E h => by rw [hn]; exact h.1) (fun A outer s H vs Q E hr h => ?_)
  exact ⟨_, hbody cdv A outer s H E hr, body_read hN h.2⟩
end Pk

set_option maxHeartbeats 2000000
/-! x.extend(a tuple) -/
namespace Pk
open PySem PySem.Spec PyProof.Rows L2
section
theorem extend_tuple (l : Addr) (items : Array Value) (n : Nat) (b : Addr) (items2 : Array Value) (hs0 : ¬(!items.isEmpty && Builtin.List.listTooLong (items.size + items2.size)) = true) (hs1 : items.size ≤ sizeLine) (hs2 : items.size + items2.size ≤ sizeLine + 1) :
    Meets (Builtin.«list.extend» ⟨[.ref l, .ref b], []⟩) (fun _ R s => s.heap.get? l = some { cls := .type "list", dict := none, data := .seq items n, slots := #[] } ∧ IsTup s.heap b items2 ∧ R (.ok (.ret Value.none)) { s with heap := s.heap.update l (Obj.mapSeq fun x => x ++ items2), toks := s.toks }) :=
  .of_wp fun prog w A R s h => by
    obtain ⟨hp, g, d, tk, os⟩ := s; obtain ⟨hl, hb, h⟩ := h; have f1 := AutoSeq1.idx_int; have f2 := AutoSeq1.sub_tuple_tuple; have f3 := AutoSeq1.sub_list_list; have f4 := AutoSeq1.sub_tuple_list; have f5 := AutoSeq1.sub_list_tuple;
    have hz' : (items ++ items2).size ≤ sizeLine + 1 := by rw [Array.size_append]; exact hs2
    obtain ⟨o, hb1, hb2, n2, hb3⟩ := hb
    obtain ⟨oc, od, oda, osl⟩ := o
    simp only at hb2 hb3
    subst hb2 hb3
    wp_walk using (wpAny_updateSeq hl rfl (hz := hs1) (_hz' := hz')), wpAny_loadPart' hl, wpAny_loadPart' hb1; exact ⟨_, rfl, h⟩
end
section
variable {Θ : List (Addr × Str)} {X : Cx} {e a : Expr} {pos : Pos} {m : M D} {i : Nat}
def rExtT (K : KP) : V → List V → Hp → VK → Prop := fun x vs H Q => rExtend' x vs H Q ∨ ∃ l b xs zs, x = .ref l ∧ vs = [.ref b] ∧ H l = some (.lst xs) ∧ SqT K H b zs ∧ xs.length + zs.length ≤ sizeLine ∧ Q .non (upd H l (.lst (xs ++ zs)))
theorem mt_extT : MtM X "list.extend" (rExtT X.kp) := by
  intro pins s σ H x vs v us Q I rx rv h
  rcases h with h | h
  · exact mt_extend' pins s σ H x vs v us Q I rx rv h
  obtain ⟨l, b, xs, zs, rfl, rfl, hH, hB, hz, q⟩ := h
  cases rx
  obtain ⟨u, rfl, ru⟩ := rv.one
  cases ru
  obtain ⟨z, its, n, r, hl, e⟩ := I.lstM hH
  obtain ⟨its2, r2, ht, z2⟩ := I.tuple hB
  have hl2 := r2.length
  have hsz : its.toArray.size + its2.toArray.size ≤ sizeLine := by rw [List.size_toArray, List.size_toArray]; omega
  have hlong : ¬ (!its.toArray.isEmpty && Builtin.List.listTooLong (its.toArray.size + its2.toArray.size)) = true := by
    rw [notLongL hsz, Bool.and_false]
    exact Bool.false_ne_true
  refine call_meets F.slot_list_extend ⟨_, e, rfl⟩ F.entry_list_extend (F.args_list_extend_2 _ _)
    (extend_tuple l its.toArray n b its2.toArray hlong (by rw [List.size_toArray]; omega) (by omega)) ⟨e, ht, ?_⟩
  refine ⟨.non, _, I.lset (its' := its ++ its2) hH e (by simp) (r.append r2) ?_, rfl, q⟩
  rw [List.length_append]
  omega
/-- x.extend(e) of a list or a tuple -/
def exD : D → Option (List D)
  | .lst es => some es
  | .tup es => some es
  | _ => none
def extN (i : Nat) (d : D) : Ro → Option Ro := fun r => match r[i]?, exD d with
  | some (some (.own p ds)), some es => if ds.length + es.length ≤ sizeLine then some (r.set i (some (.own p (ds ++ es)))) else none
  | _, _ => none
theorem extN_some {d : D} {r r' : Ro} (h : extN i d r = some r') : ∃ p ds es, r[i]? = some (some (.own p ds)) ∧ exD d = some es ∧ ds.length + es.length ≤ sizeLine ∧ r' = r.set i (some (.own p (ds ++ es))) := by
  unfold extN at h
  split at h
  · rename_i p ds es hi he
    split at h
    · cases h; exact ⟨p, ds, es, hi, he, by assumption, rfl⟩
    · cases h
  · cases h
theorem ss_extN {apos ppos : Pos} (ho : PE X a (tVar i)) (he : SE Θ X e m) (hbase : attributeBase a "extend" X.env (eval a X.env) = eval a X.env := by rfl)
    (hfew : ((backTo ppos (starEach [e] X.env)).all (fun x => !x.1) && (backToKw ppos (keywordEach [] X.env)).all (fun x => x.1.isSome)
      && decide (([e] : List Expr).length + ([] : List Keyword).length + (if ([] : List Keyword).isEmpty then 0 else 1) < 30)) = true := by rfl)
    (hline : (apos.endLine == ppos.line) = true := by rfl) (hs : starEach [e] X.env = (false, eval e X.env) :: starEach [] X.env := by rfl) (hplain : (backTo ppos (starEach [] X.env)).any (·.1) = false := by rfl)
    (hsw : swapsWith (.Call (.Attribute a "extend" apos) [e] [] ppos) none pos.line X.env = pure false := by rfl) :
    SS Θ X (.Expr (.Call (.Attribute a "extend" apos) [e] [] ppos) pos) (bd (own i) fun _ => bd m fun d => nxt (extN i d)) := by
  refine ps_imp (ps_expr (pe_bm PySem.F.plainAttrs_list PySem.F.slot_list_extend PySem.F.type_list_extend mt_extT ho (pa_cons he pa_nil hs) hbase hfew hline hs hplain) hsw) fun σ H E q => ?_
  obtain ⟨G, r0, R, c⟩ := q
  obtain ⟨p0, ds0, hi0, c⟩ := cs_own c
  obtain ⟨a, vs0, h1, h2, h3, h4⟩ := R.own i p0 ds0 hi0
  refine ⟨.ref a, h1, .inl ⟨rfl, _, SqL.of h2⟩, G, r0, R, (cs_bd c).mono fun d G2 H2 ⟨r2, R2, s2, c2⟩ v rv => ?_⟩
  obtain ⟨r3, e3, k⟩ := cs_nxt c2
  obtain ⟨p, ds, es, hi, hd, hc, rfl⟩ := extN_some e3
  obtain ⟨a', vs, g1, g2, g3, g4⟩ := R2.own i _ _ hi
  rw [h1] at g1
  cases g1
  cases d with
  | lst es' =>
    cases hd
    obtain ⟨b, us, rfl, q, rs⟩ := rv.lst_inv
    obtain ⟨R', F'⟩ := chg_rel R2 hi h1 g2 g3 (g4.app rs)
    exact .inl ⟨a, b, vs, us, rfl, rfl, g2, rd_mono R2.sub q, by rw [g4.length, rs.length]; exact hc, k G2 _ σ R' F'⟩
  | tup es' =>
    cases hd
    obtain ⟨b, us, rfl, q, rs⟩ := rv.tup_inv
    obtain ⟨R', F'⟩ := chg_rel R2 hi h1 g2 g3 (g4.app rs)
    exact .inr ⟨a, b, vs, us, rfl, rfl, g2, sqT_mono R2.sub q, by rw [g4.length, rs.length]; exact hc, k G2 _ σ R' F'⟩
  | _ => cases hd
end
theorem extN_ok {i : Nat} {r : Ro} {p : Bool} {d : D} {ds es : List D} (h : r[i]? = some (some (.own p ds))) (he : exD d = some es) (hl : ds.length + es.length ≤ 10000000) : extN i d r = some (r.set i (some (.own p (ds ++ es)))) := by
  unfold extN
  rw [h, he]
  dsimp only
  rw [if_pos (Nat.le_trans hl (by decide))]
end Pk

set_option maxHeartbeats 2000000
/-! x[::-1] of a list, as a value -/
namespace Pk
open PySem PySem.Spec PyProof.Rows L2
section
variable {Θ : List (Addr × Str)} {X : Cx} {e : Expr} {m : M D} {k : Nat} {p1 p2 p3 pos : Pos}
def revVD : D → Option D
  | .lst ds => some (.lst ds.reverse)
  | .ro ds => some (.lst ds.reverse)
  | _ => none
theorem se_revV (he : SE Θ X e m) : SE Θ X (.Subscript e (.Slice none none (some (.UnaryOp .USub (.Constant (.int 1) k p1) p2)) p3) pos) (bd m fun d => of (revVD d)) := pe_imp (pe_revL he) fun σ H Q q => by
  obtain ⟨G, r, R, c⟩ := q
  refine ⟨G, r, R, (cn_bd c).mono fun x G1 H1 ⟨r1, R1, s1, c1⟩ vx rx => ?_⟩
  obtain ⟨z, hz, kk⟩ := cn_of R1 c1
  cases x with
  | lst xs =>
    cases hz
    obtain ⟨a, vs, rfl, h1, rr⟩ := rx.lst_inv
    exact ⟨a, vs, rfl, sqL_mono (K := X.kp) R1.sub (.inl h1), fin_lst R1.sub (fun G' H' v ex rv => kk G' H' ex v rv) rr.rev⟩
  | ro xs =>
    cases hz
    obtain ⟨a, vs, rfl, h1, rr⟩ := rx.ro_inv
    exact ⟨a, vs, rfl, sqL_mono R1.sub h1, fin_lst R1.sub (fun G' H' v ex rv => kk G' H' ex v rv) rr.rev⟩
  | _ => cases hz
end
end Pk

set_option maxHeartbeats 2000000
/-! {'k': ['s', ..], ..}[d] -/
namespace Pk
open PySem PySem.Spec PyProof.Rows L2
theorem mergeK_new : ∀ (more kvs : List (Key × V)), (more.map (·.1)).Nodup → (∀ p ∈ more, ∀ q ∈ kvs, q.1 ≠ p.1) → mergeK kvs more = kvs ++ more
  | [], kvs, _, _ => (List.append_nil kvs).symm
  | p :: more, kvs, hn, hd => by
    rw [List.map_cons, List.nodup_cons] at hn
    show mergeK (putK kvs p.1 p.2) more = _
    have e : putK kvs p.1 p.2 = kvs ++ [p] := by
      unfold putK
      rw [if_neg]
      rw [List.any_eq_true]
      rintro ⟨q, hq, h⟩
      exact hd p (List.mem_cons_self ..) q hq (of_decide_eq_true h)
    rw [e, mergeK_new more (kvs ++ [p]) hn.2 (fun a ha q hq => ?_), List.append_assoc]
    · rfl
    · rcases List.mem_append.mp hq with hq | hq
      · exact hd a (List.mem_cons_of_mem _ ha) q hq
      · obtain rfl := List.mem_singleton.mp hq
        exact fun z => hn.1 (List.mem_map.mpr ⟨a, ha, z.symm⟩)
def tSt : List Str → TA
  | [] => tNil
  | s :: ss => tCons (tC (.str s)) (tSt ss)
theorem tSt_run : ∀ (ss : List Str) {σ : L2.St} {H : Hp} {Q : List V → Hp → Prop}, Q (ss.map V.str) H → tSt ss σ H Q
  | [], _, _, _, q => q
  | s :: ss, σ, H, Q, q => tSt_run ss (σ := σ) (H := H) (Q := fun xs H2 => Q (.str s :: xs) H2) q
def trOf (r : Str × List Str) : TE × TE := (tC (.str r.1), tLst (tSt r.2))
theorem pairs_mk : ∀ (T : List (Str × List Str)) {σ : L2.St} {H : Hp} {Q : List (V × V) → Hp → Prop}, (∀ r ∈ T, r.2.length ≤ sizeLine) →
    (∀ (as : List Addr) (H' : Hp), as.length = T.length → Same H H' → (∀ (i : Nat) r a, T[i]? = some r → as[i]? = some a → H' a = some (.lst (r.2.map V.str)) ∧ H a = none) → (∀ b, nw H' b → nw H b) → Q ((T.zip as).map fun p => (V.str p.1.1, V.ref p.2)) H') → tPairs (T.map trOf) σ H Q
  | [], σ, H, Q, _, q => q [] H rfl (Same.refl _) (fun i r a h => by simp at h) fun _ h => h
  | r :: T, σ, H, Q, hl, q => by
    show tLst (tSt r.2) σ H fun y H2 => tPairs (T.map trOf) σ H2 fun ps H3 => Q ((.str r.1, y) :: ps) H3
    refine tSt_run r.2 ⟨by rw [List.length_map]; exact hl r (List.mem_cons_self ..), fun a ha => ?_⟩
    have s1 : Same H (upd H a (.lst (r.2.map V.str))) := same_new ha _
    refine pairs_mk T (fun r' hr => hl r' (List.mem_cons_of_mem _ hr)) fun as H' hlen hs hg hnw => ?_
    refine q (a :: as) H' (by rw [List.length_cons, List.length_cons, hlen]) (s1.trans hs) (fun i r' a' h1 h2 => ?_) fun b hb => same_nw s1 (hnw b hb)
    cases i with
    | zero =>
      simp at h1 h2
      subst h1 h2
      exact ⟨hs _ _ upd_same, ha⟩
    | succ i =>
      simp at h1 h2
      obtain ⟨h3, h4⟩ := hg i r' a' h1 h2
      refine ⟨h3, ?_⟩
      by_cases z : a' = a
      · subst z; exact ha
      · rwa [upd_ne z] at h4
def dispD (T : List (Str × List Str)) : D → Option D
  | .str k => match T.find? (fun r => r.1 == k) with
    | some r => some (.lst (r.2.map D.str))
    | none => none
  | _ => none
theorem strs_reps {K : KP} {G : Hp} : ∀ ss : List Str, Reps K G (ss.map D.str) (ss.map V.str)
  | [] => .nil
  | s :: ss => .cons .str_of (strs_reps ss)
section
variable {Θ : List (Addr × Str)} {X : Cx} {b : Expr} {i : Nat} {pos spos : Pos} {keys : List (Option Expr)} {values : List Expr} {T : List (Str × List Str)}
theorem se_disp (h : PPs X pos keys values (T.map trOf)) (hv : PE X b (tVar i)) (hu : X.A.units + 200 < cLine) (hT : (T.map (·.1)).Nodup) (hl : ∀ r ∈ T, r.2.length ≤ 15) (ht : T.length ≤ 15)
    (hall : keys.all (·.isSome) = true := by rfl) (hlk : keys.length = values.length := by rfl) (h0 : keys ≠ [] := by simp) (h15 : keys.length ≤ 15 := by decide) (hs : NoSl b := by intro _ _; rfl) :
    SE Θ X (.Subscript (.Dict keys values pos) b spos) (bd (ld i) fun d => of (dispD T d)) := by
  refine pe_imp (pe_dget (by omega) (pe_disp h hall hlk h0 h15) hv hs) fun σ H Q q => ?_
  obtain ⟨G, r, R, c⟩ := q
  intro p hp
  refine pairs_mk T (fun r hr => Nat.le_trans (hl r hr) (by decide)) fun as H2 hlen hs2 hg hnw => ?_
  have s0 : Same H (upd H p (.dK [])) := same_new hp _
  refine ⟨hs2 _ _ upd_same, (T.zip as).map fun z => (Sum.inr z.1.1, V.ref z.2), by rw [List.map_map]; rfl, by rw [List.length_map, List.length_zip]; omega, ?_⟩
  obtain ⟨x, r1, e1, kk⟩ := cn_bd c
  obtain ⟨a1, rfl⟩ := ld_some e1
  obtain ⟨v, hσ, rv⟩ := R.get i x a1
  refine ⟨v, hσ, ?_⟩
  obtain ⟨r2, R2, s2, c3⟩ := kk G H R (Fr.refl _ _ _ _)
  obtain ⟨z, hz, fin⟩ := cn_of R2 c3
  cases x with
  | str k =>
    obtain rfl := rv.str_inv
    unfold dispD at hz
    dsimp only at hz
    split at hz
    · rename_i row hf
      cases hz
      have hmem := List.mem_of_find?_eq_some hf
      have hk : row.1 = k := eq_of_beq (List.find?_some (p := fun r : Str × List Str => r.1 == k) hf)
      obtain ⟨j, hj⟩ := List.mem_iff_getElem?.mp hmem
      have hjl : j < T.length := (List.getElem?_eq_some_iff.mp hj).1
      obtain ⟨a, ha⟩ : ∃ a, as[j]? = some a := ⟨as[j]'(by omega), List.getElem?_eq_getElem (by omega)⟩
      obtain ⟨g1, g2⟩ := hg j row a hj ha
      have hnd : (((T.zip as).map fun z : (Str × List Str) × Addr => ((Sum.inr z.1.1 : Key), V.ref z.2)).map (·.1)).Nodup := by
        have e : ((T.zip as).map fun z : (Str × List Str) × Addr => ((Sum.inr z.1.1 : Key), V.ref z.2)).map (·.1) = (T.map (·.1)).map Sum.inr := by
          rw [List.map_map, List.map_map]
          have : ∀ (T : List (Str × List Str)) (as : List Addr), as.length = T.length → (T.zip as).map ((fun q : Key × V => q.1) ∘ fun z : (Str × List Str) × Addr => ((Sum.inr z.1.1 : Key), V.ref z.2)) = T.map ((Sum.inr : Str → Key) ∘ fun q => q.1) := fun T => by
            induction T with
            | nil => intro as _; simp
            | cons r T ih =>
              intro as h
              cases as with
              | nil => simp at h
              | cons a as =>
                rw [List.zip_cons_cons, List.map_cons, List.map_cons, ih as (by simpa using h)]
                rfl
          exact this T as hlen
        rw [e]
        exact List.Pairwise.map Sum.inr (fun a b h z => h (by injection z)) hT
      have hval : valV (mergeK [] ((T.zip as).map fun z => (Sum.inr z.1.1, V.ref z.2))) (Sum.inr k) = some (.ref a) := by
        rw [mergeK_new _ [] hnd (fun _ _ q hq => by cases hq), List.nil_append]
        have : ∀ (T : List (Str × List Str)) (as : List Addr) (j : Nat) (row : Str × List Str) (a : Addr), (T.map (·.1)).Nodup → T[j]? = some row → as[j]? = some a → valV ((T.zip as).map fun z : (Str × List Str) × Addr => ((Sum.inr z.1.1 : Key), V.ref z.2)) (Sum.inr row.1) = some (.ref a) := fun T => by
          induction T with
          | nil => intro as j row a _ h; simp at h
          | cons r T ih =>
            intro as j row a hn h1 h2
            cases as with
            | nil => simp at h2
            | cons a0 as =>
              rw [List.map_cons, List.nodup_cons] at hn
              rw [List.zip_cons_cons, List.map_cons]
              cases j with
              | zero =>
                simp at h1 h2
                subst h1 h2
                exact valV_pos rfl
              | succ j =>
                simp at h1 h2
                rw [valV_neg]
                · exact ih as j row a hn.2 h1 h2
                · intro z
                  injection z with z
                  exact hn.1 (List.mem_map.mpr ⟨row, List.mem_of_getElem? h1, z.symm⟩)
        rw [← hk]
        exact this T as j row a hT hj ha
      have hpa : a ≠ p := fun z => by
        subst z
        rw [upd_same] at g2
        cases g2
      refine ⟨p, .ref a, rfl, hval ▸ DGet.k (k := Sum.inr k) upd_same, ?_⟩
      have hHa : H a = none := by
        rw [upd_ne hpa] at g2; exact g2
      have hfin : (upd H2 p (.dK (mergeK [] ((T.zip as).map fun z => (Sum.inr z.1.1, V.ref z.2))))) a = some (.lst (row.2.map V.str)) := by
        rw [upd_ne hpa]; exact g1
      have same : Same H (upd H2 p (.dK (mergeK [] ((T.zip as).map fun z => (Sum.inr z.1.1, V.ref z.2))))) := fun c u e => by
        rw [upd_ne (ne_of_none e hp)]
        exact hs2 _ _ (s0 _ _ e)
      refine fin (upd G a (.lst (row.2.map V.str))) _ ⟨same_new (free_of R.sub hHa) _, same, fun s c u e => ?_, fun c u e z => ?_, fun cl c ts z => ?_⟩ (.ref a) (.lst_of upd_same (strs_reps row.2))
      · by_cases hc : c = a
        · subst hc; rw [upd_same] at e; cases e; exact hfin
        · rw [upd_ne hc] at e; exact same _ _ (s _ _ e)
      · rw [upd_ne (ne_of_none e hHa)]; exact z
      · by_cases hc : c = a
        · subst hc; rw [upd_same] at z; cases z
        · rw [upd_ne hc] at z; exact cl c ts z
    · cases hz
  | _ => cases hz
end
end Pk

set_option maxHeartbeats 4000000
/-! tuple * int where the tuple may be empty -/
namespace L2
open PySem PySem.Spec PyProof.Rows
theorem tuple_mulSelf (l : Addr) (items : Array Value) (n : Nat) (dd : Option Addr) (sl : Array (Option Value)) (x : Int) (u : Tok) (c0 : (decide (x < -(2 ^ 63)) || decide (x ≥ 2 ^ 63)) = false) (c1 : (items.isEmpty || x == 1) = true) :
    Meets (Builtin.«tuple.__mul__» ⟨[.ref l, .int x u], []⟩) (fun _ R s => s.heap.get? l = some { cls := .type "tuple", dict := dd, data := .seq items n, slots := sl } ∧
      R (.ok (.ret (Value.ref l))) s) :=
  .of_wp fun prog w A R s h => by
    obtain ⟨hp, g, d, tk, os⟩ := s
    obtain ⟨hl, h⟩ := h
    have f1 := AutoSeq1.idx_int
    wp_walk using wpAny_loadPart' hl
    repeat (first
      | (refine wpAny_ite_false (decide_eq_false (by rw [c0]; exact Bool.false_ne_true)) ?_; wp_walk using wpAny_loadPart' hl)
      | (refine wpAny_ite_true (decide_eq_true c1) ?_; wp_walk using wpAny_loadPart' hl))
    exact ⟨_, rfl, h⟩
end L2
namespace Pk
open PySem PySem.Spec PyProof.Rows L2
def rRepE (K : KP) : R2 := fun x y H Q => ∃ l k, x = .ref l ∧ y = .int k ∧ SqT K H l [] ∧ -1000 ≤ k ∧ k ≤ 1000 ∧ Q (.ref l) H
section
variable {X : Cx}
theorem op_repE : OpR X (binaryOp .Mult) (rRepE X.kp) := by
  intro pins s σ H x y v u Q I rx ry h
  obtain ⟨l, k, rfl, rfl, hT, h1, h2, q1⟩ := h
  cases rx
  obtain ⟨t, rfl⟩ := ry
  obtain ⟨its, r, ⟨⟨cls, dd, data, sl⟩, ho, hc, n, hd⟩, hs⟩ := I.tuple hT
  simp only at hc hd
  subst hc hd
  have hle : its.length = 0 := r.length.symm
  obtain rfl : its = [] := List.eq_nil_of_length_eq_zero hle
  have c0 : (decide (k < -(2 ^ 63)) || decide (k ≥ 2 ^ 63)) = false := by
    rw [decide_eq_false (by omega), decide_eq_false (by omega)] <;> rfl
  exact wpAny_binaryOp_repeat_ref (T := "tuple") (U := "int") (by decide) ⟨_, ho, rfl⟩ (fun s' => typeIs_int s' k t) noFill_tuple_mul F.fills_int_mul F.slot_int_rmul repeat_tuple F.slot_int_index.lookup
    (call_meets F.slot_int_rmul (typeIs_int s k t) F.entry_int_rmul (F.args_int_rmul_2 _ _) (int_rmul_tuple k t l [].toArray n dd sl)
      ⟨ho, rfl, ⟨_, ho, rfl⟩, call_meets F.slot_tuple_mul ⟨_, ho, rfl⟩ F.entry_tuple_mul (F.args_tuple_mul_2 _ _) (tuple_mulSelf l [].toArray n dd sl k t c0 rfl) ⟨ho, ⟨.ref l, H, I, rfl, q1⟩⟩⟩)
def mulE : D → D → Option D
  | .tup [], .int k => if -1000 ≤ k ∧ k ≤ 1000 then some (.tup []) else none
  | _, _ => none
theorem opg_mulE : OpG X (binaryOp .Mult) mulE := by
  refine ⟨_, op_repE, fun x y z e G H vx vy Q s rx ry k => ?_⟩
  unfold mulE at e
  split at e
  · rename_i i
    split at e
    · rename_i hc
      obtain ⟨c2, c3⟩ := hc
      cases e
      obtain ⟨a, vs, rfl, h1, r1⟩ := rx.tup_pl
      obtain rfl := ry.int_inv
      obtain rfl : vs = [] := List.eq_nil_of_length_eq_zero (by have h := r1.length; rw [List.length_nil] at h; exact h)
      exact ⟨a, i, rfl, rfl, sqT_mono s h1.sq, c2, c3, k G H _ (Ext.refl _ _) rx⟩
    · cases e
  · cases e
/-- * with tuples that may be empty -/
def mulZ (x y : D) : Option D := match x with
  | .tup [] => mulE x y
  | .tup (_ :: _) => mulT x y
  | _ => mulD x y
theorem opg_mulZ : OpG X (binaryOp .Mult) mulZ := OpG.or opg_mulX opg_mulE fun x y z h => by
  unfold mulZ at h
  split at h
  · exact .inr h
  · exact .inl h
  · rename_i h1 h2
    left
    unfold mulX
    split
    · rename_i ds
      cases ds with
      | nil => exact absurd rfl h1
      | cons a b => exact absurd rfl (h2 a b)
    · exact h
theorem mulZ_ok {xs : List D} {k : Int} (h1 : -1000 ≤ k) (h2 : k ≤ 1000) (hl : xs.length ≤ 1000) : mulZ (.tup xs) (.int k) = some (.tup (List.replicate k.toNat xs).flatten) := by
  cases xs with
  | nil =>
    show (if _ then some (D.tup []) else none) = _
    rw [if_pos ⟨h1, h2⟩]
    congr 2
    induction k.toNat with
    | zero => rfl
    | succ m ih => rw [List.replicate_succ, List.flatten_cons, ← ih]; rfl
  | cons a b => exact if_pos ⟨by simp, h1, h2, hl⟩
end
end Pk

set_option maxHeartbeats 4000000
/-! set(xs) of texts, each member once: data that stands still -/
namespace Pk
open PySem PySem.Spec PyProof.Rows L2
/-- the members so far, and one more -/
def addS (ks : List Str) (x : Str) : List Str := if x ∈ ks then ks else ks ++ [x]
def dedS (ks ws : List Str) : List Str := ws.foldl addS ks
theorem addS_len (ks : List Str) (x : Str) : (addS ks x).length = if x ∈ ks then ks.length else ks.length + 1 := by
  unfold addS
  split
  · rfl
  · rw [List.length_append]; rfl
theorem addS_nodup {ks : List Str} {x : Str} (h : ks.Nodup) : (addS ks x).Nodup := by
  unfold addS
  split
  · exact h
  · rename_i hx
    exact List.nodup_append.mpr ⟨h, by simp, fun a ha b hb e => hx (by rw [List.mem_singleton.mp hb] at e; rw [← e]; exact ha)⟩
theorem dedS_nodup : ∀ {ws ks : List Str}, ks.Nodup → (dedS ks ws).Nodup
  | [], _, h => h
  | _ :: ws, _, h => dedS_nodup (ws := ws) (addS_nodup h)
theorem addS_mem {ks : List Str} {x y : Str} : y ∈ addS ks x ↔ y ∈ ks ∨ y = x := by
  unfold addS
  split
  · rename_i hx
    exact ⟨.inl, fun h => h.elim id fun e => e ▸ hx⟩
  · simp
theorem dedS_mem {y : Str} : ∀ {ws ks : List Str}, y ∈ dedS ks ws ↔ y ∈ ks ∨ y ∈ ws
  | [], ks => by simp [dedS]
  | x :: ws, ks => by
    show y ∈ dedS (addS ks x) ws ↔ _
    rw [dedS_mem, addS_mem, List.mem_cons, or_assoc]
theorem dedS_len : ∀ (ws ks : List Str), (dedS ks ws).length ≤ ks.length + ws.length
  | [], _ => Nat.le_refl _
  | x :: ws, ks => by
    have h1 := dedS_len ws (addS ks x)
    have h2 := addS_len ks x
    show (dedS (addS ks x) ws).length ≤ _
    rw [List.length_cons]
    split at h2 <;> omega
theorem memK_add (ks : List Str) (x : Str) (k : Key) : (memK ks k || decide (k = .inr x)) = memK (addS ks x) k := by
  cases k with
  | inl i => simp [memK]
  | inr y =>
    show (decide (y ∈ ks) || decide ((Sum.inr y : Key) = .inr x)) = decide (y ∈ addS ks x)
    rw [Bool.eq_iff_iff]
    simp [addS_mem]
section
variable {prog : Program} {w : World} {A : Around} {R : Result → Shared → Prop} {I S : Addr} {fp wr : List Addr} {G : Array GenState → Array GenState → Prop} {n : Nat} {Pi : Nat → Value → Prop} {St : Nat → Shared → Prop}
abbrev OfS (P : Program) (w : World) (h : Heap) (S : Addr) (ks : List Str) : Prop := h.SetOf (mixKind P w) S (memK ks) ks.length
theorem OfS.at_ {h h' : Heap} {ks : List Str} (q : OfS prog w h S ks) (k : ∀ o, h.get? S = some o → h'.get? S = some o) : OfS prog w h' S ks := setOf_at q k
theorem OfS.add {h : Heap} {ks : List Str} {x : Str} (q : h.SetOf (mixKind prog w) S (fun j => memK ks j || decide (j = .inr x)) (if memK ks (.inr x) = true then ks.length else ks.length + 1)) : OfS prog w h S (addS ks x) := by
  have e1 : (fun j => memK ks j || decide (j = Sum.inr x)) = memK (addS ks x) := funext (memK_add ks x)
  have e2 : (if memK ks (.inr x) = true then ks.length else ks.length + 1) = (addS ks x).length := by
    rw [addS_len]
    by_cases hx : x ∈ ks
    · rw [if_pos hx, if_pos (show memK ks (.inr x) = true from decide_eq_true hx)]
    · rw [if_neg hx, if_neg (show ¬ memK ks (.inr x) = true from fun z => hx (of_decide_eq_true z))]
  rw [e1, e2] at q
  exact q
/-- the loop that fills it, from the walked list -/
theorem fillS (W : WalksS prog w A.in1 I fp wr G n Pi St) (away : S ∉ fp) (ws : List Str) (hn : ws.length = n) (few : n < 4000) (val : ∀ i v, Pi i v → ∃ t, v = .str (ws.getD i Str.empty) t) :
    ∀ (k i : Nat) (s : Shared) (ks : List Str), i + k = n → St i s → OfS prog w s.heap S ks → ks.length ≤ i →
      (∀ s', Moved (S :: wr) G s s' → OfS prog w s'.heap S (dedS ks (ws.drop i)) → R (.ok (.ret .none)) s') →
      codeAny (model prog w) A (.builtin "set.update.loop" ⟨[.ref S, .ref I], []⟩) R s
  | 0, i, s, ks, hk, st, q, _, fin => by
    obtain rfl : i = n := by omega
    refine codeAny_builtin F.entry_set_update_loop ?_
    rw [Around.under_plainId F.plain_set_update_loop _]
    show wpAny _ A.in1 (pyNext (.ref I) >>= _) _ _ s
    refine wpAny_bind (W.done s _ _ st fun s' mv => ?_)
    show wpAny _ A.in1 (ret Value.none) _ _ s'
    refine wpAny_pure (fin s' (mv.mono fun b hb => List.mem_cons_of_mem _ hb) ?_)
    rw [List.drop_eq_nil_of_le (by omega)]
    exact q.at_ fun o ho => mv.heap S _ (fun z => away (W.sub _ z)) ho
  | k + 1, i, s, ks, hk, st, q, hle, fin => by
    have hlt : i < n := by omega
    refine codeAny_builtin F.entry_set_update_loop ?_
    rw [Around.under_plainId F.plain_set_update_loop _]
    show wpAny _ A.in1 (pyNext (.ref I) >>= _) _ _ s
    refine wpAny_bind (W.item i s _ _ hlt st fun v s' pv st' mv => ?_)
    obtain ⟨t, rfl⟩ := val i v pv
    have q' : OfS prog w s'.heap S ks := q.at_ fun o ho => mv.heap S _ (fun z => away (W.sub _ z)) ho
    have ed : ws.drop i = ws.getD i Str.empty :: ws.drop (i + 1) := by
      rw [List.getD_eq_getElem?_getD, List.getElem?_eq_getElem (show i < ws.length by omega)]
      exact List.drop_eq_getElem_cons (by omega)
    rw [ed] at fin
    generalize ws.getD i Str.empty = x at fin ⊢
    show wpAny _ A.in1 (holding [Value.str x t] (setAdd S (.str x t)) >>= _) _ _ s'
    refine wpAny_bind (wpAny_holding ?_)
    unfold setAdd
    refine wpAny_holding (wpAny_bind ((mixKind prog w).pyHash (k := .inr x) (kV_is (k := .inr x) ⟨t, rfl⟩) ?_))
    refine wpAny_setAddHashed_of (knd := mixKind prog w) (s := { s' with toks := s'.toks + 1 }) (kV_is (k := .inr x) ⟨t, rfl⟩) rfl q' (by unfold scanBound; omega) fun h' sb q2 => ?_
    have far : ∀ b, b ≠ S → ∀ o, s'.heap.get? b = some o → h'.get? b = some o := fun b hb o e => (sb.2 b hb).trans e
    have hl2 : (addS ks x).length ≤ i + 1 := by
      rw [addS_len]; split <;> omega
    refine wpAny_pure ⟨plainId_quiet F.plain_set_update_loop _, fillS W away ws hn few val k (i + 1) _ (addS ks x) (by omega) (W.frame _ s' _ _ st' (Nat.le_succ _) fun b hb o e => far b (fun z => away (z ▸ hb)) o e) (OfS.add q2) hl2 fun s2 mv2 q3 => ?_⟩
    exact fin s2 (Moved.trans W.gtrans ((mv.mono fun b hb => List.mem_cons_of_mem _ hb).then_heap (Nat.le_succ _) fun b o hb e => far b (fun z => hb (by rw [z]; exact List.mem_cons_self ..)) o e) mv2) q3
end
section
variable {prog : Program} {w : World} {A : Around} {E : Value → Shared → Prop} {s : Shared}
/-- set(xs), xs a list of texts -/
theorem newS {l : Addr} {items : Array Value} {ws : List Str} {Q : Value → Shared → Prop} (hh : A.handled = none) (hl : s.heap.IsList l items) (hi : StrsAre items.toList ws) (few : ws.length < 4000)
    (fin : ∀ (h' : Heap) (tk : Nat), OfS prog w h' s.heap.objs.size (dedS [] ws) → (∀ b o, b < s.heap.objs.size → s.heap.get? b = some o → h'.get? b = some o) → Q (.ref s.heap.objs.size) { s with heap := h', toks := tk }) :
    wpAny (model prog w) A (call (.type "set") [.ref l]) Q E s := by
  have made := PySem.F.called_set.made
  have sub := PySem.F.called_set.sub
  have notT := PySem.F.called_set.notType
  have can := PySem.F.called_set.canCreate
  have chk := PySem.F.typeCall_set_1 (.ref l)
  obtain ⟨c, tl, mro⟩ := PySem.F.called_set.mro
  have sz : ws.length = items.size := by rw [← StrsAre.len_eq hi, Array.length_toList]
  have val : ∀ (i : Nat) (v : Value), items[i]? = some v → ∃ t, v = .str (ws.getD i Str.empty) t := fun i v hv => SS.strs_at hi i v (by rw [Array.getElem?_toList]; exact hv)
  refine wpAny_call (codeAny_of_tree ?_)
  show wpAny _ _ (callAny (.type "set") _) _ _ _
  refine wpAny_pure ⟨Code.quiet_builtin _ (by decide +kernel), codeAny_builtin PySem.F.entry_type_call ?_⟩
  rw [Around.under_plain (weight_type_call_type "set" [.ref l] []) rfl]
  repeat (any_goals (first | assumption | wp_step))
  refine codeAny_mono (code_set_new_1 (.ref l) (E := E) (Q₁ := fun o s₁ => ∃ led : Bool, o = .ref s.heap.objs.size ∧ s₁ = { s with heap := s.heap.push { cls := .type "set", dict := none, data := .set #[] 0 (.fresh 0 0 led) } }) fun led => ⟨led, rfl, rfl⟩) fun r s₁ hr => ?_
  cases r with
  | error e => exact hr
  | ok fl =>
    cases fl with
    | ret o =>
      obtain ⟨led, rfl, rfl⟩ := hr
      have at0 : (s.heap.push { cls := .type "set", dict := none, data := .set #[] 0 (.fresh 0 0 led) }).get? s.heap.objs.size = some { cls := .type "set", dict := none, data := .set #[] 0 (.fresh 0 0 led) } := Heap.get?_push_size _ rfl
      have ty : Shared.TypeIs { s with heap := s.heap.push { cls := .type "set", dict := none, data := .set #[] 0 (.fresh 0 0 led) } } (.ref s.heap.objs.size) "set" := ⟨_, at0, rfl⟩
      have ini := PySem.F.called_set.init.lookup
      have bnd := PySem.F.called_set.init.bind (.ref s.heap.objs.size)
      repeat (any_goals (first | assumption | wp_step))
      refine codeAny_mono (codeAny_call_builtin (R := wants (fun r s₂ => r = .none ∧ ∃ h' tk, s₂ = { s with heap := h', toks := tk } ∧ OfS prog w h' s.heap.objs.size (dedS [] ws) ∧
          (∀ b o, b < s.heap.objs.size → s.heap.get? b = some o → h'.get? b = some o)) E) PySem.F.called_set.init.plain PySem.F.entry_set_init (check_set_init_1 ty ?_)) fun r₂ s₂ hr₂ => ?_
      · obtain ⟨⟨ocls, odict, odata, oslots⟩, hol, hcl, nl, hdl⟩ := hl
        simp only at hcl hdl
        subst hcl hdl
        have lo : l < s.heap.objs.size := Heap.lt_size hol
        have at1 : (s.heap.push { cls := .type "set", dict := none, data := .set #[] 0 (.fresh 0 0 led) }).get? l = some { cls := .type "list", dict := odict, data := .seq items nl, slots := oslots } := Heap.get?_push_of_some _ hol
        have isL : (s.heap.push { cls := .type "set", dict := none, data := .set #[] 0 (.fresh 0 0 led) }).IsList l items := ⟨_, at1, rfl, nl, rfl⟩
        have nS := PySem.F.sub_list_set
        have nF := PySem.F.sub_list_frozenset
        have nD : (Value.type "list" == Value.type "dict") = false := by decide
        have calm3 : A.in1.in1.in1.handled = none := by simp [hh]
        have size1 : (s.heap.push { cls := .type "set", dict := none, data := .set #[] 0 (.fresh 0 0 led) }).objs.size = s.heap.objs.size + 1 := Heap.size_push ..
        unfold Builtin.«set.__init__» noKeywords Builtin.Frozenset.updateFrom
        generalize hPI : pyIter = PI
        wp_walk
        subst hPI
        refine wpAny_pyIter_list isL ?_
        refine wpAny_bind (wpAny_runValue ?_)
        refine fillS ((Walks.list calm3 _ l (by rw [size1]; exact Nat.ne_of_lt (Nat.lt_succ_of_lt lo)) items).toS) (S := s.heap.objs.size) (by rw [size1]; simp only [List.mem_cons, List.mem_singleton, List.not_mem_nil, or_false, not_or]; exact ⟨Nat.ne_of_lt (Nat.lt_succ_self _), Nat.ne_of_gt lo⟩) ws sz (by omega) val items.size 0 _ [] (by omega)
          ⟨⟨_, Heap.get?_push_size _ rfl, rfl, rfl⟩, isL.push _⟩ ?_ (Nat.le_refl _) fun s' mv q => ?_
        · have at2 : ((s.heap.push { cls := .type "set", dict := none, data := .set #[] 0 (.fresh 0 0 led) }).push { cls := .type "list_iterator", data := .fields #[.ref l, .int 0 0] }).get? s.heap.objs.size = some { cls := .type "set", dict := none, data := .set #[] 0 (.fresh 0 0 led) } := Heap.get?_push_of_some _ at0
          exact ⟨_, #[], 0, _, at2, ⟨rfl, rfl, rfl⟩, rfl, (fun e he => by simp at he), (fun k => by cases k <;> simp [memK]), (by decide), (by rfl), rfl⟩
        · obtain ⟨h', g', d', tk', os'⟩ := s'
          obtain rfl : g' = s.gens := mv.gens
          obtain rfl : d' = s.drawn := mv.drawn
          obtain rfl : os' = s.os := mv.os
          show wpAny _ _ _ _ _ _
          refine wpAny_pure ?_
          show wpAny _ _ (ret Value.none) _ _ _
          refine wpAny_pure ⟨rfl, h', tk', rfl, q, fun b o hb e => ?_⟩
          exact mv.heap b o (by rw [size1]; simp only [List.mem_cons, List.mem_singleton, List.not_mem_nil, or_false, not_or]; exact ⟨Nat.ne_of_lt hb, Nat.ne_of_lt (Nat.lt_succ_of_lt hb)⟩) (Heap.get?_push_of_some _ (Heap.get?_push_of_some _ e))
      · cases r₂ with
        | error e => exact hr₂
        | ok fl₂ =>
          cases fl₂ with
          | ret r =>
            obtain ⟨rfl, h', tk, rfl, q, kk⟩ := hr₂
            repeat (any_goals (first | assumption | wp_step))
            exact fin _ _ q kk
          | _ => exact hr₂.elim
    | _ => exact hr.elim
end
end Pk

set_option maxHeartbeats 4000000
/-! set(xs), len, in: readings; sep.join(reversed(xs)) of one's own list -/
namespace Pk
open PySem PySem.Spec PyProof.Rows L2
section
variable {X : Cx} {Θ : List (Addr × Str)}
def rSetS (K : PySem.W.Frag) (P : Program) (w : World) : List V → Hp → VK → Prop := fun xs H Q => ∃ (l : Addr) (ws : List Str), xs = [.ref l] ∧ SqL K H l (ws.map V.str) ∧ ws.length < 4000 ∧ ∀ p, H p = none → Q (.ref p) (upd H p (SetK P w p (memK (dedS [] ws)) (dedS [] ws).length))
theorem cr_setS (hc : X.calm = true) : CallR X (.type "set") (rSetS X.K X.prog X.w) := by
  intro pins s σ H xs us Q I r h
  obtain ⟨l, ws, rfl, hq, few, q⟩ := h
  obtain ⟨u, rfl, ru⟩ := vals1 r
  obtain rfl : u = Value.ref l := ru
  obtain ⟨its, rv, pl, hz⟩ := I.list hq
  refine newS (I.ok.hd hc) pl.isList (by simpa using strsAre_of rv) few fun h' tk hS keep => ?_
  have k2 : ∀ b o, s.heap.get? b = some o → h'.get? b = some o := fun b o e => keep b o (Heap.lt_size e) e
  exact ⟨.ref _, _, I.laid (t' := tk) k2 (Nat.le_refl _) (setK_new hS), rfl, q _ (I.hok.fresh (Nat.le_refl _))⟩
def setL (ds : List D) : Option D := match texts ds with
  | some ws => if ws.length < 4000 then some (.st (dedS [] ws)) else none
  | none => none
def setOfD : List D → Option D
  | [.lst ds] => setL ds
  | [.ro ds] => setL ds
  | _ => none
theorem setL_some {ds : List D} {z : D} (h : setL ds = some z) : ∃ ws, texts ds = some ws ∧ ws.length < 4000 ∧ z = .st (dedS [] ws) := by
  unfold setL at h
  split at h
  · rename_i ws e
    split at h
    · cases h; exact ⟨ws, e, by assumption, rfl⟩
    · cases h
  · cases h
theorem fin_st {G H : Hp} {Q : VK} {ks : List Str} (s : Same G H) (n : ks.Nodup) (k : ∀ G' H' v, Ext G H G' H' → Rep X.kp G' (.st ks) v → Q v H') : ∀ p, H p = none → Q (.ref p) (upd H p (SetK X.prog X.w p (memK ks) ks.length)) := fun p hp =>
  k _ _ _ (Ext.new s hp _) (.st_of (K := X.kp) upd_same n)
theorem cg_set (hc : X.calm = true) : CallG X (.type "set") setOfD := by
  refine ⟨_, cr_setS hc, fun xs z e G H vs Q s rs k => ?_⟩
  unfold setOfD at e
  split at e
  · obtain ⟨ws, h1, h2, rfl⟩ := setL_some e
    obtain ⟨v, rfl, r⟩ := rs.one
    obtain ⟨a, us, rfl, q, rr⟩ := r.lst_inv
    rw [texts_reps h1 rr] at q
    exact ⟨a, ws, rfl, .inl (rd_mono s q), h2, fin_st s (dedS_nodup List.nodup_nil) k⟩
  · obtain ⟨ws, h1, h2, rfl⟩ := setL_some e
    obtain ⟨v, rfl, r⟩ := rs.one
    obtain ⟨a, us, rfl, q, rr⟩ := r.ro_inv
    rw [texts_reps h1 rr] at q
    exact ⟨a, ws, rfl, sqL_mono s q, h2, fin_st s (dedS_nodup List.nodup_nil) k⟩
  · cases e
/-- len of a set -/
def rLenS (P : Program) (w : World) : List V → Hp → VK → Prop := fun xs H Q => ∃ (a : Addr) (S : Key → Bool) (n : Nat), xs = [.ref a] ∧ H a = some (SetK P w a S n) ∧ Q (.int n) H
theorem cr_lenS : CallR X (.builtin "len") (rLenS X.prog X.w) := by
  intro pins s σ H xs us Q I r h
  obtain ⟨a, S, n, rfl, ha, q⟩ := h
  obtain ⟨u, rfl, ru⟩ := vals1 r
  obtain rfl : u = Value.ref a := ru
  obtain ⟨o, es, ep, t, ho, hex, hd, _, _, hb, hf, hn⟩ := setK_get I ha
  refine call_len_set ho hex hd hf ?_ ⟨.int n, H, I.tok _, ⟨_, by rw [hn]⟩, q⟩
  unfold scanBound at hb
  omega
def lenS : List D → Option D
  | [.st ks] => some (.int ks.length)
  | _ => none
theorem cg_lenS : CallG X (.builtin "len") lenS := by
  refine ⟨_, cr_lenS, fun xs z e G H vs Q s rs k => ?_⟩
  unfold lenS at e
  split at e
  · cases e
    obtain ⟨v, rfl, r⟩ := rs.one
    obtain ⟨a, rfl, q, _⟩ := r.st_inv
    exact ⟨a, _, _, rfl, s _ _ q, k G H _ (Ext.refl _ _) .int_of⟩
  · cases e
/-- x in a set, x not in a set -/
def inSt : D → D → Option D
  | .str x, .st ks => some (.bl (decide (x ∈ ks)))
  | _, _ => none
def notInSt : D → D → Option D
  | .str x, .st ks => some (.bl (!decide (x ∈ ks)))
  | _, _ => none
theorem opg_inSt : OpG X (compareOp .In) inSt := by
  refine ⟨_, or_sinK, fun x y z e G H vx vy Q s rx ry k => ?_⟩
  unfold inSt at e
  split at e
  · rename_i x ks
    cases e
    obtain rfl := rx.str_inv
    obtain ⟨a, rfl, q, _⟩ := ry.st_inv
    exact ⟨.inr x, a, _, _, rfl, rfl, s _ _ q, k G H _ (Ext.refl _ _) .bl_of⟩
  · cases e
theorem opg_notInSt : OpG X (compareOp .NotIn) notInSt := by
  refine ⟨_, or_snotinK, fun x y z e G H vx vy Q s rx ry k => ?_⟩
  unfold notInSt at e
  split at e
  · rename_i x ks
    cases e
    obtain rfl := rx.str_inv
    obtain ⟨a, rfl, q, _⟩ := ry.st_inv
    exact ⟨.inr x, a, _, _, rfl, rfl, s _ _ q, k G H _ (Ext.refl _ _) .bl_of⟩
  · cases e
end
end Pk

set_option maxHeartbeats 4000000
/-! sep.join(reversed(xs)) of one's own list -/
namespace Pk
open PySem PySem.Spec PyProof.Rows L2
section
variable {prog : Program} {w : World} {A : Around} {E : Value → Shared → Prop} {s : Shared}
theorem joinRev {x : Str} {t : Tok} {it l : Addr} {items : Array Value} {ys : List Str} {Q : Value → Shared → Prop} (hh : A.handled = none) (hit : s.heap.IsRevIter it l ((items.size : Int) - 1)) (hl : s.heap.IsList l items) (hne : l ≠ it) (hn : items.size ≤ sizeLine)
    (hP : ∀ acc : Array Value, ItemsOf (fun i v => items[items.size - 1 - i]? = some v) acc items.size → StrsAre acc.toList ys) (hok : (ys.map (·.length)).sum + ys.length * x.length ≤ 16777216)
    (hq : ∀ (h' : Heap) (tk : Nat), (∀ b o, b ≠ it → s.heap.get? b = some o → h'.get? b = some o) → ∀ t', Q (.str (Txt.join x ys) t') { s with heap := h', toks := tk }) :
    wpAny (model prog w) A (call (.builtin "str.join") [.str x t, .ref it]) Q E s := by
  have ty := hit.typeIs
  refine wpAny_call (codeAny_call_builtin F.slot_str_join.plain F.entry_str_join (F.slot_str_join.check _ _ _ _ _ _ _ _ (typeIs_str _ _ _) (F.args_str_join_2 _ _) ?_))
  rw [join_tree_other]
  refine wpAny_bind (wpAny_typeOf ty ?_)
  show wpAny _ A.in1 ((pyIter (.ref it)).tryCatch _ >>= fun it => collect it >>= fun items => joinTail x items) _ _ s
  refine wpAny_bind (wpAny_tryCatch (wpAny_pyIter_revIter hit ?_))
  refine wpAny_bind (RT.collect_rev (A := A.in1) hh hit hl hne hn fun h' tk acc keep hacc => ?_)
  obtain ⟨ps, hps, rfl⟩ := strsAre_values (hP acc hacc)
  rw [hps]
  have small := joinOk_of hok
  unfold JoinOk at small
  rw [Bool.not_eq_true'] at small
  have fits := joinFit_length small
  have gives : Gives (joinTail x (strValues ps)) (joinMade x ps) := by
    have g := gives_joinTail x ps small
    clear fits hps hP hok hq
    cases ps with
    | nil => exact g
    | cons p r =>
      cases r with
      | nil => exact g
      | cons q r => exact g
  exact gives prog w A (wants Q E) _ (post_join ps ⟨fits, fun t' k => hq h' k keep t'⟩)
end
end Pk

set_option maxHeartbeats 4000000
/-! sep.join(reversed(xs)) of one's own list: the reading -/
namespace Pk
open PySem PySem.Spec PyProof.Rows L2
section
variable {X : Cx} {Θ : List (Addr × Str)} {i : Nat}
def tJoinRev (to : TE) (i : Nat) : TE := fun σ H Q => to σ H fun x H1 => ∃ (a : Str) (l : Addr) (xs : List V) (ys : List Str), x = .str a ∧ σ[i]? = some (some (.ref l)) ∧ H1 l = some (.lst xs) ∧ xs.reverse = ys.map V.str ∧
  (ys.map (·.length)).sum + ys.length * a.length ≤ 16777216 ∧ Q (.str (Txt.join a ys)) H1
theorem pe_joinRev {o e : Expr} {to : TE} {apos pos p pos2 : Pos} (hc : X.calm = true) (ho : PE X o to) (hg : Gl X "reversed") (hm : X.mg "reversed" = none) (he : PE X e (tVar i))
    (hs1 : starEach [.Call (.Name "reversed" p) [e] [] pos2] X.env = [(false, eval (.Call (.Name "reversed" p) [e] [] pos2) X.env)] := by rfl)
    (hs : starEach [e] X.env = (false, eval e X.env) :: starEach [] X.env := by rfl)
    (hbase : attributeBase o "join" X.env (eval o X.env) = eval o X.env := by rfl) (hline : (apos.endLine == pos.line) = true := by rfl) :
    PE X (.Call (.Attribute o "join" apos) [.Call (.Name "reversed" p) [e] [] pos2] [] pos) (tJoinRev to i) := by
  refine ⟨fun pins s σ H Q I h => ?_⟩
  refine PySem.Call_method1 hbase hs1 hline (thn (ho.run pins s σ H _ I h) fun v s1 ⟨x, H1, I1, r1, q1⟩ => ?_)
  obtain ⟨a, l, xs, ys, rfl, hv, hl, hx, hz, q⟩ := q1
  obtain ⟨t, rfl⟩ := r1
  refine ⟨"str", _, F.plainAttrs_str, F.slot_str_join, F.type_str_join, typeIs_str _ _ _, (fun _ e => nomatch e), Calls.callWith_builtin rfl (Calls.evalArgs_plain (Calls.spliced_cons ?_))⟩
  refine Call_ (ld_blt I1 hg hm PyProof.Rows.boot_reversed (PyProof.Rows.callWith_type1 (args_cons (thn (he.run pins s1 σ H1 (fun v H2 => v = .ref l ∧ H2 = H1) I1 ⟨.ref l, hv, rfl, rfl⟩) fun u s2 ⟨v2, H2, I2, r2, q2⟩ => args_nil ?_) hs) hs rfl))
  obtain ⟨rfl, rfl⟩ := q2
  obtain rfl : u = Value.ref l := r2
  obtain ⟨its, rv, pl, big⟩ := I2.list (SqL.of hl)
  refine call_reversed_list pl.isList (Calls.spliced_nil ?_)
  have k0 : ∀ b o, s2.heap.get? b = some o → (s2.heap.push (revObj l ((its.toArray.size : Int) - 1))).get? b = some o := fun b o e => Heap.get?_push_of_some _ e
  have I3 := I2.kept (t' := s2.toks) k0
  obtain ⟨f0, f1, f2, f3, f4, f5⟩ := I2.fpOk (H' := H2) (b := s2.heap.objs.size) (Nat.le_refl _) (I2.hok.fresh (Nat.le_refl _))
  have isl := pl.isList
  obtain ⟨ol, hol, _⟩ := id isl
  refine joinRev (s := { s2 with heap := s2.heap.push (revObj l ((its.toArray.size : Int) - 1)) }) (I2.ok.hd hc) ⟨_, Heap.get?_push_size _ rfl, rfl, rfl⟩ (isl.push _) (Nat.ne_of_lt (Heap.lt_size hol)) (by rw [List.size_toArray, ← rv.length]; exact big)
    (fun acc hacc => strsAre_of (hx ▸ RT.vals_rev rv hacc)) hz fun h' tk keep t' => ?_
  exact ⟨.str _, H2, I3.turned (t' := tk) (fun b o hb e => keep b o hb e) f0 f1 f3 f4 f5, ⟨t', rfl⟩, q⟩
theorem se_joinRevO {o e : Expr} {mo : M D} {apos pos p pos2 : Pos} (ho : SE Θ X o mo) (hc : X.calm = true) (hg : Gl X "reversed") (hm : X.mg "reversed" = none) (he : PE X e (tVar i))
    (hs1 : starEach [.Call (.Name "reversed" p) [e] [] pos2] X.env = [(false, eval (.Call (.Name "reversed" p) [e] [] pos2) X.env)] := by rfl)
    (hs : starEach [e] X.env = (false, eval e X.env) :: starEach [] X.env := by rfl)
    (hbase : attributeBase o "join" X.env (eval o X.env) = eval o X.env := by rfl) (hline : (apos.endLine == pos.line) = true := by rfl) :
    SE Θ X (.Call (.Attribute o "join" apos) [.Call (.Name "reversed" p) [e] [] pos2] [] pos) (bd mo fun a => bd (of (asS a)) fun z => bd (own i) fun ds => of (joinL z ds.reverse)) := by
  refine pe_imp (pe_joinRev hc ho hg hm he hs1 hs hbase hline) fun σ H Q q => ?_
  obtain ⟨G, r0, R, c⟩ := q
  refine ⟨G, r0, R, (cn_bd c).mono fun a G1 H1 ⟨r1, R1, s1, c1⟩ va ra => ?_⟩
  obtain ⟨y, r2, e2, q2⟩ := cn_bd c1
  obtain ⟨e3, rfl⟩ := of_some e2
  obtain ⟨r3, R3, s3, c3⟩ := q2 G1 H1 R1 (Fr.refl _ _ _ _)
  cases a with
  | str w =>
    obtain rfl : w = y := Option.some.inj e3
    obtain rfl := ra.str_inv
    obtain ⟨p0, ds0, hi0, c4⟩ := cn_own c3
    obtain ⟨l, vs, h1, h2, h3, h4⟩ := R3.own i p0 ds0 hi0
    obtain ⟨z, hz, k⟩ := cn_of R3 c4
    obtain ⟨ys, g1, g2, rfl⟩ := joinL_some hz
    exact ⟨w, l, vs, ys, rfl, h1, h2, texts_reps g1 h4.rev, g2, k _ _ (Ext.refl _ _) _ .str_of⟩
  | _ => cases e3
end
end Pk

/-! names of the builtins -/
namespace Pk
open PySem PySem.Spec PyProof.Rows L2
theorem bo_set : bootBuiltins "set" = some (.type "set") := by decide +kernel
end Pk

set_option maxHeartbeats 4000000
/-! x in xs, x == xs, xs one's own list, which stays one's own -/
namespace Pk
open PySem PySem.Spec PyProof.Rows L2
def BoolG (g : D → D → Option D) : Prop := ∀ x y z, g x y = some z → ∃ b, z = .bl b
theorem bool_eq : BoolG eqD := fun x y z h => by
  unfold eqD at h
  split at h
  · cases h; exact ⟨_, rfl⟩
  · cases h
theorem bool_ne : BoolG neD := fun x y z h => by
  unfold neD at h
  split at h
  · cases h; exact ⟨_, rfl⟩
  · cases h
theorem bool_in : BoolG inD2 := fun x y z h => by
  unfold inD2 at h
  split at h
  · unfold dinD at h
    (repeat' split at h) <;> first | (cases h; done) | (cases h; exact ⟨_, rfl⟩)
  · unfold inA at h
    (repeat' split at h) <;> first | (cases h; done) | (cases h; exact ⟨_, rfl⟩)
theorem bool_notIn : BoolG notInD2 := fun x y z h => by
  unfold notInD2 at h
  split at h
  · unfold dnotinD at h
    (repeat' split at h) <;> first | (cases h; done) | (cases h; exact ⟨_, rfl⟩)
  · unfold notInA at h
    (repeat' split at h) <;> first | (cases h; done) | (cases h; exact ⟨_, rfl⟩)
section
variable {X : Cx} {Θ : List (Addr × Str)} {a b : Expr} {pos : Pos} {ma : M D} {i : Nat}
theorem op_readO {r : R2} {g : D → D → Option D} (hg : ∀ x y z, g x y = some z → ∀ (G H : Hp) (vx vy : V) (Q : VK), Same G H → Rep X.kp G x vx → Rep X.kp G y vy →
    (∀ G' H' v, Ext G H G' H' → Rep X.kp G' z v → Q v H') → r vx vy H Q) (hb : BoolG g) {σ : L2.St} {H : Hp} {Q : VK} (q : rdE Θ X.kp (bd ma fun x => bd (own i) fun ds => of (g x (.lst ds))) σ H Q) : tOp r (rdE Θ X.kp ma) (tVar i) σ H Q := by
  obtain ⟨G, r0, R, c⟩ := q
  refine ⟨G, r0, R, (cn_bd c).mono fun x G1 H1 ⟨r1, R1, s1, c1⟩ vx rx => ?_⟩
  obtain ⟨p, ds, hi, c2⟩ := cn_own c1
  obtain ⟨l, vs, h1, h2, h3, h4⟩ := R1.own i p ds hi
  obtain ⟨z, hz, k⟩ := cn_of R1 c2
  obtain ⟨b, rfl⟩ := hb _ _ _ hz
  have s2 : Same G1 (upd G1 l (.lst vs)) := same_new h3 _
  have s3 : Same (upd G1 l (.lst vs)) H1 := fun c u e => by
    by_cases z : c = l
    · subst z; rw [upd_same] at e; cases e; exact h2
    · rw [upd_ne z] at e; exact R1.sub _ _ e
  refine ⟨.ref l, h1, hg x _ _ hz _ H1 vx (.ref l) Q s3 (Rep.mono s2 _ _ rx) (.lst_of upd_same (Reps.mono s2 _ _ h4)) fun G' H' v ex rv => k G1 H' ⟨Same.refl _, ex.same, fun z => z.trans ex.same, fun _ _ _ z => z, fun z => z⟩ v ?_⟩
  rw [rv.bl_inv]
  exact .bl_of
theorem se_cmpO {op : CmpOp} {g : D → D → Option D} (ho : OpG X (compareOp op) g) (hb : BoolG g) (ha : SE Θ X a ma) (hv : PE X b (tVar i)) (hm : behindInMarks op b = false) : SE Θ X (.Compare a [op] [b] pos) (bd ma fun x => bd (own i) fun ds => of (g x (.lst ds))) := by
  obtain ⟨r, o, hg⟩ := ho
  exact pe_imp (pe_cmpR o ha hv hm) fun σ H Q q => op_readO hg hb q
theorem st_cmpO {op : CmpOp} {g : D → D → Option D} (ho : OpG X (compareOp op) g) (hb : BoolG g) (ha : SE Θ X a ma) (hv : PE X b (tVar i)) (hm : behindInMarks op b = false) : STs Θ X (.Compare a [op] [b] pos) (bd (bd ma fun x => bd (own i) fun ds => of (g x (.lst ds))) fun x => of (asB x)) := by
  obtain ⟨r, o, hg⟩ := ho
  refine pt_imp (pt_cmpR o ha hv hm) fun σ H Q q => ?_
  exact op_readO hg hb (tb_read q)
end
end Pk

namespace Row
open PySem PySem.Spec PyProof.Rows L2 Pk
def top (i : Nat) : Stmt := PySem.Challenge.pw_patchkept_k44_pick_text.main.body.getD i (.Pass ⟨0, 0, 0, 0⟩)
abbrev s_p_string_of : Stmt := top 2
abbrev s_p_pick_text : Stmt := top 3
abbrev s_l_between : Stmt := top 5
abbrev s_l_is_string : Stmt := top 6
abbrev s_l_cell : Stmt := top 7
abbrev s_l_source : Stmt := top 8
abbrev s_l_draw : Stmt := top 9
abbrev s_l_char : Stmt := top 10
abbrev s_law0 : Stmt := top 11
inductive Fn where
  | p_string_of | p_pick_text | l_between | l_is_string | l_cell | l_source | l_draw | l_char | law0
def b_p_string_of (c : Fn → M D) (f : Fn → M (List D)) : M Fl :=
  seqM (bd (rt []) fun ds => if ds.length ≤ sizeLine then nxt (setO 2 ds) else fun _ => none)
    (seqM (bd (ld 1) fun d => nxt (setD 3 d))
    (seqM (bd (bd (bd (ld 0) fun x => bd (rt []) fun xs => rt (x :: xs)) fun ds => of (rng1 ds)) fun ds => forM (setD 4) (seqM (bd (own 2) fun _ => bd (bd (rt (.str "abcdefghijklmnopqrstuvwxyzABCDEFGHIJKLMNOPQRSTUVWXYZ0123456789 !\"#$&'()*+,-./:;<=>?\x40[\\]^_`{|}~")) fun x => bd (bd (ld 3) fun x => bd (bd (bd (rt (.str "abcdefghijklmnopqrstuvwxyzABCDEFGHIJKLMNOPQRSTUVWXYZ0123456789 !\"#$&'()*+,-./:;<=>?\x40[\\]^_`{|}~")) fun x => bd (rt []) fun xs => rt (x :: xs)) fun xs => of (lenD xs)) fun y => of (modD x y)) fun y => of (ixD x y)) fun d => nxt (appM 2 d))
    (bd (bd (ld 3) fun x => bd (bd (bd (rt (.str "abcdefghijklmnopqrstuvwxyzABCDEFGHIJKLMNOPQRSTUVWXYZ0123456789 !\"#$&'()*+,-./:;<=>?\x40[\\]^_`{|}~")) fun x => bd (rt []) fun xs => rt (x :: xs)) fun xs => of (lenD xs)) fun y => of (fdivD x y)) fun d => nxt (setD 3 d))) ds)
    (retM (ifM (bd (bd (ld 3) fun x => bd (rt (.int 0)) fun y => of (eqD x y)) fun x => of (asB x)) (bd (rt (.str "")) fun a => bd (of (asS a)) fun z => bd (own 2) fun ds => of (joinL z ds.reverse)) (rt .non)))))
def b_p_pick_text (c : Fn → M D) (f : Fn → M (List D)) : M Fl :=
  seqM (bd (bd (bd (ld 2) fun x => bd (rt []) fun xs => rt (x :: xs)) fun xs => of (setOfD xs)) fun d => nxt (setD 3 d))
    (seqM (bd (ld 0) fun d => nxt (setD 4 d))
    (seqM (whileM (orM (bd (bd (ld 1) fun x => bd (rt .non) fun y => of (isD x y)) fun x => of (asB x)) (bd (bd (ld 4) fun x => bd (ld 1) fun y => of (leD x y)) fun x => of (asB x))) (seqM (bd (bd (bd (bd (bd (bd (ld 3) fun x => bd (rt []) fun xs => rt (x :: xs)) fun xs => of (lenS xs)) fun x => bd (rt (.int 1)) fun y => of (addD x y)) fun x => bd (rt []) fun xs => rt (x :: xs)) fun ds => of (rng1 ds)) fun ds => forM (setD 5) (seqM (bd (bd (bd (ld 4) fun x => bd (bd (ld 5) fun x => bd (rt []) fun xs => rt (.v x :: xs)) fun xs => rt (.v x :: xs)) fun as => callM 2 (c .p_string_of) as) fun d => nxt (setD 6 d))
    (seqM (ifM (bd (bd (ld 6) fun x => bd (rt .non) fun y => of (isD x y)) fun x => of (asB x)) (fun r => some (.bk, r)) (nilM))
    (ifM (bd (bd (ld 6) fun x => bd (ld 3) fun y => of (notInSt x y)) fun x => of (asB x)) (retM (ld 6)) (nilM)))) ds)
    (augM 4 (rt (.int 1)) (onI (fun _ _ => true) fun i j => .int (i + j)))) 1000000)
    (retM (rt .non))))
def b_l_between (c : Fn → M D) (f : Fn → M (List D)) : M Fl :=
  retM (andV (orV (bd (ld 1) fun x => bd (rt .non) fun y => of (isD x y)) (bd (ld 1) fun x => bd (ld 0) fun y => of (leD x y))) (orV (bd (ld 2) fun x => bd (rt .non) fun y => of (isD x y)) (bd (ld 0) fun x => bd (ld 2) fun y => of (leD x y))))
def b_l_is_string (c : Fn → M D) (f : Fn → M (List D)) : M Fl :=
  seqM (ifM (bd (bd (bd (ld 0) fun x => of (isiD "str" x)) fun x => of (truD x)) fun x => rt (!x)) (retM (rt (.bl false))) (nilM))
    (retM (bd (bd (lcM (bd (ld 0) fun d => of (seqOf d)) (setD 1) (rt true) (andV (bd (rt (.str " ")) fun x => bd (ld 1) fun y => of (leD x y)) (andV (bd (ld 1) fun x => bd (rt (.str "~")) fun y => of (leD x y)) (bd (bd (bd (ld 1) fun x => bd (rt []) fun xs => rt (x :: xs)) fun xs => of (ordC xs)) fun x => bd (rt (.int 37)) fun y => of (neD x y)))) [1]) fun x => bd (rt []) fun xs => rt (x :: xs)) fun xs => of (allD xs)))
def b_l_cell (c : Fn → M D) (f : Fn → M (List D)) : M Fl :=
  seqM (ifM (bd (bd (ld 1) fun x => bd (bd (bd (ld 0) fun x => bd (rt []) fun xs => rt (x :: xs)) fun xs => of (lenD xs)) fun y => of (ltD x y)) fun x => of (asB x)) (retM (bd (ld 0) fun x => bd (ld 1) fun y => of (ixD x y))) (nilM))
    (retM (rt (.int 0)))
def b_l_source (c : Fn → M D) (f : Fn → M (List D)) : M Fl :=
  bd (bd (ld 0) fun x => bd (bd (bd (bd (bd (ld 0) fun x => bd (bd (rt (.int 10)) fun x => bd (rt (.int 18)) fun y => of (powD x y)) fun y => of (geD x y)) fun x => bd (rt []) fun xs => rt (x :: xs)) fun xs => of (intD xs)) fun x => bd (bd (rt (.int 0)) fun x => bd (rt []) fun xs => rt (x :: xs)) fun xs => rt (x :: xs)) fun xs => rt (x :: xs)) fun ds r => if ds.length ≤ sizeLine then some (.rf ds, r) else none
def b_l_draw (c : Fn → M D) (f : Fn → M (List D)) : M Fl :=
  seqM (ifM (bd (bd (bd (own 0) fun _ => bd (rt (.int 1)) fun y => bd (own 0) fun ds => of (ixD (.lst ds) y)) fun x => bd (rt (.int 1)) fun y => of (eqD x y)) fun x => of (asB x)) (seqM (bd (bd (bd (bd (bd (own 0) fun _ => bd (rt (.int 0)) fun y => bd (own 0) fun ds => of (ixD (.lst ds) y)) fun x => bd (rt []) fun xs => rt (x :: xs)) fun xs => of (intD xs)) fun x => bd (ld 1) fun y => of (modD x y)) fun d => nxt (setD 2 d))
    (seqM (bd (bd (bd (own 0) fun _ => bd (rt (.int 0)) fun y => bd (own 0) fun ds => of (ixD (.lst ds) y)) fun x => bd (ld 1) fun y => of (fdivD x y)) fun d => bd (own 0) fun _ => bd (rt (.int 0)) fun k => nxt (stM 0 k d))
    (retM (ld 2)))) (nilM))
    (seqM (bd (bd (bd (own 0) fun _ => bd (rt (.int 2)) fun y => bd (own 0) fun ds => of (ixD (.lst ds) y)) fun x => bd (rt (.int 1)) fun y => of (addD x y)) fun d => bd (own 0) fun _ => bd (rt (.int 2)) fun k => nxt (stM 0 k d))
    (seqM (bd (bd (bd (bd (bd (bd (bd (own 0) fun _ => bd (rt (.int 0)) fun y => bd (own 0) fun ds => of (ixD (.lst ds) y)) fun x => bd (rt (.int 48271)) fun y => of (mulD x y)) fun x => bd (bd (bd (own 0) fun _ => bd (rt (.int 2)) fun y => bd (own 0) fun ds => of (ixD (.lst ds) y)) fun x => bd (rt (.int 69621)) fun y => of (mulD x y)) fun y => of (addD x y)) fun x => bd (rt []) fun xs => rt (x :: xs)) fun xs => of (intD xs)) fun x => bd (rt (.int 2147483647)) fun y => of (modD x y)) fun d => nxt (setD 3 d))
    (seqM (bd (bd (bd (bd (bd (bd (bd (ld 3) fun x => bd (ld 3) fun y => of (mulD x y)) fun x => bd (bd (bd (own 0) fun _ => bd (rt (.int 2)) fun y => bd (own 0) fun ds => of (ixD (.lst ds) y)) fun x => bd (rt (.int 7919)) fun y => of (mulD x y)) fun y => of (addD x y)) fun x => bd (bd (ld 3) fun x => bd (rt (.int 1024)) fun y => of (fdivD x y)) fun y => of (addD x y)) fun x => bd (rt []) fun xs => rt (x :: xs)) fun xs => of (intD xs)) fun x => bd (rt (.int 2147483629)) fun y => of (modD x y)) fun d => nxt (setD 3 d))
    (retM (bd (bd (bd (bd (ld 3) fun x => bd (rt (.int 32)) fun y => of (fdivD x y)) fun x => bd (rt []) fun xs => rt (x :: xs)) fun xs => of (intD xs)) fun x => bd (ld 1) fun y => of (modD x y))))))
def b_l_char (c : Fn → M D) (f : Fn → M (List D)) : M Fl :=
  seqM (bd (rt (.str " !\"#$&'()*+,-./0123456789:;<=>?@ABCDEFGHIJKLMNOPQRSTUVWXYZ[\\]^_`")) fun d => nxt (setD 1 d))
    (seqM (bd (bd (ld 1) fun x => bd (rt (.str "abcdefghijklmnopqrstuvwxyz{|}~")) fun y => of (addD x y)) fun d => nxt (setD 1 d))
    (retM (bd (ld 1) fun x => bd (bd (bd (own 0) fun _ => bd (bd (rt (.int 94)) fun x => bd (rt []) fun xs => rt (.v x :: xs)) fun xs => rt (.s 0 :: xs)) fun as => callM 2 (c .l_draw) as) fun y => of (ixD x y))))
def b_law0 (c : Fn → M D) (f : Fn → M (List D)) : M Fl :=
  seqM (bd (bd (bd (bd (ld 0) fun x => bd (bd (rt (.int 0)) fun x => bd (rt []) fun xs => rt (.v x :: xs)) fun xs => rt (.v x :: xs)) fun as => callM 2 (c .l_cell) as) fun x => bd (rt (.int 4)) fun y => of (modD x y)) fun d => nxt (setD 1 d))
    (seqM (bd (bd (bd (rt (.int 0)) fun x => bd (bd (bd (bd (ld 1) fun x => bd (bd (bd (bd (ld 0) fun x => bd (bd (rt (.int 1)) fun x => bd (rt []) fun xs => rt (.v x :: xs)) fun xs => rt (.v x :: xs)) fun as => callM 2 (c .l_cell) as) fun x => bd (rt (.int 5)) fun y => of (modD x y)) fun y => of (addD x y)) fun x => bd (rt (.int 1)) fun y => of (subD x y)) fun x => bd (rt []) fun xs => rt (x :: xs)) fun xs => rt (x :: xs)) fun xs => of (maxD xs)) fun d => nxt (setD 2 d))
    (seqM (ifM (bd (bd (bd (bd (bd (bd (ld 0) fun x => bd (bd (rt (.int 0)) fun x => bd (rt []) fun xs => rt (.v x :: xs)) fun xs => rt (.v x :: xs)) fun as => callM 2 (c .l_cell) as) fun x => bd (rt (.int 4)) fun y => of (fdivD x y)) fun x => bd (rt (.int 4)) fun y => of (modD x y)) fun x => bd (rt (.int 1)) fun y => of (eqD x y)) fun x => of (asB x)) (bd (bd (bd (bd (bd (ld 0) fun x => bd (bd (rt (.int 0)) fun x => bd (rt []) fun xs => rt (.v x :: xs)) fun xs => rt (.v x :: xs)) fun as => callM 2 (c .l_cell) as) fun x => bd (rt (.int 16)) fun y => of (fdivD x y)) fun x => bd (rt (.int 61)) fun y => of (modD x y)) fun d => nxt (setD 1 d)) (nilM))
    (seqM (ifM (bd (bd (bd (bd (bd (bd (ld 0) fun x => bd (bd (rt (.int 1)) fun x => bd (rt []) fun xs => rt (.v x :: xs)) fun xs => rt (.v x :: xs)) fun as => callM 2 (c .l_cell) as) fun x => bd (rt (.int 5)) fun y => of (fdivD x y)) fun x => bd (rt (.int 4)) fun y => of (modD x y)) fun x => bd (rt (.int 1)) fun y => of (eqD x y)) fun x => of (asB x)) (bd (bd (bd (bd (bd (ld 0) fun x => bd (bd (rt (.int 1)) fun x => bd (rt []) fun xs => rt (.v x :: xs)) fun xs => rt (.v x :: xs)) fun as => callM 2 (c .l_cell) as) fun x => bd (rt (.int 20)) fun y => of (fdivD x y)) fun x => bd (rt (.int 61)) fun y => of (modD x y)) fun d => nxt (setD 2 d)) (nilM))
    (seqM (ifM (bd (bd (bd (bd (bd (bd (ld 0) fun x => bd (bd (rt (.int 1)) fun x => bd (rt []) fun xs => rt (.v x :: xs)) fun xs => rt (.v x :: xs)) fun as => callM 2 (c .l_cell) as) fun x => bd (rt (.int 5)) fun y => of (fdivD x y)) fun x => bd (rt (.int 4)) fun y => of (modD x y)) fun x => bd (rt (.int 2)) fun y => of (eqD x y)) fun x => of (asB x)) (bd (rt .non) fun d => nxt (setD 2 d)) (nilM))
    (seqM (bd (rt []) fun ds => if ds.length ≤ sizeLine then nxt (setO 3 ds) else fun _ => none)
    (seqM (bd (bd (bd (ld 0) fun x => bd (bd (rt (.int 3)) fun x => of (asI x)) fun l => bd (bd (rt (.int 63)) fun x => of (asI x)) fun h => of (slD x l h)) fun d => of (seqOf d)) fun ds => forM (setD 4) (seqM (bd (bd (bd (ld 4) fun x => bd (rt []) fun xs => rt (.v x :: xs)) fun as => callN 1 (f .l_source) as) fun ds => nxt (setO 5 ds))
    (bd (own 3) fun _ => bd (bd (rt (.str "")) fun a => bd (of (asS a)) fun z => bd (lcM (bd (bd (bd (bd (own 5) fun _ => bd (bd (rt (.int 4)) fun x => bd (rt []) fun xs => rt (.v x :: xs)) fun xs => rt (.s 5 :: xs)) fun as => callM 2 (c .l_draw) as) fun x => bd (rt []) fun xs => rt (x :: xs)) fun ds => of (rng1 ds)) (setD 6) (rt true) (bd (bd (own 5) fun _ => bd (rt []) fun xs => rt (.s 5 :: xs)) fun as => callM 1 (c .l_char) as) [6]) fun x => of (joinD (.str z) x)) fun d => nxt (appM 3 d))) ds)
    (seqM (ifM (bd (bd (bd (bd (bd (ld 0) fun x => bd (bd (rt (.int 2)) fun x => bd (rt []) fun xs => rt (.v x :: xs)) fun xs => rt (.v x :: xs)) fun as => callM 2 (c .l_cell) as) fun x => bd (rt (.int 3)) fun y => of (modD x y)) fun x => bd (rt (.int 1)) fun y => of (eqD x y)) fun x => of (asB x)) (seqM (bd (bd (bd (bd (bd (ld 0) fun x => bd (bd (rt (.int 2)) fun x => bd (rt []) fun xs => rt (.v x :: xs)) fun xs => rt (.v x :: xs)) fun as => callM 2 (c .l_cell) as) fun x => bd (rt (.int 3)) fun y => of (fdivD x y)) fun x => bd (rt (.int 24)) fun y => of (modD x y)) fun d => nxt (setD 7 d))
    (seqM (bd (rt (.str " !#&'()*+,-./0123456789:;<=>?@ABCDEFGHIJKLMNOPQRSTUVWXYZ[]^_abcdefghijklmnopqrstuvwxyz{|}~")) fun d => nxt (setD 8 d))
    (bd (bd (bd (bd (rt (.str "")) fun x => bd (rt []) fun xs => rt (x :: xs)) fun ds => of (mkL ds)) fun x => bd (lcM (bd (bd (ld 8) fun x => bd (bd (ld 7) fun x => of (asI x)) fun l => bd (bd (bd (ld 7) fun x => bd (rt (.int 70)) fun y => of (addD x y)) fun x => of (asI x)) fun h => of (slD x l h)) fun d => of (seqOf d)) (setD 9) (rt true) (ld 9) [9]) fun y => of (catF x y)) fun ds => nxt (setO 3 ds)))) (nilM))
    (seqM (bd (bd (own 3) fun ds => rt (.lst ds)) fun d => nxt (setD 10 d))
    (seqM (bd (bd (bd (ld 1) fun x => bd (bd (ld 2) fun x => bd (bd (ld 10) fun x => bd (rt []) fun xs => rt (.v x :: xs)) fun xs => rt (.v x :: xs)) fun xs => rt (.v x :: xs)) fun as => callM 3 (c .p_pick_text) as) fun d => nxt (setD 11 d))
    (seqM (ifM (bd (bd (ld 10) fun x => bd (own 3) fun ds => of (neD x (.lst ds))) fun x => of (asB x)) (retM (rt (.bl false))) (nilM))
    (seqM (ifM (andM (bd (bd (ld 2) fun x => bd (rt .non) fun y => of (isNotD x y)) fun x => of (asB x)) (orM (bd (bd (ld 1) fun x => bd (ld 2) fun y => of (gtD x y)) fun x => of (asB x)) (andM (bd (bd (ld 2) fun x => bd (rt (.int 0)) fun y => of (eqD x y)) fun x => of (asB x)) (bd (bd (rt (.str "")) fun x => bd (own 3) fun ds => of (inD2 x (.lst ds))) fun x => of (asB x))))) (retM (bd (ld 11) fun x => bd (rt .non) fun y => of (isD x y))) (nilM))
    (retM (andV (bd (bd (ld 11) fun x => bd (rt []) fun xs => rt (.v x :: xs)) fun as => callM 1 (c .l_is_string) as) (andV (bd (bd (bd (bd (ld 11) fun x => bd (rt []) fun xs => rt (x :: xs)) fun xs => of (lenD xs)) fun x => bd (bd (ld 1) fun x => bd (bd (ld 2) fun x => bd (rt []) fun xs => rt (.v x :: xs)) fun xs => rt (.v x :: xs)) fun xs => rt (.v x :: xs)) fun as => callM 3 (c .l_between) as) (bd (ld 11) fun x => bd (own 3) fun ds => of (notInD2 x (.lst ds)))))))))))))))))
noncomputable def bodies (c : Fn → M D) (f : Fn → M (List D)) : Fn → M D
  | .p_string_of => bodyF 2 3 (b_p_string_of c f)
  | .p_pick_text => bodyF 3 4 (b_p_pick_text c f)
  | .l_between => bodyF 3 0 (b_l_between c f)
  | .l_is_string => bodyF 1 1 (b_l_is_string c f)
  | .l_cell => bodyF 2 0 (b_l_cell c f)
  | .l_draw => bodyF 2 2 (b_l_draw c f)
  | .l_char => bodyF 1 1 (b_l_char c f)
  | .law0 => bodyF 1 11 (b_law0 c f)
  | _ => fun _ => none
def bodiesN (c : Fn → M D) (f : Fn → M (List D)) : Fn → M (List D)
  | .l_source => bodyN 1 0 (b_l_source c f)
  | _ => fun _ => none
noncomputable def sems : Nat → (Fn → M D) × (Fn → M (List D))
  | 0 => (fun _ _ => none, fun _ _ => none)
  | n + 1 => (bodies (sems n).1 (sems n).2, bodiesN (sems n).1 (sems n).2)
noncomputable abbrev sem (n : Nat) : Fn → M D := (sems n).1
noncomputable abbrev semN (n : Nat) : Fn → M (List D) := (sems n).2
theorem sem_succ (n : Nat) (f : Fn) : sem (n + 1) f = bodies (sem n) (semN n) f := rfl
theorem semN_succ (n : Nat) (f : Fn) : semN (n + 1) f = bodiesN (sem n) (semN n) f := rfl
structure FF (K : PySem.W.Frag) (mg : Str → Option Value) (x : Str) (st : Stmt) (ps : List Str) where
  f : Addr
  fd : FuncData
  F : Fun K x x st f fd
  b : Binds K fd ps []
  m : mg x = some (.ref f)
abbrev fnNm : Fn → Str
  | .p_string_of => "string_of"
  | .p_pick_text => "pick_text"
  | .l_between => "_law_between"
  | .l_is_string => "_law_is_string"
  | .l_cell => "_law_cell"
  | .l_source => "_law_source"
  | .l_draw => "_law_draw"
  | .l_char => "_law_char"
  | .law0 => "law"
abbrev fnSt : Fn → Stmt
  | .p_string_of => s_p_string_of
  | .p_pick_text => s_p_pick_text
  | .l_between => s_l_between
  | .l_is_string => s_l_is_string
  | .l_cell => s_l_cell
  | .l_source => s_l_source
  | .l_draw => s_l_draw
  | .l_char => s_l_char
  | .law0 => s_law0
abbrev fnPs : Fn → List Str
  | .p_string_of => ["length", "number"]
  | .p_pick_text => ["low", "high", "excluded"]
  | .l_between => ["count", "low", "high"]
  | .l_is_string => ["string"]
  | .l_cell => ["script", "k"]
  | .l_source => ["cell"]
  | .l_draw => ["source", "many"]
  | .l_char => ["source"]
  | .law0 => ["script"]
structure Facts (K : PySem.W.Frag) (mg : Str → Option Value) (w : World) where
  ff : ∀ i : Fn, FF K mg (fnNm i) (fnSt i) (fnPs i)
  n_all : mg "all" = none
  n_int : mg "int" = none
  n_isinstance : mg "isinstance" = none
  n_len : mg "len" = none
  n_list : mg "list" = none
  n_max : mg "max" = none
  n_ord : mg "ord" = none
  n_range : mg "range" = none
  n_reversed : mg "reversed" = none
  n_set : mg "set" = none
  n_str : mg "str" = none
  gv_CHARACTERS : GV K mg "CHARACTERS" (.str "abcdefghijklmnopqrstuvwxyzABCDEFGHIJKLMNOPQRSTUVWXYZ0123456789 !\"#$&'()*+,-./:;<=>?\x40[\\]^_`{|}~")
section
variable {P : Program} {w : World} {K : PySem.W.Frag} {mg : Str → Option Value} {base : Heap}
theorem sc_p_string_of : FnScope ["length", "number", "characters", "rest", "_"] ["length", "number"] (defScope s_p_string_of) := ⟨rfl, rfl, rfl, by decide +kernel, rfl, by decide +kernel, by decide +kernel⟩
theorem ok_p_string_of (T : Facts K mg w) (n : Nat) :
    FnOk P w K mg base CX0 (2 * (n + 1)) (T.ff .p_string_of).f (T.ff .p_string_of).fd ["length", "number"] (spF [] ⟨K, P, w⟩ 2 (sem (n + 1) .p_string_of)) := by
  refine fn_ok (k := 2 * n + 1) (n := 2) (nl := 3) (show Fun K "string_of" "string_of" s_p_string_of (T.ff .p_string_of).f (T.ff .p_string_of).fd from (T.ff .p_string_of).F) sc_p_string_of rfl rfl (m := b_p_string_of (sem n) (semN n)) (fun cdv A outer s H E hr1 => ?_)
  have hr := hr1.mono (Nat.le_succ _)
  delta b_p_string_of
  exact sb_cons (ss_setO (i := 2) sc_p_string_of.nd rfl (by first | exact Or.inl rfl | exact Or.inr rfl) (sa_nil))
    (sb_cons (ss_set (i := 3) sc_p_string_of.nd rfl (by first | exact Or.inl rfl | exact Or.inr rfl) (se_ld (pv 1)))
    (sb_cons (ss_for PassesOwn.never rfl (si_range1 rfl T.n_range (sa_cons (se_ld (pv 0)) (sa_nil))) (sg_name (pg_name (i := 4) sc_p_string_of.nd rfl (by first | exact Or.inl rfl | exact Or.inr rfl))) (sb_cons (ss_app (pv 2) (se_ix (se_glb rfl T.gv_CHARACTERS) (se_bin opg_mod (se_ld (pv 3)) (se_callB cg_len rfl T.n_len bo_len (sa_cons (se_glb rfl T.gv_CHARACTERS) (sa_nil)))) (fun _ _ => rfl)))
    (sb_one (ss_set (i := 3) sc_p_string_of.nd rfl (by first | exact Or.inl rfl | exact Or.inr rfl) (se_bin opg_fdiv (se_ld (pv 3)) (se_callB cg_len rfl T.n_len bo_len (sa_cons (se_glb rfl T.gv_CHARACTERS) (sa_nil))))))))
    (sb_one (ss_ret (se_if (st_cmp (opg_eq (hu200 hr)) (se_ld (pv 3)) (se_int) (nomark _)) (se_joinRevO (se_str) rfl rfl T.n_reversed (pv 2)) (se_non))))))
theorem sc_p_pick_text : FnScope ["low", "high", "excluded", "barred", "length", "number", "text"] ["low", "high", "excluded"] (defScope s_p_pick_text) := ⟨rfl, rfl, rfl, by decide +kernel, rfl, by decide +kernel, by decide +kernel⟩
theorem ok_p_pick_text (T : Facts K mg w) (n : Nat)
    (G_p_string_of : FnOk P w K mg base CX0 (2 * n) (T.ff .p_string_of).f (T.ff .p_string_of).fd ["length", "number"] (spF [] ⟨K, P, w⟩ 2 (sem (n) .p_string_of))) :
    FnOk P w K mg base CX0 (2 * (n + 1)) (T.ff .p_pick_text).f (T.ff .p_pick_text).fd ["low", "high", "excluded"] (spF [] ⟨K, P, w⟩ 3 (sem (n + 1) .p_pick_text)) := by
  refine fn_ok (k := 2 * n + 1) (n := 3) (nl := 4) (show Fun K "pick_text" "pick_text" s_p_pick_text (T.ff .p_pick_text).f (T.ff .p_pick_text).fd from (T.ff .p_pick_text).F) sc_p_pick_text rfl rfl (m := b_p_pick_text (sem n) (semN n)) (fun cdv A outer s H E hr1 => ?_)
  have hr := hr1.mono (Nat.le_succ _)
  delta b_p_pick_text
  exact sb_cons (ss_set (i := 3) sc_p_pick_text.nd rfl (by first | exact Or.inl rfl | exact Or.inr rfl) (se_callTy (cg_set rfl) rfl T.n_set bo_set (sa_cons (se_ld (pv 2)) (sa_nil))))
    (sb_cons (ss_set (i := 4) sc_p_pick_text.nd rfl (by first | exact Or.inl rfl | exact Or.inr rfl) (se_ld (pv 0)))
    (sb_cons (ss_while 1000000 PassesOwn.never (PW.pt (sw_or (st_cmp opg_is (se_ld (pv 1)) (se_non) (nomark _)) (sw_or1 (st_cmp opg_le (se_ld (pv 4)) (se_ld (pv 1)) (nomark _))))) (sb_cons (ss_for PassesOwn.never rfl (si_range1 rfl T.n_range (sa_cons (se_bin opg_add (se_callB cg_lenS rfl T.n_len bo_len (sa_cons (se_ld (pv 3)) (sa_nil))) (se_int)) (sa_nil))) (sg_name (pg_name (i := 5) sc_p_pick_text.nd rfl (by first | exact Or.inl rfl | exact Or.inr rfl))) (sb_cons (ss_set (i := 6) sc_p_pick_text.nd rfl (by first | exact Or.inl rfl | exact Or.inr rfl) (se_call (CX := CX0) G_p_string_of hr rfl (T.ff .p_string_of).m (T.ff .p_string_of).F.kp (T.ff .p_string_of).b (sr_v (se_ld (pv 4)) (sr_v (se_ld (pv 5)) (sr_nil)))))
    (sb_cons (ss_if (st_cmp opg_is (se_ld (pv 6)) (se_non) (nomark _)) (sb_one (ss_break)) (sb_nil))
    (sb_one (ss_if (st_cmp opg_notInSt (se_ld (pv 6)) (se_ld (pv 3)) rfl) (sb_one (ss_ret (se_ld (pv 6)))) (sb_nil))))))
    (sb_one (ss_aug (i := 4) sc_p_pick_text.nd rfl (by first | exact Or.inl rfl | exact Or.inr rfl) (se_int) opg_iadd))))
    (sb_one (ss_ret (se_non)))))
theorem sc_l_between : FnScope ["count", "low", "high"] ["count", "low", "high"] (defScope s_l_between) := ⟨rfl, rfl, rfl, by decide +kernel, rfl, by decide +kernel, by decide +kernel⟩
theorem ok_l_between (T : Facts K mg w) (n : Nat) :
    FnOk P w K mg base CX0 (2 * (n + 1)) (T.ff .l_between).f (T.ff .l_between).fd ["count", "low", "high"] (spF [] ⟨K, P, w⟩ 3 (sem (n + 1) .l_between)) := by
  refine fn_ok (k := 2 * n + 1) (n := 3) (nl := 0) (show Fun K "_law_between" "_law_between" s_l_between (T.ff .l_between).f (T.ff .l_between).fd from (T.ff .l_between).F) sc_l_between rfl rfl (m := b_l_between (sem n) (semN n)) (fun cdv A outer s H E hr1 => ?_)
  have hr := hr1.mono (Nat.le_succ _)
  delta b_l_between
  exact sb_one (ss_ret (se_and (se_or (se_cmp opg_is (se_ld (pv 1)) (se_non) (nomark _)) (se_one (se_cmp opg_le (se_ld (pv 1)) (se_ld (pv 0)) (nomark _)))) (se_one (se_or (se_cmp opg_is (se_ld (pv 2)) (se_non) (nomark _)) (se_one (se_cmp opg_le (se_ld (pv 0)) (se_ld (pv 2)) (nomark _)))))))
theorem sc_l_is_string : FnScope ["string", "char"] ["string"] (defScope s_l_is_string) := ⟨rfl, rfl, rfl, by decide +kernel, rfl, by decide +kernel, by decide +kernel⟩
theorem ok_l_is_string (T : Facts K mg w) (n : Nat) :
    FnOk P w K mg base CX0 (2 * (n + 1)) (T.ff .l_is_string).f (T.ff .l_is_string).fd ["string"] (spF [] ⟨K, P, w⟩ 1 (sem (n + 1) .l_is_string)) := by
  refine fn_ok (k := 2 * n + 1) (n := 1) (nl := 1) (show Fun K "_law_is_string" "_law_is_string" s_l_is_string (T.ff .l_is_string).f (T.ff .l_is_string).fd from (T.ff .l_is_string).F) sc_l_is_string rfl rfl (m := b_l_is_string (sem n) (semN n)) (fun cdv A outer s H E hr1 => ?_)
  have hr := hr1.mono (Nat.le_succ _)
  delta b_l_is_string
  exact sb_cons (ss_if (st_not (st_tru (se_isi (T := "str") (se_ld (pv 0)) rfl T.n_isinstance rfl T.n_str bo_str))) (sb_one (ss_ret (se_bl))) (sb_nil))
    (sb_one (ss_ret (se_callB (cg_all rfl) rfl T.n_all bo_all (sa_cons (se_lc (own := [("char", 1)]) rfl sc_l_is_string.nd (si_val (se_ld (pv 0))) (blkOk_by (own := [("char", 1)]) (N := ["string", "char"]) (sc := defScope s_l_is_string) (by decide +kernel)) (fun _ _ _ _ _ => sgw_name (pg_name (i := 1) sc_l_is_string.nd rfl (by first | exact Or.inl rfl | exact Or.inr rfl)) (by decide)) (fun _ _ _ _ _ => sq_nil) (fun _ _ _ _ _ => se_and (se_cmp opg_le (se_str) (se_ld (pv 1)) (nomark _)) (se_and (se_cmp opg_le (se_ld (pv 1)) (se_str) (nomark _)) (se_one (se_cmp (opg_ne (hu200 hr)) (se_callB cg_ord rfl T.n_ord bo_ord (sa_cons (se_ld (pv 1)) (sa_nil))) (se_int) (nomark _)))))) (sa_nil)))))
theorem sc_l_cell : FnScope ["script", "k"] ["script", "k"] (defScope s_l_cell) := ⟨rfl, rfl, rfl, by decide +kernel, rfl, by decide +kernel, by decide +kernel⟩
theorem ok_l_cell (T : Facts K mg w) (n : Nat) :
    FnOk P w K mg base CX0 (2 * (n + 1)) (T.ff .l_cell).f (T.ff .l_cell).fd ["script", "k"] (spF [] ⟨K, P, w⟩ 2 (sem (n + 1) .l_cell)) := by
  refine fn_ok (k := 2 * n + 1) (n := 2) (nl := 0) (show Fun K "_law_cell" "_law_cell" s_l_cell (T.ff .l_cell).f (T.ff .l_cell).fd from (T.ff .l_cell).F) sc_l_cell rfl rfl (m := b_l_cell (sem n) (semN n)) (fun cdv A outer s H E hr1 => ?_)
  have hr := hr1.mono (Nat.le_succ _)
  delta b_l_cell
  exact sb_cons (ss_if (st_cmp opg_lt (se_ld (pv 1)) (se_callB cg_len rfl T.n_len bo_len (sa_cons (se_ld (pv 0)) (sa_nil))) (nomark _)) (sb_one (ss_ret (se_ix (se_ld (pv 0)) (se_ld (pv 1)) (fun _ _ => rfl)))) (sb_nil))
    (sb_one (ss_ret (se_int)))
theorem sc_l_source : FnScope ["cell"] ["cell"] (defScope s_l_source) := ⟨rfl, rfl, rfl, by decide +kernel, rfl, by decide +kernel, by decide +kernel⟩
theorem ok_l_source (T : Facts K mg w) (n : Nat) :
    FnOk P w K mg base CX0 (2 * (n + 1)) (T.ff .l_source).f (T.ff .l_source).fd ["cell"] (spN [] ⟨K, P, w⟩ 1 (semN (n + 1) .l_source)) := by
  refine fn_okN (k := 2 * n + 1) (n := 1) (nl := 0) (show Fun K "_law_source" "_law_source" s_l_source (T.ff .l_source).f (T.ff .l_source).fd from (T.ff .l_source).F) sc_l_source rfl rfl (m := b_l_source (sem n) (semN n)) (fun cdv A outer s H E hr1 => ?_)
  have hr := hr1.mono (Nat.le_succ _)
  delta b_l_source
  exact sb_one (ss_retL (sa_cons (se_ld (pv 0)) (sa_cons (se_callTy cg_int rfl T.n_int bo_int (sa_cons (se_cmp opg_ge (se_ld (pv 0)) (se_bin opg_pow (se_int) (se_int)) (nomark _)) (sa_nil))) (sa_cons (se_int) (sa_nil)))))
theorem sc_l_draw : FnScope ["source", "many", "digit", "mixed"] ["source", "many"] (defScope s_l_draw) := ⟨rfl, rfl, rfl, by decide +kernel, rfl, by decide +kernel, by decide +kernel⟩
theorem ok_l_draw (T : Facts K mg w) (n : Nat) :
    FnOk P w K mg base CX0 (2 * (n + 1)) (T.ff .l_draw).f (T.ff .l_draw).fd ["source", "many"] (spF [] ⟨K, P, w⟩ 2 (sem (n + 1) .l_draw)) := by
  refine fn_ok (k := 2 * n + 1) (n := 2) (nl := 2) (show Fun K "_law_draw" "_law_draw" s_l_draw (T.ff .l_draw).f (T.ff .l_draw).fd from (T.ff .l_draw).F) sc_l_draw rfl rfl (m := b_l_draw (sem n) (semN n)) (fun cdv A outer s H E hr1 => ?_)
  have hr := hr1.mono (Nat.le_succ _)
  delta b_l_draw
  exact sb_cons (ss_if (st_cmp (opg_eq (hu200 hr)) (se_ixO (pv 0) (se_int) (fun _ _ => rfl)) (se_int) (nomark _)) (sb_cons (ss_set (i := 2) sc_l_draw.nd rfl (by first | exact Or.inl rfl | exact Or.inr rfl) (se_bin opg_mod (se_callTy cg_int rfl T.n_int bo_int (sa_cons (se_ixO (pv 0) (se_int) (fun _ _ => rfl)) (sa_nil))) (se_ld (pv 1))))
    (sb_cons (ss_st (pv 0) (se_int) (se_bin opg_fdiv (se_ixO (pv 0) (se_int) (fun _ _ => rfl)) (se_ld (pv 1))))
    (sb_one (ss_ret (se_ld (pv 2)))))) (sb_nil))
    (sb_cons (ss_st (pv 0) (se_int) (se_bin opg_add (se_ixO (pv 0) (se_int) (fun _ _ => rfl)) (se_int)))
    (sb_cons (ss_set (i := 3) sc_l_draw.nd rfl (by first | exact Or.inl rfl | exact Or.inr rfl) (se_bin opg_mod (se_callTy cg_int rfl T.n_int bo_int (sa_cons (se_bin opg_add (se_bin opg_mul (se_ixO (pv 0) (se_int) (fun _ _ => rfl)) (se_int)) (se_bin opg_mul (se_ixO (pv 0) (se_int) (fun _ _ => rfl)) (se_int))) (sa_nil))) (se_int)))
    (sb_cons (ss_set (i := 3) sc_l_draw.nd rfl (by first | exact Or.inl rfl | exact Or.inr rfl) (se_bin opg_mod (se_callTy cg_int rfl T.n_int bo_int (sa_cons (se_bin opg_add (se_bin opg_add (se_bin opg_mul (se_ld (pv 3)) (se_ld (pv 3))) (se_bin opg_mul (se_ixO (pv 0) (se_int) (fun _ _ => rfl)) (se_int))) (se_bin opg_fdiv (se_ld (pv 3)) (se_int))) (sa_nil))) (se_int)))
    (sb_one (ss_ret (se_bin opg_mod (se_callTy cg_int rfl T.n_int bo_int (sa_cons (se_bin opg_fdiv (se_ld (pv 3)) (se_int)) (sa_nil))) (se_ld (pv 1))))))))
theorem sc_l_char : FnScope ["source", "chars"] ["source"] (defScope s_l_char) := ⟨rfl, rfl, rfl, by decide +kernel, rfl, by decide +kernel, by decide +kernel⟩
theorem ok_l_char (T : Facts K mg w) (n : Nat)
    (G_l_draw : FnOk P w K mg base CX0 (2 * n) (T.ff .l_draw).f (T.ff .l_draw).fd ["source", "many"] (spF [] ⟨K, P, w⟩ 2 (sem (n) .l_draw))) :
    FnOk P w K mg base CX0 (2 * (n + 1)) (T.ff .l_char).f (T.ff .l_char).fd ["source"] (spF [] ⟨K, P, w⟩ 1 (sem (n + 1) .l_char)) := by
  refine fn_ok (k := 2 * n + 1) (n := 1) (nl := 1) (show Fun K "_law_char" "_law_char" s_l_char (T.ff .l_char).f (T.ff .l_char).fd from (T.ff .l_char).F) sc_l_char rfl rfl (m := b_l_char (sem n) (semN n)) (fun cdv A outer s H E hr1 => ?_)
  have hr := hr1.mono (Nat.le_succ _)
  delta b_l_char
  exact sb_cons (ss_set (i := 1) sc_l_char.nd rfl (by first | exact Or.inl rfl | exact Or.inr rfl) (se_str))
    (sb_cons (ss_set (i := 1) sc_l_char.nd rfl (by first | exact Or.inl rfl | exact Or.inr rfl) (se_bin opg_add (se_ld (pv 1)) (se_str)))
    (sb_one (ss_ret (se_ix (se_ld (pv 1)) (se_call (CX := CX0) G_l_draw hr rfl (T.ff .l_draw).m (T.ff .l_draw).F.kp (T.ff .l_draw).b (sr_s (pv 0) (sr_v (se_int) (sr_nil)))) (fun _ _ => rfl)))))
theorem sc_law0 : FnScope ["script", "low", "high", "excluded", "cell", "source", "j", "first", "chars", "char", "passed", "actual"] ["script"] (defScope s_law0) := ⟨rfl, rfl, rfl, by decide +kernel, rfl, by decide +kernel, by decide +kernel⟩
theorem ok_law0 (T : Facts K mg w) (n : Nat)
    (G_p_pick_text : FnOk P w K mg base CX0 (2 * n) (T.ff .p_pick_text).f (T.ff .p_pick_text).fd ["low", "high", "excluded"] (spF [] ⟨K, P, w⟩ 3 (sem (n) .p_pick_text)))
    (G_l_between : FnOk P w K mg base CX0 (2 * n) (T.ff .l_between).f (T.ff .l_between).fd ["count", "low", "high"] (spF [] ⟨K, P, w⟩ 3 (sem (n) .l_between)))
    (G_l_is_string : FnOk P w K mg base CX0 (2 * n) (T.ff .l_is_string).f (T.ff .l_is_string).fd ["string"] (spF [] ⟨K, P, w⟩ 1 (sem (n) .l_is_string)))
    (G_l_cell : FnOk P w K mg base CX0 (2 * n) (T.ff .l_cell).f (T.ff .l_cell).fd ["script", "k"] (spF [] ⟨K, P, w⟩ 2 (sem (n) .l_cell)))
    (G_l_source : FnOk P w K mg base CX0 (2 * n) (T.ff .l_source).f (T.ff .l_source).fd ["cell"] (spN [] ⟨K, P, w⟩ 1 (semN (n) .l_source)))
    (G_l_draw : FnOk P w K mg base CX0 (2 * n) (T.ff .l_draw).f (T.ff .l_draw).fd ["source", "many"] (spF [] ⟨K, P, w⟩ 2 (sem (n) .l_draw)))
    (G_l_char : FnOk P w K mg base CX0 (2 * n) (T.ff .l_char).f (T.ff .l_char).fd ["source"] (spF [] ⟨K, P, w⟩ 1 (sem (n) .l_char))) :
    FnOk P w K mg base CX0 (2 * (n + 1)) (T.ff .law0).f (T.ff .law0).fd ["script"] (spF [] ⟨K, P, w⟩ 1 (sem (n + 1) .law0)) := by
  refine fn_ok (k := 2 * n + 1) (n := 1) (nl := 11) (show Fun K "law" "law" s_law0 (T.ff .law0).f (T.ff .law0).fd from (T.ff .law0).F) sc_law0 rfl rfl (m := b_law0 (sem n) (semN n)) (fun cdv A outer s H E hr1 => ?_)
  have hr := hr1.mono (Nat.le_succ _)
  delta b_law0
  exact sb_cons (ss_set (i := 1) sc_law0.nd rfl (by first | exact Or.inl rfl | exact Or.inr rfl) (se_bin opg_mod (se_call (CX := CX0) G_l_cell hr rfl (T.ff .l_cell).m (T.ff .l_cell).F.kp (T.ff .l_cell).b (sr_v (se_ld (pv 0)) (sr_v (se_int) (sr_nil)))) (se_int)))
    (sb_cons (ss_set (i := 2) sc_law0.nd rfl (by first | exact Or.inl rfl | exact Or.inr rfl) (se_callB (cg_max rfl) rfl T.n_max bo_max (sa_cons (se_int) (sa_cons (se_bin opg_sub (se_bin opg_add (se_ld (pv 1)) (se_bin opg_mod (se_call (CX := CX0) G_l_cell hr rfl (T.ff .l_cell).m (T.ff .l_cell).F.kp (T.ff .l_cell).b (sr_v (se_ld (pv 0)) (sr_v (se_int) (sr_nil)))) (se_int))) (se_int)) (sa_nil)))))
    (sb_cons (ss_if (st_cmp (opg_eq (hu200 hr)) (se_bin opg_mod (se_bin opg_fdiv (se_call (CX := CX0) G_l_cell hr rfl (T.ff .l_cell).m (T.ff .l_cell).F.kp (T.ff .l_cell).b (sr_v (se_ld (pv 0)) (sr_v (se_int) (sr_nil)))) (se_int)) (se_int)) (se_int) (nomark _)) (sb_one (ss_set (i := 1) sc_law0.nd rfl (by first | exact Or.inl rfl | exact Or.inr rfl) (se_bin opg_mod (se_bin opg_fdiv (se_call (CX := CX0) G_l_cell hr rfl (T.ff .l_cell).m (T.ff .l_cell).F.kp (T.ff .l_cell).b (sr_v (se_ld (pv 0)) (sr_v (se_int) (sr_nil)))) (se_int)) (se_int)))) (sb_nil))
    (sb_cons (ss_if (st_cmp (opg_eq (hu200 hr)) (se_bin opg_mod (se_bin opg_fdiv (se_call (CX := CX0) G_l_cell hr rfl (T.ff .l_cell).m (T.ff .l_cell).F.kp (T.ff .l_cell).b (sr_v (se_ld (pv 0)) (sr_v (se_int) (sr_nil)))) (se_int)) (se_int)) (se_int) (nomark _)) (sb_one (ss_set (i := 2) sc_law0.nd rfl (by first | exact Or.inl rfl | exact Or.inr rfl) (se_bin opg_mod (se_bin opg_fdiv (se_call (CX := CX0) G_l_cell hr rfl (T.ff .l_cell).m (T.ff .l_cell).F.kp (T.ff .l_cell).b (sr_v (se_ld (pv 0)) (sr_v (se_int) (sr_nil)))) (se_int)) (se_int)))) (sb_nil))
    (sb_cons (ss_if (st_cmp (opg_eq (hu200 hr)) (se_bin opg_mod (se_bin opg_fdiv (se_call (CX := CX0) G_l_cell hr rfl (T.ff .l_cell).m (T.ff .l_cell).F.kp (T.ff .l_cell).b (sr_v (se_ld (pv 0)) (sr_v (se_int) (sr_nil)))) (se_int)) (se_int)) (se_int) (nomark _)) (sb_one (ss_set (i := 2) sc_law0.nd rfl (by first | exact Or.inl rfl | exact Or.inr rfl) (se_non))) (sb_nil))
    (sb_cons (ss_setO (i := 3) sc_law0.nd rfl (by first | exact Or.inl rfl | exact Or.inr rfl) (sa_nil))
    (sb_cons (ss_for PassesOwn.never rfl (si_val (se_slice (se_ld (pv 0)) (so_some (se_int)) (so_some (se_int)))) (sg_name (pg_name (i := 4) sc_law0.nd rfl (by first | exact Or.inl rfl | exact Or.inr rfl))) (sb_cons (ss_setOF (i := 5) sc_law0.nd rfl (by first | exact Or.inl rfl | exact Or.inr rfl) (sf_call G_l_source hr rfl (T.ff .l_source).m (T.ff .l_source).F.kp (T.ff .l_source).b (sr_v (se_ld (pv 4)) (sr_nil))))
    (sb_one (ss_app (pv 3) (se_join (se_str) (se_lc (own := [("j", 6)]) rfl sc_law0.nd (si_range1 rfl T.n_range (sa_cons (se_call (CX := CX0) G_l_draw hr rfl (T.ff .l_draw).m (T.ff .l_draw).F.kp (T.ff .l_draw).b (sr_s (pv 5) (sr_v (se_int) (sr_nil)))) (sa_nil))) (blkOk_by (own := [("j", 6)]) (N := ["script", "low", "high", "excluded", "cell", "source", "j", "first", "chars", "char", "passed", "actual"]) (sc := defScope s_law0) (by decide +kernel)) (fun _ _ _ _ _ => sgw_name (pg_name (i := 6) sc_law0.nd rfl (by first | exact Or.inl rfl | exact Or.inr rfl)) (by decide)) (fun _ _ _ _ _ => sq_nil) (fun _ _ _ _ _ => se_call (CX := CX0) G_l_char hr rfl (T.ff .l_char).m (T.ff .l_char).F.kp (T.ff .l_char).b (sr_s (pv 5) (sr_nil)))))))))
    (sb_cons (ss_if (st_cmp (opg_eq (hu200 hr)) (se_bin opg_mod (se_call (CX := CX0) G_l_cell hr rfl (T.ff .l_cell).m (T.ff .l_cell).F.kp (T.ff .l_cell).b (sr_v (se_ld (pv 0)) (sr_v (se_int) (sr_nil)))) (se_int)) (se_int) (nomark _)) (sb_cons (ss_set (i := 7) sc_law0.nd rfl (by first | exact Or.inl rfl | exact Or.inr rfl) (se_bin opg_mod (se_bin opg_fdiv (se_call (CX := CX0) G_l_cell hr rfl (T.ff .l_cell).m (T.ff .l_cell).F.kp (T.ff .l_cell).b (sr_v (se_ld (pv 0)) (sr_v (se_int) (sr_nil)))) (se_int)) (se_int)))
    (sb_cons (ss_set (i := 8) sc_law0.nd rfl (by first | exact Or.inl rfl | exact Or.inr rfl) (se_str))
    (sb_one (ss_setOF (i := 3) sc_law0.nd rfl (by first | exact Or.inl rfl | exact Or.inr rfl) (sf_cat (se_lst (sa_cons (se_str) (sa_nil))) (se_lc (own := [("char", 9)]) rfl sc_law0.nd (si_val (se_slice (se_ld (pv 8)) (so_some (se_ld (pv 7))) (so_some (se_bin opg_add (se_ld (pv 7)) (se_int))))) (blkOk_by (own := [("char", 9)]) (N := ["script", "low", "high", "excluded", "cell", "source", "j", "first", "chars", "char", "passed", "actual"]) (sc := defScope s_law0) (by decide +kernel)) (fun _ _ _ _ _ => sgw_name (pg_name (i := 9) sc_law0.nd rfl (by first | exact Or.inl rfl | exact Or.inr rfl)) (by decide)) (fun _ _ _ _ _ => sq_nil) (fun _ _ _ _ _ => se_ld (pv 9)))))))) (sb_nil))
    (sb_cons (ss_set (i := 10) sc_law0.nd rfl (by first | exact Or.inl rfl | exact Or.inr rfl) (se_listO (pv 3) rfl T.n_list bo_list))
    (sb_cons (ss_set (i := 11) sc_law0.nd rfl (by first | exact Or.inl rfl | exact Or.inr rfl) (se_call (CX := CX0) G_p_pick_text hr rfl (T.ff .p_pick_text).m (T.ff .p_pick_text).F.kp (T.ff .p_pick_text).b (sr_v (se_ld (pv 1)) (sr_v (se_ld (pv 2)) (sr_v (se_ld (pv 10)) (sr_nil))))))
    (sb_cons (ss_if (st_cmpO (opg_ne (hu200 hr)) bool_ne (se_ld (pv 10)) (pv 3) (nomark _)) (sb_one (ss_ret (se_bl))) (sb_nil))
    (sb_cons (ss_if (PW.pt (sw_and (st_cmp opg_isNot (se_ld (pv 2)) (se_non) (nomark _)) (sw_and1 (PW.pt (sw_or (st_cmp opg_gt (se_ld (pv 1)) (se_ld (pv 2)) (nomark _)) (sw_or1 (PW.pt (sw_and (st_cmp (opg_eq (hu200 hr)) (se_ld (pv 2)) (se_int) (nomark _)) (sw_and1 (st_cmpO (opg_in2 (hu200 hr)) bool_in (se_str) (pv 3) rfl)))))))))) (sb_one (ss_ret (se_cmp opg_is (se_ld (pv 11)) (se_non) (nomark _)))) (sb_nil))
    (sb_one (ss_ret (se_and (se_call (CX := CX0) G_l_is_string hr rfl (T.ff .l_is_string).m (T.ff .l_is_string).F.kp (T.ff .l_is_string).b (sr_v (se_ld (pv 11)) (sr_nil))) (se_and (se_call (CX := CX0) G_l_between hr rfl (T.ff .l_between).m (T.ff .l_between).F.kp (T.ff .l_between).b (sr_v (se_callB cg_len rfl T.n_len bo_len (sa_cons (se_ld (pv 11)) (sa_nil))) (sr_v (se_ld (pv 1)) (sr_v (se_ld (pv 2)) (sr_nil))))) (se_one (se_cmpO (opg_notIn2 (hu200 hr)) bool_notIn (se_ld (pv 11)) (pv 3) rfl)))))))))))))))))
def Ok (P : Program) (w : World) (K : PySem.W.Frag) (mg : Str → Option Value) (base : Heap) (T : Facts K mg w) (n : Nat) : Fn → Prop
  | .p_string_of => FnOk P w K mg base CX0 (2 * (n)) (T.ff .p_string_of).f (T.ff .p_string_of).fd ["length", "number"] (spF [] ⟨K, P, w⟩ 2 (sem (n) .p_string_of))
  | .p_pick_text => FnOk P w K mg base CX0 (2 * (n)) (T.ff .p_pick_text).f (T.ff .p_pick_text).fd ["low", "high", "excluded"] (spF [] ⟨K, P, w⟩ 3 (sem (n) .p_pick_text))
  | .l_between => FnOk P w K mg base CX0 (2 * (n)) (T.ff .l_between).f (T.ff .l_between).fd ["count", "low", "high"] (spF [] ⟨K, P, w⟩ 3 (sem (n) .l_between))
  | .l_is_string => FnOk P w K mg base CX0 (2 * (n)) (T.ff .l_is_string).f (T.ff .l_is_string).fd ["string"] (spF [] ⟨K, P, w⟩ 1 (sem (n) .l_is_string))
  | .l_cell => FnOk P w K mg base CX0 (2 * (n)) (T.ff .l_cell).f (T.ff .l_cell).fd ["script", "k"] (spF [] ⟨K, P, w⟩ 2 (sem (n) .l_cell))
  | .l_source => FnOk P w K mg base CX0 (2 * (n)) (T.ff .l_source).f (T.ff .l_source).fd ["cell"] (spN [] ⟨K, P, w⟩ 1 (semN (n) .l_source))
  | .l_draw => FnOk P w K mg base CX0 (2 * (n)) (T.ff .l_draw).f (T.ff .l_draw).fd ["source", "many"] (spF [] ⟨K, P, w⟩ 2 (sem (n) .l_draw))
  | .l_char => FnOk P w K mg base CX0 (2 * (n)) (T.ff .l_char).f (T.ff .l_char).fd ["source"] (spF [] ⟨K, P, w⟩ 1 (sem (n) .l_char))
  | .law0 => FnOk P w K mg base CX0 (2 * (n)) (T.ff .law0).f (T.ff .law0).fd ["script"] (spF [] ⟨K, P, w⟩ 1 (sem (n) .law0))
theorem all_ok (T : Facts K mg w) : ∀ n i, Ok P w K mg base T n i
  | 0, i => by
    cases i
    case p_string_of => exact fn_none
    case p_pick_text => exact fn_none
    case l_between => exact fn_none
    case l_is_string => exact fn_none
    case l_cell => exact fn_none
    case l_source => exact fn_noneN
    case l_draw => exact fn_none
    case l_char => exact fn_none
    case law0 => exact fn_none
  | n + 1, i => by
    have h := all_ok T n
    cases i
    case p_string_of => exact ok_p_string_of T n
    case p_pick_text => exact ok_p_pick_text T n (h .p_string_of)
    case l_between => exact ok_l_between T n
    case l_is_string => exact ok_l_is_string T n
    case l_cell => exact ok_l_cell T n
    case l_source => exact ok_l_source T n
    case l_draw => exact ok_l_draw T n
    case l_char => exact ok_l_char T n (h .l_draw)
    case law0 => exact ok_law0 T n (h .p_pick_text) (h .l_between) (h .l_is_string) (h .l_cell) (h .l_source) (h .l_draw) (h .l_char)
end
noncomputable def ff_p_string_of {K : PySem.W.Frag} {h : Heap} {mg : Str → Option Value} (X : K.In h) (G : h.Ns mainGlobals mg) {f : Addr} {od an : Option Addr} {sl : Array (Option Value)} {oc kV dc pm cd ct : Value} (a : PySem.W.nsIn K mainGlobals "string_of" = some (some (.ref f))) (l : K.lookup f = some ⟨oc, od, .func (PySem.W.fnOf "string_of" "string_of" (defArgs s_p_string_of) (defBody s_p_string_of) (defScope s_p_string_of) .none kV dc pm an cd ct), sl⟩) (c : PySem.W.codeIn K cd "string_of" = true) (k : PySem.W.keepIn K (.ref f) = true) : FF K mg "string_of" s_p_string_of ["length", "number"] :=
  ⟨f, _, fun_mk (st := s_p_string_of) l c k, (fun_mk (st := s_p_string_of) l c k).binds (ps := ["length", "number"]) fun _ _ _ _ _ _ us hl => match us, hl with | [_, _], _ => rfl, PySem.W.mg_of X G a⟩
noncomputable def ff_p_pick_text {K : PySem.W.Frag} {h : Heap} {mg : Str → Option Value} (X : K.In h) (G : h.Ns mainGlobals mg) {f : Addr} {od an : Option Addr} {sl : Array (Option Value)} {oc kV dc pm cd ct : Value} (a : PySem.W.nsIn K mainGlobals "pick_text" = some (some (.ref f))) (l : K.lookup f = some ⟨oc, od, .func (PySem.W.fnOf "pick_text" "pick_text" (defArgs s_p_pick_text) (defBody s_p_pick_text) (defScope s_p_pick_text) .none kV dc pm an cd ct), sl⟩) (c : PySem.W.codeIn K cd "pick_text" = true) (k : PySem.W.keepIn K (.ref f) = true) : FF K mg "pick_text" s_p_pick_text ["low", "high", "excluded"] :=
  ⟨f, _, fun_mk (st := s_p_pick_text) l c k, (fun_mk (st := s_p_pick_text) l c k).binds (ps := ["low", "high", "excluded"]) fun _ _ _ _ _ _ us hl => match us, hl with | [_, _, _], _ => rfl, PySem.W.mg_of X G a⟩
noncomputable def ff_l_between {K : PySem.W.Frag} {h : Heap} {mg : Str → Option Value} (X : K.In h) (G : h.Ns mainGlobals mg) {f : Addr} {od an : Option Addr} {sl : Array (Option Value)} {oc kV dc pm cd ct : Value} (a : PySem.W.nsIn K mainGlobals "_law_between" = some (some (.ref f))) (l : K.lookup f = some ⟨oc, od, .func (PySem.W.fnOf "_law_between" "_law_between" (defArgs s_l_between) (defBody s_l_between) (defScope s_l_between) .none kV dc pm an cd ct), sl⟩) (c : PySem.W.codeIn K cd "_law_between" = true) (k : PySem.W.keepIn K (.ref f) = true) : FF K mg "_law_between" s_l_between ["count", "low", "high"] :=
  ⟨f, _, fun_mk (st := s_l_between) l c k, (fun_mk (st := s_l_between) l c k).binds (ps := ["count", "low", "high"]) fun _ _ _ _ _ _ us hl => match us, hl with | [_, _, _], _ => rfl, PySem.W.mg_of X G a⟩
noncomputable def ff_l_is_string {K : PySem.W.Frag} {h : Heap} {mg : Str → Option Value} (X : K.In h) (G : h.Ns mainGlobals mg) {f : Addr} {od an : Option Addr} {sl : Array (Option Value)} {oc kV dc pm cd ct : Value} (a : PySem.W.nsIn K mainGlobals "_law_is_string" = some (some (.ref f))) (l : K.lookup f = some ⟨oc, od, .func (PySem.W.fnOf "_law_is_string" "_law_is_string" (defArgs s_l_is_string) (defBody s_l_is_string) (defScope s_l_is_string) .none kV dc pm an cd ct), sl⟩) (c : PySem.W.codeIn K cd "_law_is_string" = true) (k : PySem.W.keepIn K (.ref f) = true) : FF K mg "_law_is_string" s_l_is_string ["string"] :=
  ⟨f, _, fun_mk (st := s_l_is_string) l c k, (fun_mk (st := s_l_is_string) l c k).binds (ps := ["string"]) fun _ _ _ _ _ _ us hl => match us, hl with | [_], _ => rfl, PySem.W.mg_of X G a⟩
noncomputable def ff_l_cell {K : PySem.W.Frag} {h : Heap} {mg : Str → Option Value} (X : K.In h) (G : h.Ns mainGlobals mg) {f : Addr} {od an : Option Addr} {sl : Array (Option Value)} {oc kV dc pm cd ct : Value} (a : PySem.W.nsIn K mainGlobals "_law_cell" = some (some (.ref f))) (l : K.lookup f = some ⟨oc, od, .func (PySem.W.fnOf "_law_cell" "_law_cell" (defArgs s_l_cell) (defBody s_l_cell) (defScope s_l_cell) .none kV dc pm an cd ct), sl⟩) (c : PySem.W.codeIn K cd "_law_cell" = true) (k : PySem.W.keepIn K (.ref f) = true) : FF K mg "_law_cell" s_l_cell ["script", "k"] :=
  ⟨f, _, fun_mk (st := s_l_cell) l c k, (fun_mk (st := s_l_cell) l c k).binds (ps := ["script", "k"]) fun _ _ _ _ _ _ us hl => match us, hl with | [_, _], _ => rfl, PySem.W.mg_of X G a⟩
noncomputable def ff_l_source {K : PySem.W.Frag} {h : Heap} {mg : Str → Option Value} (X : K.In h) (G : h.Ns mainGlobals mg) {f : Addr} {od an : Option Addr} {sl : Array (Option Value)} {oc kV dc pm cd ct : Value} (a : PySem.W.nsIn K mainGlobals "_law_source" = some (some (.ref f))) (l : K.lookup f = some ⟨oc, od, .func (PySem.W.fnOf "_law_source" "_law_source" (defArgs s_l_source) (defBody s_l_source) (defScope s_l_source) .none kV dc pm an cd ct), sl⟩) (c : PySem.W.codeIn K cd "_law_source" = true) (k : PySem.W.keepIn K (.ref f) = true) : FF K mg "_law_source" s_l_source ["cell"] :=
  ⟨f, _, fun_mk (st := s_l_source) l c k, (fun_mk (st := s_l_source) l c k).binds (ps := ["cell"]) fun _ _ _ _ _ _ us hl => match us, hl with | [_], _ => rfl, PySem.W.mg_of X G a⟩
noncomputable def ff_l_draw {K : PySem.W.Frag} {h : Heap} {mg : Str → Option Value} (X : K.In h) (G : h.Ns mainGlobals mg) {f : Addr} {od an : Option Addr} {sl : Array (Option Value)} {oc kV dc pm cd ct : Value} (a : PySem.W.nsIn K mainGlobals "_law_draw" = some (some (.ref f))) (l : K.lookup f = some ⟨oc, od, .func (PySem.W.fnOf "_law_draw" "_law_draw" (defArgs s_l_draw) (defBody s_l_draw) (defScope s_l_draw) .none kV dc pm an cd ct), sl⟩) (c : PySem.W.codeIn K cd "_law_draw" = true) (k : PySem.W.keepIn K (.ref f) = true) : FF K mg "_law_draw" s_l_draw ["source", "many"] :=
  ⟨f, _, fun_mk (st := s_l_draw) l c k, (fun_mk (st := s_l_draw) l c k).binds (ps := ["source", "many"]) fun _ _ _ _ _ _ us hl => match us, hl with | [_, _], _ => rfl, PySem.W.mg_of X G a⟩
noncomputable def ff_l_char {K : PySem.W.Frag} {h : Heap} {mg : Str → Option Value} (X : K.In h) (G : h.Ns mainGlobals mg) {f : Addr} {od an : Option Addr} {sl : Array (Option Value)} {oc kV dc pm cd ct : Value} (a : PySem.W.nsIn K mainGlobals "_law_char" = some (some (.ref f))) (l : K.lookup f = some ⟨oc, od, .func (PySem.W.fnOf "_law_char" "_law_char" (defArgs s_l_char) (defBody s_l_char) (defScope s_l_char) .none kV dc pm an cd ct), sl⟩) (c : PySem.W.codeIn K cd "_law_char" = true) (k : PySem.W.keepIn K (.ref f) = true) : FF K mg "_law_char" s_l_char ["source"] :=
  ⟨f, _, fun_mk (st := s_l_char) l c k, (fun_mk (st := s_l_char) l c k).binds (ps := ["source"]) fun _ _ _ _ _ _ us hl => match us, hl with | [_], _ => rfl, PySem.W.mg_of X G a⟩
noncomputable def ff_law0 {K : PySem.W.Frag} {h : Heap} {mg : Str → Option Value} (X : K.In h) (G : h.Ns mainGlobals mg) {f : Addr} {od an : Option Addr} {sl : Array (Option Value)} {oc kV dc pm cd ct : Value} (a : PySem.W.nsIn K mainGlobals "law" = some (some (.ref f))) (l : K.lookup f = some ⟨oc, od, .func (PySem.W.fnOf "law" "law" (defArgs s_law0) (defBody s_law0) (defScope s_law0) .none kV dc pm an cd ct), sl⟩) (c : PySem.W.codeIn K cd "law" = true) (k : PySem.W.keepIn K (.ref f) = true) : FF K mg "law" s_law0 ["script"] :=
  ⟨f, _, fun_mk (st := s_law0) l c k, (fun_mk (st := s_law0) l c k).binds (ps := ["script"]) fun _ _ _ _ _ _ us hl => match us, hl with | [_], _ => rfl, PySem.W.mg_of X G a⟩
theorem top_mk {K : PySem.W.Frag} {h : Heap} {mg : Str → Option Value} {w : World} {fa : Addr} (X : K.In h) (G : h.Ns mainGlobals mg) (hfa : mg "law" = some (.ref fa))
    (x_p_string_of : FF K mg "string_of" s_p_string_of ["length", "number"])
    (x_p_pick_text : FF K mg "pick_text" s_p_pick_text ["low", "high", "excluded"])
    (x_l_between : FF K mg "_law_between" s_l_between ["count", "low", "high"])
    (x_l_is_string : FF K mg "_law_is_string" s_l_is_string ["string"])
    (x_l_cell : FF K mg "_law_cell" s_l_cell ["script", "k"])
    (x_l_source : FF K mg "_law_source" s_l_source ["cell"])
    (x_l_draw : FF K mg "_law_draw" s_l_draw ["source", "many"])
    (x_l_char : FF K mg "_law_char" s_l_char ["source"])
    (x_law0 : FF K mg "law" s_law0 ["script"])
    (hb : ∀ (s : Shared) (u : Value), BindsTo s x_law0.fd ⟨[u], []⟩ [("script", u)])
    (z_all : PySem.W.nsIn K mainGlobals "all" = some none)
    (z_int : PySem.W.nsIn K mainGlobals "int" = some none)
    (z_isinstance : PySem.W.nsIn K mainGlobals "isinstance" = some none)
    (z_len : PySem.W.nsIn K mainGlobals "len" = some none)
    (z_list : PySem.W.nsIn K mainGlobals "list" = some none)
    (z_max : PySem.W.nsIn K mainGlobals "max" = some none)
    (z_ord : PySem.W.nsIn K mainGlobals "ord" = some none)
    (z_range : PySem.W.nsIn K mainGlobals "range" = some none)
    (z_reversed : PySem.W.nsIn K mainGlobals "reversed" = some none)
    (z_set : PySem.W.nsIn K mainGlobals "set" = some none)
    (z_str : PySem.W.nsIn K mainGlobals "str" = some none)
    (gv_CHARACTERS : GV K mg "CHARACTERS" (.str "abcdefghijklmnopqrstuvwxyzABCDEFGHIJKLMNOPQRSTUVWXYZ0123456789 !\"#$&'()*+,-./:;<=>?\x40[\\]^_`{|}~"))
    : ∃ T : Facts K mg w, (T.ff .law0).f = fa ∧ ∀ (s : Shared) (u : Value), BindsTo s (T.ff .law0).fd ⟨[u], []⟩ [("script", u)] := by
  have e := hfa.symm.trans x_law0.m
  cases e
  exact ⟨{ ff := (fun i => match i with | .p_string_of => x_p_string_of | .p_pick_text => x_p_pick_text | .l_between => x_l_between | .l_is_string => x_l_is_string | .l_cell => x_l_cell | .l_source => x_l_source | .l_draw => x_l_draw | .l_char => x_l_char | .law0 => x_law0), n_all := PySem.W.mg_none_of X G z_all, n_int := PySem.W.mg_none_of X G z_int, n_isinstance := PySem.W.mg_none_of X G z_isinstance, n_len := PySem.W.mg_none_of X G z_len, n_list := PySem.W.mg_none_of X G z_list, n_max := PySem.W.mg_none_of X G z_max, n_ord := PySem.W.mg_none_of X G z_ord, n_range := PySem.W.mg_none_of X G z_range, n_reversed := PySem.W.mg_none_of X G z_reversed, n_set := PySem.W.mg_none_of X G z_set, n_str := PySem.W.mg_none_of X G z_str, gv_CHARACTERS := gv_CHARACTERS }, rfl, hb⟩
/-- from the pure fact to the row -/
def Says (N : Nat) : Prop := ∀ ns : List Int, ns.length ≤ 63 → (∀ z ∈ ns, Builtin.Int.intBits z ≤ 1048576) → ∃ rr, sem N .law0 [some (.d (.ro (ns.map D.int)))] = some (.bl true, rr)
theorem walk {N : Nat} (hR : Room (2 * N) callerA) (say : Says N) {l : PySem.W.OpenLaw} {q : Program} {loose : List Str} {XP : (Str → Option Value) → Heap → Prop} {YP : World → Heap → Prop} {d : DefRec} {K : Params → PySem.W.Frag} (hn : l.most = some 63) (hdf : d.params.defaults = [])
    (hY : ∀ (w : World) (h : Heap), YP w h → (K w.params).In h)
    (F : ∀ (w : World) (mg : Str → Option Value) (fa : Addr) (h : Heap), (K w.params).In h → h.Ns mainGlobals mg → mg d.name = some (.ref fa) →
      ∃ T : Facts (K w.params) mg w, (T.ff .law0).f = fa ∧ ∀ (s : Shared) (u : Value), BindsTo s (T.ff .law0).fd ⟨[u], []⟩ [("script", u)]) :
    PySem.W.WalkO q loose XP YP l.row.toRowW d [] (fun f vs => PySem.call f vs) := by
  refine L2.walk_ofB (n := 63) (k := 2 * N) (x := "script") (CX := fun _ => CX0) (sp := fun w => spF [] ⟨K w.params, l.prog, w⟩ 1 (sem N .law0)) hn (by decide) hdf hR hY (fun w mg fa h KX G hmg => ?_) (fun w H a ns hl hb _ hS => ?_) fun _ _ _ _ _ z => z
  · obtain ⟨T, rfl, hB⟩ := F w mg fa h KX G hmg
    exact ⟨(T.ff .law0).fd, hB, fun base _ _ => all_ok T N .law0⟩
  · obtain ⟨rr, e⟩ := say ns hl hb
    exact spF_law (fun e he => (List.not_mem_nil he).elim) hS e
end Row

set_option maxHeartbeats 1000000
namespace Row
open PySem PySem.Spec PyProof.Rows L2 Pk
local macro_rules | `(tactic| walk_at "s") => `(tactic| first | with_reducible refine sto ?_ | ((with_reducible refine' w_ld ?h ?_); (case h => exact rfl)) | ((with_reducible refine' w_nxt ?h ?_); (case h => exact rfl)) | ((with_reducible refine' w_own ?h ?_); (case h => exact rfl)) | ((with_reducible refine' w_ldF ?h ?_); (case h => exact rfl)) | ((with_reducible refine' o_eqS ?h ?h2 ?_); (case h => first | assumption | exact SOk.str (by assumption) | exact so_list | exact so_object | exact so_null | exact so_bool | exact so_int | exact so_text); (case h2 => first | assumption | exact SOk.str (by assumption) | exact so_list | exact so_object | exact so_null | exact so_bool | exact so_int | exact so_text)) | ((with_reducible refine' o_ix ?h ?_); (case h => exact rfl)) | ((with_reducible refine' o_neS ?h ?h2 ?_); (case h => first | assumption | exact SOk.str (by assumption) | exact so_list | exact so_object | exact so_null | exact so_bool | exact so_int | exact so_text); (case h2 => first | assumption | exact SOk.str (by assumption) | exact so_list | exact so_object | exact so_null | exact so_bool | exact so_int | exact so_text)) | ((with_reducible refine' o_modI ?h ?_); (case h => decide)) | ((with_reducible refine' o_fdivI ?h ?h2 ?_); (case h => decide); (case h2 => decide)) | ((with_reducible refine' o_powI ?h ?h2 ?h3 ?_); (case h => decide); (case h2 => decide); (case h3 => decide)))
local macro_rules | `(tactic| walk_at "ix") => `(tactic| refine w_of (show ixD _ _ = some _ from rfl) ?_)
local macro_rules | `(tactic| walk_at "go") => `(tactic| (repeat' (first | with_reducible refine sto ?_ | ((with_reducible refine' w_ld ?h ?_); (case h => exact rfl)) | ((with_reducible refine' w_nxt ?h ?_); (case h => exact rfl)) | ((with_reducible refine' w_own ?h ?_); (case h => exact rfl)) | ((with_reducible refine' w_ldF ?h ?_); (case h => exact rfl)) | ((with_reducible refine' o_eqS ?h ?h2 ?_); (case h => first | assumption | exact SOk.str (by assumption) | exact so_list | exact so_object | exact so_null | exact so_bool | exact so_int | exact so_text); (case h2 => first | assumption | exact SOk.str (by assumption) | exact so_list | exact so_object | exact so_null | exact so_bool | exact so_int | exact so_text)) | ((with_reducible refine' o_ix ?h ?_); (case h => exact rfl)) | ((with_reducible refine' o_neS ?h ?h2 ?_); (case h => first | assumption | exact SOk.str (by assumption) | exact so_list | exact so_object | exact so_null | exact so_bool | exact so_int | exact so_text); (case h2 => first | assumption | exact SOk.str (by assumption) | exact so_list | exact so_object | exact so_null | exact so_bool | exact so_int | exact so_text)) | ((with_reducible refine' o_modI ?h ?_); (case h => decide)) | ((with_reducible refine' o_fdivI ?h ?h2 ?_); (case h => decide); (case h2 => decide)) | ((with_reducible refine' o_powI ?h ?h2 ?h3 ?_); (case h => decide); (case h2 => decide); (case h3 => decide)) | fail)))
local macro_rules | `(tactic| walk_at "e1") => `(tactic| refine w_env (r' := [_]) rfl ?_)
local macro_rules | `(tactic| walk_at "e2") => `(tactic| refine w_env (r' := [_, _]) rfl ?_)
local macro_rules | `(tactic| walk_at "e3") => `(tactic| refine w_env (r' := [_, _, _]) rfl ?_)
local macro_rules | `(tactic| walk_at "e4") => `(tactic| refine w_env (r' := [_, _, _, _]) rfl ?_)
def Big (a : Int) : Prop := a.natAbs < 2 ^ 1100000

def Src (k : Nat) (ds : List D) : Prop := ∃ a b c : Int, ds = [.int a, .int b, .int c] ∧ Big a ∧ 0 ≤ c ∧ c ≤ k ∧ k ≤ 2 ^ 60

theorem Src.le {k j : Nat} {ds : List D} (h : Src k ds) (hj : k ≤ j) (hj2 : j ≤ 2 ^ 60) : Src j ds := by
  obtain ⟨a, b, c, e, h1, h2, h3, h4⟩ := h
  exact ⟨a, b, c, e, h1, h2, by omega, hj2⟩

theorem lg {x : Int} {n : Nat} (h : x.natAbs < 2 ^ n) (h0 : 0 < n) : x.natAbs.log2 < n := PySem.Flt.log2_lt_of h0 h

theorem Big.lg {a : Int} (h : Big a) : a.natAbs.log2 < 1100000 := PySem.Flt.log2_lt_of (by decide) h

theorem natAbs_fdiv_le {a m : Int} (hm : 0 < m) : (a.fdiv m).natAbs ≤ a.natAbs := by
  rw [Int.fdiv_eq_ediv_of_nonneg a (by omega)]
  exact Int.natAbs_ediv_le_natAbs a m

theorem Big.fdiv {a m : Int} (h : Big a) (hm : 0 < m) : Big (a.fdiv m) := Nat.lt_of_le_of_lt (natAbs_fdiv_le hm) h

theorem fmod_lt {a m : Int} (hm : 0 < m) : 0 ≤ a.fmod m ∧ a.fmod m < m := ⟨Int.fmod_nonneg_of_pos a hm, Int.fmod_lt_of_pos a hm⟩

theorem lev {c N : Nat} (h : 1 ≤ c) (hN : c ≤ N) : ∃ n, N = n + 1 := ⟨N - 1, by omega⟩

theorem draw_ok {N : Nat} (hN : 1 ≤ N) (k : Nat) (ds : List D) (hs : Src k ds) (hk : k < 2 ^ 60) (m : Int) (hm : 0 < m) (hm2 : m.natAbs.log2 < 9000) :
    wp (sem N .l_draw) (fun d r' => ∃ (x : Int) (ds' : List D), d = .int x ∧ 0 ≤ x ∧ x < m ∧ Src (k + 1) ds' ∧ r' = [some (.own true ds'), some (.d (.int m))]) [some (.own true ds), some (.d (.int m))] := by
  obtain ⟨a, b, c, rfl, ha, hc, hck, hk2⟩ := hs
  obtain ⟨n, rfl⟩ := lev (by omega) hN
  rw [sem_succ]
  refine w_body (by rfl) ?_
  delta b_l_draw
  walk_at "go"
  refine w_it (fun hb => ?_) (fun hb => ?_)
  · walk_at "go"
    refine w_of (w_modD (by omega)) ?_
    walk_at "go"
    refine w_of (w_fdivD (by omega) hm2) ?_
    walk_at "go"
    obtain ⟨h1, h2⟩ := fmod_lt (a := a) hm
    exact ⟨_, _, rfl, h1, h2, ⟨a.fdiv m, b, c, rfl, ha.fdiv hm, hc, by omega, by omega⟩, rfl⟩
  · walk_at "go"
    refine w_of (w_mulD ?_) ?_
    · have h1 := ha.lg
      have h2 : (48271 : Int).natAbs.log2 < 20 := by decide
      omega
    walk_at "go"
    refine w_of (w_mulD ?_) ?_
    · have h1 : (c + 1).natAbs.log2 < 64 := lg (n := 64) (by omega) (by decide)
      have h2 : (69621 : Int).natAbs.log2 < 20 := by decide
      omega
    walk_at "go"
    obtain ⟨g1, g2⟩ := fmod_lt (a := a * 48271 + (c + 1) * 69621) (m := 2147483647) (by decide)
    have lq : ((a * 48271 + (c + 1) * 69621).fmod 2147483647).natAbs.log2 < 31 := lg (n := 31) (by omega) (by decide)
    refine w_of (w_mulD (by omega)) ?_
    walk_at "go"
    refine w_of (w_mulD ?_) ?_
    · have h1 : (c + 1).natAbs.log2 < 64 := lg (n := 64) (by omega) (by decide)
      have h2 : (7919 : Int).natAbs.log2 < 20 := by decide
      omega
    walk_at "go"
    refine w_of (w_modD (by omega)) ?_
    walk_at "go"
    exact ⟨_, _, rfl, (fmod_lt hm).1, (fmod_lt hm).2, ⟨a, b, c + 1, rfl, ha, by omega, by omega, by omega⟩, rfl⟩

abbrev Dr (j k : Nat) (A : D → Prop) : D → Ro → Prop := fun d r' => A d ∧ ∃ ds', Src (k + j) ds' ∧ r' = [some (.own true ds')]

def OkS : D → Prop := fun d => ∃ x, d = .str x ∧ SOk x

theorem addS' {x y : Str} (h : x.length + y.length ≤ 1000) : addD (.str x) (.str y) = some (.str (x ++ y)) := by
  simp only [addD]
  rw [if_pos (Nat.le_trans h (by decide))]

theorem chars_ok : ∀ c ∈ ((Str.ofString " !\"#$&'()*+,-./0123456789:;<=>?@ABCDEFGHIJKLMNOPQRSTUVWXYZ[\\]^_`" ++ Str.ofString "abcdefghijklmnopqrstuvwxyz{|}~" : Str)).cps.toList, COk c := by decide +kernel

theorem chars_len : (Str.ofString " !\"#$&'()*+,-./0123456789:;<=>?@ABCDEFGHIJKLMNOPQRSTUVWXYZ[\\]^_`" ++ Str.ofString "abcdefghijklmnopqrstuvwxyz{|}~" : Str).length = 94 := by decide +kernel

theorem char_ok {N : Nat} (hN : 2 ≤ N) (k : Nat) (ds : List D) (hs : Src k ds) (hk : k + 1 < 2 ^ 60) : wp (sem N .l_char) (Dr 1 k fun d => ∃ c, d = .str ⟨#[c]⟩ ∧ COk c) [some (.own true ds)] := by
  obtain ⟨n, rfl⟩ := lev (by omega) hN
  rw [sem_succ]
  refine w_body (by rfl) ?_
  delta b_l_char
  walk_at "go"
  refine w_of (addS' (by decide +kernel)) ?_
  walk_at "go"
  refine w_call rfl (by decide) rfl (w_mono (draw_ok (by omega) k ds hs (by omega) 94 (by decide) (by decide)) ?_)
  rintro d r' ⟨x, ds', rfl, h0, h1, hs', rfl⟩
  walk_at "go"
  obtain ⟨c, hc, e⟩ := w_ixS (z := (Str.ofString " !\"#$&'()*+,-./0123456789:;<=>?@ABCDEFGHIJKLMNOPQRSTUVWXYZ[\\]^_`" ++ Str.ofString "abcdefghijklmnopqrstuvwxyz{|}~")) (i := x) (by rw [chars_len]; decide) h0 (by rw [chars_len]; exact h1)
  refine w_of e ?_
  exact ⟨⟨c, rfl, chars_ok c hc⟩, ds', hs', rfl⟩

theorem mulName {x : Int} (h0 : 0 ≤ x) (h1 : x < 4) : ∃ y, mulD (.str (Str.ofString "name")) (.int x) = some (.str y) ∧ (∀ c ∈ y.cps.toList, COk c) ∧ y.length ≤ 12 := by
  have : x = 0 ∨ x = 1 ∨ x = 2 ∨ x = 3 := by omega
  rcases this with rfl | rfl | rfl | rfl <;> exact ⟨_, rfl, by decide +kernel, by decide +kernel⟩

theorem addS {x y : Str} (h : x.length + y.length ≤ 1000) : addD (.str x) (.str y) = some (.str (x ++ y)) := by
  simp only [addD]
  rw [if_pos (Nat.le_trans h (by decide))]

theorem eight_ok : ∀ d ∈ ([.str (Str.ofString "a"), .str (Str.ofString "b"), .str (Str.ofString "c"), .str (Str.ofString "ab"), .str (Str.ofString ""), .str (Str.ofString "z9"), .str (Str.ofString "B"), .str (Str.ofString "ba")] : List D), OkS d := by
  intro d hd
  simp only [List.mem_cons, List.not_mem_nil, or_false] at hd
  rcases hd with rfl | rfl | rfl | rfl | rfl | rfl | rfl | rfl <;> exact ⟨_, rfl, sok_by (by decide +kernel)⟩

def One (d : D) : Prop := ∃ c, d = .str ⟨#[c]⟩ ∧ COk c

theorem texts_one : ∀ {ds : List D}, (∀ d ∈ ds, One d) → ∃ ys : List Str, texts ds = some ys ∧ ys.length = ds.length ∧ (∀ y ∈ ys, y.length = 1 ∧ ∀ c ∈ y.cps.toList, COk c)
  | [], _ => ⟨[], rfl, rfl, by simp⟩
  | d :: ds, h => by
    obtain ⟨c, rfl, hc⟩ := h d (List.mem_cons_self ..)
    obtain ⟨ys, e, l, o⟩ := texts_one (ds := ds) fun d hd => h d (List.mem_cons_of_mem _ hd)
    refine ⟨⟨#[c]⟩ :: ys, by simp [texts, e], by simp [l], fun y hy => ?_⟩
    rcases List.mem_cons.mp hy with rfl | hy
    · exact ⟨rfl, by simpa using hc⟩
    · exact o y hy

theorem join_one {ds : List D} (h : ∀ d ∈ ds, One d) (hl : ds.length ≤ 100) : ∃ x, joinD (.str (Str.ofString "")) (.lst ds) = some (.str x) ∧ SOk x ∧ x.length = ds.length := by
  obtain ⟨ys, e, l, o⟩ := texts_one h
  have e0 : (Str.ofString "" : Str) = Str.empty := by rfl
  have hs : ∀ zs : List Str, (∀ y ∈ zs, y.length = 1 ∧ ∀ c ∈ y.cps.toList, COk c) → (zs.map (·.length)).sum = zs.length := fun zs => by
    induction zs with
    | nil => intro _; rfl
    | cons z zs ih =>
      intro hz
      rw [List.map_cons, List.sum_cons, ih fun y hy => hz y (List.mem_cons_of_mem _ hy), (hz z (List.mem_cons_self ..)).1, List.length_cons]; omega
  have hlen : (Str.join Str.empty ys).length = ys.length := by
    have h1 : (Str.join Str.empty ys).length = (Str.join Str.empty ys).cps.toList.length := by rw [Array.length_toList]; rfl
    rw [h1, join_cps, List.length_flatten, List.map_map]
    have : ((fun y : Str => y.cps.toList.length)) = (fun y : Str => y.length) := by funext y; rw [Array.length_toList]; rfl
    show (ys.map fun y => y.cps.toList.length).sum = _
    rw [this]
    exact hs ys o
  refine ⟨Txt.join (Str.ofString "") ys, ?_, ?_, ?_⟩
  · show joinL _ _ = _
    unfold joinL
    rw [e]
    dsimp only
    rw [if_pos]
    rw [hs ys o, e0]
    show ys.length + ys.length * 0 ≤ _
    omega
  · unfold Txt.join
    rw [StrLaws.glued_eq_join, e0]
    refine ⟨fun c hc => ?_, by rw [hlen, l]; exact hl⟩
    rw [join_cps] at hc
    obtain ⟨zs, hz, hc⟩ := List.mem_flatten.mp hc
    obtain ⟨y, hy, rfl⟩ := List.mem_map.mp hz
    exact (o y hy).2 c hc
  · unfold Txt.join
    rw [StrLaws.glued_eq_join, e0, hlen, l]
def IsJ : Nat → D → Prop
  | 0, _ => False
  | n + 1, d => d = .tup [.str (Str.ofString "null")] ∨ (∃ b, d = .tup [.str (Str.ofString "bool"), .bl b]) ∨ (∃ i, d = .tup [.str (Str.ofString "int"), .int i]) ∨ (∃ x, SOk x ∧ d = .tup [.str (Str.ofString "text"), .str x]) ∨
    (∃ ds : List D, ds.length ≤ 400 + min n 100 ∧ (∀ e ∈ ds, IsJ n e) ∧ d = .tup [.str (Str.ofString "list"), .tup ds]) ∨
    (∃ fs : List (Str × D), fs.length ≤ 400 + min n 100 ∧ (∀ f ∈ fs, SOk f.1 ∧ IsJ n f.2) ∧ fs.Pairwise (fun f g => f.1.cps.toList < g.1.cps.toList) ∧ d = .tup [.str (Str.ofString "object"), .tup (fs.map fun f => .tup [.str f.1, f.2])])
theorem lt1 {a b : Nat} : decide (([a] : List Nat) < [b]) = decide (a < b) := by
  rw [decide_eq_decide, List.cons_lt_cons_iff]
  simp

theorem all_true : ∀ {acc : List D}, (∀ e ∈ acc, e = .bl true) → allD [.lst acc] = some (.bl true)
  | acc, h => by
    have : ∀ {acc : List D}, (∀ e ∈ acc, e = .bl true) → ∃ bs, bools acc = some bs ∧ bs.all _root_.id = true := by
      intro acc
      induction acc with
      | nil => intro _; exact ⟨[], rfl, rfl⟩
      | cons e acc ih =>
        intro h
        obtain ⟨bs, e1, e2⟩ := ih fun x hx => h x (List.mem_cons_of_mem _ hx)
        rw [h e (List.mem_cons_self ..)]
        exact ⟨true :: bs, by simp only [bools, e1]; rfl, by simp [e2]⟩
    obtain ⟨bs, e1, e2⟩ := this h
    simp only [allD, e1, Option.map, e2]

theorem isstr_ok {N : Nat} (hN : 1 ≤ N) (x : Str) (hx : SOk x) : wp (sem N .l_is_string) (fun d r' => d = .bl true ∧ r' = [some (.d (.str x))]) [some (.d (.str x))] := by
  obtain ⟨n, rfl⟩ := lev (by omega) hN
  rw [sem_succ]
  refine w_body (by rfl) ?_
  delta b_l_is_string
  walk_at "go"
  refine o_isi (show isiD "str" (.str x) = some (.bl true) from rfl) ?_
  walk_at "go"
  refine w_ifF rfl ?_
  walk_at "go"
  refine w_lc ?_
  walk_at "go"
  refine w_of (show seqOf (.str x) = some (x.cps.toList.map fun c => .str ⟨#[c]⟩) from rfl) ?_
  refine ⟨rfl, ?_⟩
  have hl : (x.cps.toList.map fun c => D.str ⟨#[c]⟩).length ≤ 100 := by
    rw [List.length_map, Array.length_toList]; exact hx.2
  refine w_comp_pure (fun _ => true) (fun _ => .bl true) (fun d hd => ?_) (Nat.le_trans hl (by decide)) ?_
  · obtain ⟨c, hc, rfl⟩ := List.mem_map.mp hd
    have ok := hx.1 c hc
    unfold COk at ok
    refine ⟨_, rfl, ?_, fun _ => ?_, rfl⟩
    · walk_at "go"
      exact ⟨rfl, rfl⟩
    · walk_at "go"
      have e1 : decide ((#[c] : Array Nat).toList < (Str.ofString " ").cps.toList) = false := by
        show decide (([c] : List Nat) < [32]) = false
        rw [lt1]; exact decide_eq_false (by omega)
      refine w_ifT (by rw [show (({ cps := #[c] } : Str).cps.toList) = (#[c] : Array Nat).toList from rfl, e1]; rfl) ?_
      walk_at "go"
      have e2 : decide ((Str.ofString "~").cps.toList < (#[c] : Array Nat).toList) = false := by
        show decide (([126] : List Nat) < [c]) = false
        rw [lt1]; exact decide_eq_false (by omega)
      refine w_ifT (by rw [show (({ cps := #[c] } : Str).cps.toList) = (#[c] : Array Nat).toList from rfl, e2]; rfl) ?_
      walk_at "go"
      refine w_of (show ordC [.str ⟨#[c]⟩] = some (.int (c : Int)) from rfl) ?_
      walk_at "go"
      refine ⟨?_, rfl⟩
      have : ((c : Int) == 37) = false := by rw [beq_eq_false_iff_ne]; omega
      rw [this]; rfl
  · walk_at "go"
    refine w_of (all_true (fun e he => ?_)) ?_
    · obtain ⟨d, _, rfl⟩ := List.mem_map.mp he
      rfl
    · exact ⟨rfl, rfl⟩
end Row

set_option maxHeartbeats 1000000
namespace Row
open PySem PySem.Spec PyProof.Rows L2 Pk
local macro_rules | `(tactic| walk_at "s") => `(tactic| first | with_reducible refine stp ?_ | ((with_reducible refine' w_ld ?h ?_); (case h => exact rfl)) | ((with_reducible refine' w_nxt ?h ?_); (case h => exact rfl)) | ((with_reducible refine' w_own ?h ?_); (case h => exact rfl)) | ((with_reducible refine' w_ldF ?h ?_); (case h => exact rfl)) | ((with_reducible refine' o_eqS ?h ?h2 ?_); (case h => first | assumption | exact SOk.str (by assumption) | exact so_list | exact so_object | exact so_null | exact so_bool | exact so_int | exact so_text | exact SOk.str (sok_by (by decide +kernel))); (case h2 => first | assumption | exact SOk.str (by assumption) | exact so_list | exact so_object | exact so_null | exact so_bool | exact so_int | exact so_text | exact SOk.str (sok_by (by decide +kernel)))) | ((with_reducible refine' o_ix ?h ?_); (case h => exact rfl)) | ((with_reducible refine' o_neS ?h ?h2 ?_); (case h => first | assumption | exact SOk.str (by assumption) | exact so_list | exact so_object | exact so_null | exact so_bool | exact so_int | exact so_text | exact SOk.str (sok_by (by decide +kernel))); (case h2 => first | assumption | exact SOk.str (by assumption) | exact so_list | exact so_object | exact so_null | exact so_bool | exact so_int | exact so_text | exact SOk.str (sok_by (by decide +kernel)))) | ((with_reducible refine' o_modI ?h ?_); (case h => decide)) | ((with_reducible refine' o_fdivI ?h ?h2 ?_); (case h => decide); (case h2 => decide)) | ((with_reducible refine' o_powI ?h ?h2 ?h3 ?_); (case h => decide); (case h2 => decide); (case h3 => decide)))
local macro_rules | `(tactic| walk_at "ix") => `(tactic| refine w_of (show ixD _ _ = some _ from rfl) ?_)
local macro_rules | `(tactic| walk_at "go") => `(tactic| (repeat' (first | with_reducible refine stp ?_ | ((with_reducible refine' w_ld ?h ?_); (case h => exact rfl)) | ((with_reducible refine' w_nxt ?h ?_); (case h => exact rfl)) | ((with_reducible refine' w_own ?h ?_); (case h => exact rfl)) | ((with_reducible refine' w_ldF ?h ?_); (case h => exact rfl)) | ((with_reducible refine' o_eqS ?h ?h2 ?_); (case h => first | assumption | exact SOk.str (by assumption) | exact so_list | exact so_object | exact so_null | exact so_bool | exact so_int | exact so_text | exact SOk.str (sok_by (by decide +kernel))); (case h2 => first | assumption | exact SOk.str (by assumption) | exact so_list | exact so_object | exact so_null | exact so_bool | exact so_int | exact so_text | exact SOk.str (sok_by (by decide +kernel)))) | ((with_reducible refine' o_ix ?h ?_); (case h => exact rfl)) | ((with_reducible refine' o_neS ?h ?h2 ?_); (case h => first | assumption | exact SOk.str (by assumption) | exact so_list | exact so_object | exact so_null | exact so_bool | exact so_int | exact so_text | exact SOk.str (sok_by (by decide +kernel))); (case h2 => first | assumption | exact SOk.str (by assumption) | exact so_list | exact so_object | exact so_null | exact so_bool | exact so_int | exact so_text | exact SOk.str (sok_by (by decide +kernel)))) | ((with_reducible refine' o_modI ?h ?_); (case h => decide)) | ((with_reducible refine' o_fdivI ?h ?h2 ?_); (case h => decide); (case h2 => decide)) | ((with_reducible refine' o_powI ?h ?h2 ?h3 ?_); (case h => decide); (case h2 => decide); (case h3 => decide)) | fail)))
local macro_rules | `(tactic| walk_at "e1") => `(tactic| refine w_env (r' := [_]) rfl ?_)
local macro_rules | `(tactic| walk_at "e2") => `(tactic| refine w_env (r' := [_, _]) rfl ?_)
local macro_rules | `(tactic| walk_at "e3") => `(tactic| refine w_env (r' := [_, _, _]) rfl ?_)
local macro_rules | `(tactic| walk_at "e4") => `(tactic| refine w_env (r' := [_, _, _, _]) rfl ?_)
local macro_rules | `(tactic| walk_at "e") => `(tactic| first | refine w_env (r' := [_]) rfl ?_ | refine w_env (r' := [_, _]) rfl ?_ | refine w_env (r' := [_, _, _]) rfl ?_ | refine w_env (r' := [_, _, _, _]) rfl ?_ | refine w_env (r' := [_, _, _, _, _]) rfl ?_ | refine w_env (r' := [_, _, _, _, _, _]) rfl ?_ | refine w_env (r' := [_, _, _, _, _, _, _]) rfl ?_ | refine w_env (r' := [_, _, _, _, _, _, _, _]) rfl ?_ | refine w_env (r' := [_, _, _, _, _, _, _, _, _]) rfl ?_ | refine w_env (r' := [_, _, _, _, _, _, _, _, _, _]) rfl ?_ | refine w_env (r' := [_, _, _, _, _, _, _, _, _, _, _]) rfl ?_ | refine w_env (r' := [_, _, _, _, _, _, _, _, _, _, _, _]) rfl ?_)
local macro_rules | `(tactic| walk_at "br") => `(tactic| first | refine w_itD (fun hb => ?_) (fun hb => ?_) | refine w_itE (fun hb => ?_) (fun hb => ?_) | refine p_itD (fun hb => ?_) (fun hb => ?_) | refine p_itE (fun hb => ?_) (fun hb => ?_))
local macro_rules | `(tactic| walk_at "lit") => `(tactic| first | ((with_reducible refine' w_ifT ?h ?_); (case h => exact rfl)) | ((with_reducible refine' w_ifF ?h ?_); (case h => exact rfl)) | ((with_reducible refine' p_ifT ?h ?_); (case h => exact rfl)) | ((with_reducible refine' p_ifF ?h ?_); (case h => exact rfl)))
local macro_rules | `(tactic| walk_at "gl") => `(tactic| (repeat' (first | with_reducible refine stp ?_ | ((with_reducible refine' w_ld ?h ?_); (case h => exact rfl)) | ((with_reducible refine' w_nxt ?h ?_); (case h => exact rfl)) | ((with_reducible refine' w_own ?h ?_); (case h => exact rfl)) | ((with_reducible refine' w_ldF ?h ?_); (case h => exact rfl)) | ((with_reducible refine' o_eqS ?h ?h2 ?_); (case h => first | assumption | exact SOk.str (by assumption) | exact so_list | exact so_object | exact so_null | exact so_bool | exact so_int | exact so_text | exact SOk.str (sok_by (by decide +kernel))); (case h2 => first | assumption | exact SOk.str (by assumption) | exact so_list | exact so_object | exact so_null | exact so_bool | exact so_int | exact so_text | exact SOk.str (sok_by (by decide +kernel)))) | ((with_reducible refine' o_ix ?h ?_); (case h => exact rfl)) | ((with_reducible refine' o_neS ?h ?h2 ?_); (case h => first | assumption | exact SOk.str (by assumption) | exact so_list | exact so_object | exact so_null | exact so_bool | exact so_int | exact so_text | exact SOk.str (sok_by (by decide +kernel))); (case h2 => first | assumption | exact SOk.str (by assumption) | exact so_list | exact so_object | exact so_null | exact so_bool | exact so_int | exact so_text | exact SOk.str (sok_by (by decide +kernel)))) | ((with_reducible refine' o_modI ?h ?_); (case h => decide)) | ((with_reducible refine' o_fdivI ?h ?h2 ?_); (case h => decide); (case h2 => decide)) | ((with_reducible refine' o_powI ?h ?h2 ?h3 ?_); (case h => decide); (case h2 => decide); (case h3 => decide)) | ((with_reducible refine' w_ifT ?h ?_); (case h => exact rfl)) | ((with_reducible refine' w_ifF ?h ?_); (case h => exact rfl)) | ((with_reducible refine' p_ifT ?h ?_); (case h => exact rfl)) | ((with_reducible refine' p_ifF ?h ?_); (case h => exact rfl)) | fail)))
theorem w_line {β : Type} {m m' : M β} {P : β → Ro → Prop} {r : Ro} {ds : List D} (hl : ds.length ≤ 1000) (h : wp m P r) : wp (if ds.length ≤ sizeLine then m else m') P r := by
  rw [if_pos (Nat.le_trans hl (by decide))]; exact h

def Fre : Option S → Prop
  | some (.own true _) => False
  | some .lock => False
  | _ => True

theorem fre_free {r : Ro} {i : Nat} {o : Option S} (h : r[i]? = some o) (ho : Fre o) : free r i = true := by
  unfold free
  rw [h]
  cases o with
  | none => rfl
  | some s => cases s with
    | d d => rfl
    | own p ds => cases p with
      | true => exact ho.elim
      | false => rfl
    | lock => exact ho.elim

theorem setD_ok {r : Ro} {i : Nat} {o : Option S} {d : D} (h : r[i]? = some o) (ho : Fre o) : setD i d r = some (r.set i (some (.d d))) := by
  unfold setD; rw [if_pos (fre_free h ho)]

theorem setO_ok {r : Ro} {i : Nat} {o : Option S} {ds : List D} (h : r[i]? = some o) (ho : Fre o) : setO i ds r = some (r.set i (some (.own false ds))) := by
  unfold setO; rw [if_pos (fre_free h ho)]

theorem appN_ok {i : Nat} {r : Ro} {p : Bool} {ds : List D} {d : D} (h : r[i]? = some (some (.own p ds))) (hl : ds.length < 10000000) : appM i d r = some (r.set i (some (.own p (ds ++ [d])))) := by
  unfold appM
  rw [h]
  dsimp only
  rw [if_pos (Nat.lt_trans hl (by decide))]

theorem fre_map (x : Option D) : Fre (x.map S.d) := by cases x <;> trivial
theorem Big.of_bits {z : Int} (h : Builtin.Int.intBits z ≤ 1048576) : Big z := by
  have h1 : z.natAbs < 2 ^ (z.natAbs.log2 + 1) := Nat.lt_log2_self
  have h2 : z.natAbs.log2 + 1 ≤ 1048577 := by
    by_cases h0 : z = 0
    · subst h0; decide
    · have : Builtin.Int.intBits z = z.natAbs.log2 + 1 := by
        unfold Builtin.Int.intBits
        split
        · rename_i h; exact absurd (by simpa using h) h0
        · rfl
      omega
  exact Nat.lt_of_lt_of_le h1 (Nat.pow_le_pow_right (by decide) (by omega))

theorem Big.small {z : Int} (h : z.natAbs < 2 ^ 60) : Big z := Nat.lt_of_lt_of_le h (Nat.pow_le_pow_right (by decide) (by decide))

theorem cell_ok {N : Nat} (hN : 1 ≤ N) (ns : List Int) (hb : ∀ z ∈ ns, Big z) (k : Nat) :
    wp (sem N .l_cell) (fun d r' => (∃ z, d = .int z ∧ Big z) ∧ r' = [some (.d (.ro (ns.map D.int))), some (.d (.int k))]) [some (.d (.ro (ns.map D.int))), some (.d (.int k))] := by
  obtain ⟨n, rfl⟩ := lev (by omega) hN
  rw [sem_succ]
  refine w_body (by rfl) ?_
  delta b_l_cell
  walk_at "go"
  refine w_it (fun h => ?_) (fun h => ?_)
  · have hk : (k : Int) < ((ns.map D.int).length : Int) := of_decide_eq_true h
    obtain ⟨d, hd, _, e⟩ := w_ixR (ds := ns.map D.int) (i := (k : Int)) (by omega) hk
    walk_at "go"
    refine w_of e ?_
    obtain ⟨z, hz, rfl⟩ := List.mem_map.mp hd
    exact ⟨⟨z, rfl, hb z hz⟩, rfl⟩
  · walk_at "go"
    exact ⟨⟨0, rfl, Big.small (by decide)⟩, rfl⟩

theorem source_ok {N : Nat} (hN : 1 ≤ N) (z : Int) (hz : Big z) :
    wp (semN N .l_source) (fun ds r' => Src 0 ds ∧ r' = [some (.d (.int z))]) [some (.d (.int z))] := by
  obtain ⟨n, rfl⟩ := lev (by omega) hN
  rw [semN_succ]
  refine w_bodyN (by rfl) ?_
  delta b_l_source
  walk_at "go"
  refine w_fun (by rfl) ?_
  exact ⟨⟨z, _, 0, rfl, hz, by omega, by omega, by omega⟩, rfl⟩

theorem cut_mem {ds : List D} {lo hi : Option Int} {x : D} (h : x ∈ Pk.cutD ds lo hi) : x ∈ ds := by
  unfold Pk.cutD at h
  exact List.mem_of_mem_drop (List.mem_of_mem_take h)

theorem cut_len (ds : List D) (lo hi : Option Int) : (Pk.cutD ds lo hi).length ≤ ds.length := by
  unfold Pk.cutD
  rw [List.length_take, List.length_drop]
  omega
theorem can_all {xs : List PyData} (h : ∀ x ∈ xs, x.canLay0 = true) : PyData.canLayAll0 xs = true := by
  induction xs with
  | nil => rfl
  | cons x xs ih => rw [PyData.canLayAll0, h x (List.mem_cons_self ..), ih fun y hy => h y (List.mem_cons_of_mem _ hy)]; rfl

theorem depth_all {xs : List PyData} {b : Nat} (h : ∀ x ∈ xs, x.depth ≤ b) : PyData.depthAll xs ≤ b := by
  induction xs with
  | nil => exact Nat.zero_le _
  | cons x xs ih => rw [PyData.depthAll]; exact Nat.max_le.mpr ⟨h x (List.mem_cons_self ..), ih fun y hy => h y (List.mem_cons_of_mem _ hy)⟩

def PyB (b : Nat) (d : D) : Prop := d.py.canLay0 = true ∧ d.py.depth ≤ b

theorem PyB.mono {b c : Nat} {d : D} (h : PyB b d) (hc : b ≤ c) : PyB c d := ⟨h.1, Nat.le_trans h.2 hc⟩

theorem PyB.str {x : Str} (h : PyData.strOk x = true) : PyB 1 (.str x) := ⟨by rw [D.py]; exact h, by rw [D.py]; simp [PyData.depth]⟩

theorem PyB.non : PyB 1 .non := ⟨by rw [D.py]; rfl, by rw [D.py]; simp [PyData.depth]⟩

theorem PyB.int {i : Int} : PyB 1 (.int i) := ⟨by rw [D.py]; rfl, by rw [D.py]; simp [PyData.depth]⟩

theorem PyB.bl {b : Bool} : PyB 1 (.bl b) := ⟨by rw [D.py]; rfl, by rw [D.py]; simp [PyData.depth]⟩

theorem PyB.tup {b : Nat} {ds : List D} (h : ∀ d ∈ ds, PyB b d) : PyB (b + 1) (.tup ds) := by
  have h1 : PyData.canLayAll0 (pys ds) = true := can_all fun x hx => by
    rw [pys_map] at hx
    obtain ⟨e, he, rfl⟩ := List.mem_map.mp hx
    exact (h e he).1
  have h2 : PyData.depthAll (pys ds) ≤ b := depth_all fun x hx => by
    rw [pys_map] at hx
    obtain ⟨e, he, rfl⟩ := List.mem_map.mp hx
    exact (h e he).2
  exact ⟨by rw [D.py]; simpa [PyData.canLay0] using h1, by rw [D.py]; simp [PyData.depth]; omega⟩

theorem PyB.lst {b : Nat} {ds : List D} (h : ∀ d ∈ ds, PyB b d) : PyB (b + 1) (.lst ds) := by
  have := PyB.tup h
  have e1 : (D.lst ds).py = .list (pys ds) := by rw [D.py]
  have e2 : (D.tup ds).py = .tuple (pys ds) := by rw [D.py]
  unfold PyB at this ⊢
  rw [e2] at this
  rw [e1]
  simpa [PyData.canLay0, PyData.depth] using this

theorem PyB.ne {b : Nat} {d : D} (h : PyB b d) (hb : b ≤ 200) : neD d d = some (.bl false) := by
  unfold neD okEq
  rw [h.1, if_pos (by have := h.2; simp; omega)]
  unfold eqv
  rw [SeqAt.eqv_refl _ h.1]
  rfl
theorem texts_strs : ∀ ws : List Str, texts (ws.map D.str) = some ws
  | [] => rfl
  | w :: ws => by simp [texts, texts_strs ws]

theorem strs_pyb {ws : List Str} (h : ∀ w ∈ ws, PyData.strOk w = true) : PyB 2 (.lst (ws.map D.str)) := PyB.lst fun d hd => by
  obtain ⟨w, hw, rfl⟩ := List.mem_map.mp hd
  exact PyB.str (h w hw)

theorem pys_ws : ∀ {ws : List Str}, (∀ w ∈ ws, PyData.strOk w = true) → PyData.canLayAll0 (pys (ws.map D.str)) = true
  | [], _ => rfl
  | x :: xs, h => by
    rw [List.map_cons, pys]
    show (PyData.canLay0 (D.str x).py && PyData.canLayAll0 (pys (xs.map D.str))) = true
    rw [pys_ws fun y hy => h y (List.mem_cons_of_mem _ hy), D.py, PyData.canLay0, h x (List.mem_cons_self ..)]; rfl

theorem in_ws {y : Str} (hy : PyData.strOk y = true) {ws : List Str} (h : ∀ w ∈ ws, PyData.strOk w = true) : inD2 (.str y) (.lst (ws.map D.str)) = some (.bl (decide (y ∈ ws))) := by
  show (if okIn (.str y) (ws.map D.str) = true then some (D.bl ((ws.map D.str).any fun z => eqv z (.str y))) else none) = _
  have ok : okIn (.str y) (ws.map D.str) = true := by
    unfold okIn
    rw [pys_ws h, D.py, PyData.canLay0, hy]
    rfl
  rw [if_pos ok, List.any_map]
  congr 2
  rw [Bool.eq_iff_iff, List.any_eq_true, decide_eq_true_iff]
  constructor
  · rintro ⟨z, hz, e⟩
    have e : eqv (.str z) (.str y) = true := e
    have : z = y := by
      simp [eqv, D.py, PyData.eqv] at e
      exact e
    rw [← this]; exact hz
  · intro h
    exact ⟨y, h, by show eqv (.str y) (.str y) = true; simp [eqv, D.py, PyData.eqv]⟩

theorem notin_ws {y : Str} (hy : PyData.strOk y = true) {ws : List Str} (h : ∀ w ∈ ws, PyData.strOk w = true) : notInD2 (.str y) (.lst (ws.map D.str)) = some (.bl (!decide (y ∈ ws))) := by
  show (if okIn (.str y) (ws.map D.str) = true then some (D.bl (!(ws.map D.str).any fun z => eqv z (.str y))) else none) = _
  have e := in_ws hy h
  have e2 : (if okIn (.str y) (ws.map D.str) = true then some (D.bl ((ws.map D.str).any fun z => eqv z (.str y))) else none) = some (D.bl (decide (y ∈ ws))) := e
  split at e2
  · rename_i ok
    rw [if_pos ok]
    have : ((ws.map D.str).any fun z => eqv z (.str y)) = decide (y ∈ ws) := by simpa using e2
    rw [this]
  · cases e2
abbrev CHS : Str := Str.ofString "abcdefghijklmnopqrstuvwxyzABCDEFGHIJKLMNOPQRSTUVWXYZ0123456789 !\"#$&'()*+,-./:;<=>?\x40[\\]^_`{|}~"

theorem CHS_ok : ∀ c ∈ CHS.cps.toList, COk c := by decide +kernel

theorem CHS_len : CHS.length = 94 := by decide +kernel

theorem CHS_nd : CHS.cps.toList.Nodup := by decide +kernel

def chD (n : Nat) : D := .str ⟨#[CHS.cps.toList.getD n 0]⟩

theorem CHS_len2 : CHS.cps.toList.length = 94 := by rw [Array.length_toList]; exact CHS_len

theorem ch_ix {n : Nat} (h : n < 94) : ixD (.str CHS) (.int (n : Int)) = some (chD n) := by
  have hl := CHS_len2
  have h3 : L2.atI CHS.cps.toList (n : Int) = some (CHS.cps.toList.getD n 0) := by
    unfold L2.atI L2.ixN
    rw [if_pos (by omega), if_pos (by omega)]
    show CHS.cps.toList[(n : Int).toNat]? = _
    rw [Int.toNat_natCast, List.getElem?_eq_getElem (by omega), List.getD_eq_getElem?_getD, List.getElem?_eq_getElem (by omega)]; rfl
  simp only [ixD, if_pos (show CHS.length ≤ sizeLine by rw [CHS_len]; decide), h3]
  rfl

theorem ch_ok {n : Nat} (h : n < 94) : COk (CHS.cps.toList.getD n 0) := by
  have hl := CHS_len2
  rw [List.getD_eq_getElem?_getD, List.getElem?_eq_getElem (by omega)]
  exact CHS_ok _ (List.getElem_mem (by omega))

theorem ch_inj {n m : Nat} (hn : n < 94) (hm : m < 94) (e : CHS.cps.toList.getD n 0 = CHS.cps.toList.getD m 0) : n = m := by
  have hl := CHS_len2
  rw [List.getD_eq_getElem?_getD, List.getD_eq_getElem?_getD, List.getElem?_eq_getElem (by omega), List.getElem?_eq_getElem (by omega)] at e
  have nd := List.pairwise_iff_getElem.mp CHS_nd
  rcases Nat.lt_trichotomy n m with q | q | q
  · exact absurd e (nd n m (by omega) (by omega) q)
  · exact q
  · exact absurd e.symm (nd m n (by omega) (by omega) q)

def mkC (l n : Nat) : List Nat := List.replicate (l - 1) (CHS.cps.toList.getD 0 0) ++ [CHS.cps.toList.getD n 0]

def mkS (l n : Nat) : Str := if l = 0 then Str.empty else ⟨(mkC l n).toArray⟩

theorem mkS_len {l n : Nat} : (mkS l n).length = l := by
  unfold mkS
  split
  · rename_i h; rw [h]; rfl
  · show (mkC l n).toArray.size = l
    unfold mkC
    simp
    omega

theorem mkS_ok {l n : Nat} (hn : n < 94) (hl : l ≤ 100) : SOk (mkS l n) := by
  refine ⟨fun c hc => ?_, by rw [mkS_len]; exact hl⟩
  unfold mkS at hc
  split at hc
  · cases hc
  · have hc : c ∈ mkC l n := by simpa using hc
    rcases List.mem_append.mp hc with h | h
    · rw [(List.mem_replicate.mp h).2]; exact ch_ok (by omega)
    · rw [List.mem_singleton.mp h]; exact ch_ok hn

theorem mkS_inj {l n m : Nat} (hl : 0 < l) (hn : n < 94) (hm : m < 94) (e : mkS l n = mkS l m) : n = m := by
  unfold mkS at e
  rw [if_neg (by omega), if_neg (by omega)] at e
  have e2 : mkC l n = mkC l m := by
    have := congrArg (fun s : Str => s.cps.toList) e
    simpa using this
  unfold mkC at e2
  have := (List.append_inj' e2 rfl).2
  exact ch_inj hn hm (by simpa using this)

def mkL (l n : Nat) : List D := match l with
  | 0 => []
  | l + 1 => chD n :: List.replicate l (chD 0)

theorem mkL_len {l n : Nat} : (mkL l n).length = l := by
  cases l with
  | zero => rfl
  | succ l => show (chD n :: List.replicate l (chD 0)).length = _; simp

theorem mkL_succ {l n : Nat} (hl : 0 < l) : mkL l n ++ [chD 0] = mkL (l + 1) n := by
  obtain ⟨k, rfl⟩ : ∃ k, l = k + 1 := ⟨l - 1, by omega⟩
  show chD n :: List.replicate k (chD 0) ++ [chD 0] = chD n :: List.replicate (k + 1) (chD 0)
  rw [List.cons_append, ← List.replicate_succ']

theorem texts_map : ∀ cs : List Nat, texts (cs.map fun c => D.str ⟨#[c]⟩) = some (cs.map fun c => ⟨#[c]⟩)
  | [] => rfl
  | c :: cs => by simp [texts, texts_map cs]

theorem join_map (cs : List Nat) (hl : cs.length ≤ 1000) : joinL (Str.ofString "") (cs.map fun c => D.str ⟨#[c]⟩) = some (.str ⟨cs.toArray⟩) := by
  have e0 : (Str.ofString "" : Str) = Str.empty := by rfl
  have hs : ((cs.map fun c => (⟨#[c]⟩ : Str)).map (·.length)).sum = cs.length := by
    clear hl
    induction cs with
    | nil => rfl
    | cons c cs ih => rw [List.map_cons, List.map_cons, List.sum_cons, ih, List.length_cons]; show 1 + _ = _; omega
  unfold joinL
  rw [texts_map]
  dsimp only
  rw [if_pos (by rw [hs, e0]; show cs.length + _ * 0 ≤ _; omega)]
  unfold Txt.join
  rw [StrLaws.glued_eq_join, e0]
  have : (Str.join Str.empty (cs.map fun c => (⟨#[c]⟩ : Str))).cps.toList = cs := by
    rw [join_cps, List.map_map]
    clear hl hs
    induction cs with
    | nil => rfl
    | cons c cs ih => rw [List.map_cons, List.flatten_cons, ih]; rfl
  congr 2
  have e2 : (Str.join Str.empty (cs.map fun c => (⟨#[c]⟩ : Str))).cps = cs.toArray := by
    have q := congrArg List.toArray this
    rwa [Array.toArray_toList] at q
  cases h : Str.join Str.empty (cs.map fun c => (⟨#[c]⟩ : Str)) with
  | mk a => rw [h] at e2; simp at e2; rw [e2]

theorem join_mk {l n : Nat} (hl : l ≤ 900) : joinL (Str.ofString "") (mkL l n).reverse = some (.str (mkS l n)) := by
  cases l with
  | zero =>
    have := join_map [] (by decide)
    show joinL (Str.ofString "") [] = _
    exact this
  | succ l =>
    have e : (mkL (l + 1) n).reverse = (mkC (l + 1) n).map fun c => D.str ⟨#[c]⟩ := by
      show (chD n :: List.replicate l (chD 0)).reverse = _
      unfold mkC
      rw [List.reverse_cons, List.reverse_replicate, List.map_append, List.map_replicate]
      rfl
    rw [e, join_map _ (by unfold mkC; simp; omega)]
    unfold mkS
    rw [if_neg (by omega)]

theorem strof_ok {N : Nat} (hN : 1 ≤ N) {l n : Nat} (hl : l ≤ 100) (hn : n < 94) :
    wp (sem N .p_string_of) (fun d r' => d = (if l = 0 ∧ 0 < n then D.non else .str (mkS l n)) ∧ r' = [some (.d (.int l)), some (.d (.int n))]) [some (.d (.int l)), some (.d (.int n))] := by
  obtain ⟨N, rfl⟩ := lev (by omega) hN
  rw [sem_succ]
  refine w_body (by rfl) ?_
  delta b_p_string_of
  walk_at "go"
  refine w_line (by simp) ?_
  refine w_nxt (setO_ok (o := none) rfl trivial) ?_
  walk_at "e"; walk_at "go"
  refine o_rng (by omega) (by omega) ?_
  rw [Int.toNat_natCast]
  have nc : ((94 : Nat) : Int) = 94 := rfl
  refine w_for (fun i r => i ≤ l ∧ ∃ o : Option D, r = [some (.d (.int l)), some (.d (.int n)), some (.own false (mkL i n)), some (.d (.int (if i = 0 then (n : Int) else 0))), o.map S.d]) ⟨by omega, none, rfl⟩ ?_ ?_
  · rintro i d r hd ⟨hi, o, rfl⟩
    have hi2 : i < l := by
      have := (List.getElem?_eq_some_iff.mp hd).1
      rwa [rng_len] at this
    obtain ⟨_, rfl⟩ := rng_at hd
    refine ⟨_, setD_ok rfl (fre_map o), ?_⟩
    walk_at "e"; walk_at "go"
    generalize hk : (if i = 0 then (n : Int) else 0) = k
    obtain ⟨m, rfl, hm, hm0⟩ : ∃ m : Nat, k = m ∧ m < 94 ∧ (0 < i → m = 0) := by
      by_cases h0 : i = 0
      · exact ⟨n, by rw [← hk, if_pos h0], hn, fun z => by omega⟩
      · exact ⟨0, by rw [← hk, if_neg h0]; rfl, by omega, fun _ => rfl⟩
    have hlen : lenD [.str CHS] = some (.int 94) := by
      show (if CHS.length ≤ sizeLine then some (D.int CHS.length) else none) = _
      rw [CHS_len, if_pos (by decide)]; rfl
    refine w_of hlen ?_
    walk_at "go"
    have hmod : (m : Int).fmod 94 = (m : Int) := by rw [Int.fmod_eq_emod_of_nonneg _ (by decide)]; omega
    have hdiv : (m : Int).fdiv 94 = 0 := by rw [Int.fdiv_eq_ediv_of_nonneg _ (by decide)]; omega
    rw [hmod]
    refine w_of (ch_ix hm) ?_
    refine w_nxt (appN_ok rfl (by rw [mkL_len]; omega)) ?_
    walk_at "e"; walk_at "go"
    refine w_of hlen ?_
    walk_at "go"
    rw [hdiv]
    refine ⟨by omega, some (.int (0 + i)), ?_⟩
    have e1 : mkL i n ++ [chD m] = mkL (i + 1) n := by
      by_cases h0 : i = 0
      · subst h0
        have : m = n := by rw [if_pos rfl] at hk; omega
        subst this
        rfl
      · rw [hm0 (by omega)]; exact mkL_succ (by omega)
    rw [e1, if_neg (show ¬ i + 1 = 0 by omega)]
    rfl
  · rintro r ⟨_, o, rfl⟩
    rw [rng_len]
    walk_at "go"
    generalize hk : (if l = 0 then (n : Int) else 0) = k
    refine w_it (fun h => ?_) (fun h => ?_)
    · have h : k = 0 := by simpa using h
      walk_at "go"
      refine w_of (join_mk (by omega)) ?_
      walk_at "go"
      refine ⟨?_, rfl⟩
      rw [if_neg (fun q => ?_)]
      rw [if_pos q.1] at hk
      omega
    · have h : k ≠ 0 := by simpa using h
      walk_at "go"
      refine ⟨?_, rfl⟩
      by_cases h0 : l = 0
      · rw [if_pos h0] at hk
        rw [if_pos ⟨h0, by omega⟩]
      · rw [if_neg h0] at hk
        exact absurd hk.symm h
theorem few_of_nodup : ∀ {l ks : List Str}, l.Nodup → (∀ x ∈ l, x ∈ ks) → l.length ≤ ks.length
  | [], _, _, _ => Nat.zero_le _
  | x :: l, ks, n, h => by
    have hx := h x (List.mem_cons_self ..)
    have n2 := List.nodup_cons.mp n
    have := few_of_nodup (l := l) (ks := ks.erase x) n2.2 fun y hy => by
      have hne : y ≠ x := fun e => n2.1 (e ▸ hy)
      exact (List.mem_erase_of_ne hne).mpr (h y (List.mem_cons_of_mem _ hy))
    rw [List.length_erase_of_mem hx] at this
    have := List.length_pos_of_mem hx
    rw [List.length_cons]
    omega

theorem some_free {l : Nat} {ks : List Str} (hl : 0 < l) (hk : ks.length < 93) : ¬ ∀ j, j < ks.length + 1 → mkS l j ∈ ks := fun h => by
  have nd : ((List.range (ks.length + 1)).map (mkS l)).Nodup := by
    rw [List.Nodup, List.pairwise_map]
    refine List.Pairwise.imp_of_mem ?_ List.nodup_range
    intro a b ha hb hne e
    have ha := List.mem_range.mp ha
    have hb := List.mem_range.mp hb
    exact hne (mkS_inj hl (by omega) (by omega) e)
  have := few_of_nodup nd fun x hx => by
    obtain ⟨j, hj, rfl⟩ := List.mem_map.mp hx
    exact h j (List.mem_range.mp hj)
  rw [List.length_map, List.length_range] at this
  omega

theorem mkS_zero {n : Nat} : mkS 0 n = Str.empty := rfl

def hiD (H : Option Nat) : D := match H with
  | none => .non
  | some h => .int h

def PickR (low : Nat) (H : Option Nat) (ws : List Str) (d : D) : Prop :=
  (d = .non ∧ ∃ h, H = some h ∧ (h < low ∨ (h = 0 ∧ Str.empty ∈ ws))) ∨ ∃ x, d = .str x ∧ SOk x ∧ x ∉ ws ∧ low ≤ x.length ∧ ∀ h, H = some h → x.length ≤ h

def tst (H : Option Nat) (l : Nat) : Bool := match H with
  | none => true
  | some h => decide (l ≤ h)

theorem pick_ok {N : Nat} (hN : 3 ≤ N) {low : Nat} (hl : low ≤ 60) {H : Option Nat} {ds : List D} {ws : List Str} (ht : texts ds = some ws) (hn : ws.length ≤ 92) :
    wp (sem N .p_pick_text) (fun d r' => PickR low H ws d ∧ r' = [some (.d (.int low)), some (.d (hiD H)), some (.d (.lst ds))]) [some (.d (.int low)), some (.d (hiD H)), some (.d (.lst ds))] := by
  obtain ⟨N, rfl⟩ := lev (by omega) (show 1 ≤ N by omega)
  have hset : setOfD [.lst ds] = some (.st (dedS [] ws)) := by
    show setL ds = _
    unfold setL
    rw [ht]
    exact if_pos (by omega)
  have hmem : ∀ y, y ∈ dedS [] ws ↔ y ∈ ws := fun y => by rw [dedS_mem]; simp
  have hkl : (dedS [] ws).length ≤ 92 := by
    have := dedS_len ws []
    rw [List.length_nil] at this
    omega
  rw [sem_succ]
  refine w_body (by rfl) ?_
  delta b_p_pick_text
  walk_at "go"
  refine w_of hset ?_
  generalize dedS [] ws = ks at hmem hkl ⊢
  refine w_nxt rfl ?_
  walk_at "e"; walk_at "go"
  refine w_while (fun n r => ∃ (l : Nat) (o5 o6 : Option D), ((l = 0 ∧ low = 0 ∧ n = 1) ∨ (1 ≤ l ∧ n = 0 ∧ (l = low ∨ (l = 1 ∧ low = 0 ∧ Str.empty ∈ ws)))) ∧ r = [some (.d (.int low)), some (.d (hiD H)), some (.d (.lst ds)), some (.d (.st ks)), some (.d (.int l)), o5.map S.d, o6.map S.d])
    (n := if low = 0 then 1 else 0) ⟨low, none, none, ?_, rfl⟩ (by split <;> decide) ?_
  · by_cases h0 : low = 0
    · rw [if_pos h0]; exact .inl ⟨h0, h0, rfl⟩
    · rw [if_neg h0]; exact .inr ⟨by omega, rfl, .inl rfl⟩
  rintro n r ⟨l, o5, o6, hst, rfl⟩
  have hl61 : l ≤ 61 := by rcases hst with ⟨h, _⟩ | ⟨_, _, h | ⟨h, _⟩⟩ <;> omega
  have hlow : low ≤ l := by rcases hst with ⟨h, _⟩ | ⟨_, _, h | ⟨h, _⟩⟩ <;> omega
  refine w_mono (P := fun x r1 => x = tst H l ∧ r1 = [some (.d (.int low)), some (.d (hiD H)), some (.d (.lst ds)), some (.d (.st ks)), some (.d (.int l)), o5.map S.d, o6.map S.d]) ?_ ?_
  · cases H with
    | none =>
      rw [show hiD none = D.non from rfl]
      walk_at "gl"
      exact ⟨rfl, rfl⟩
    | some h =>
      rw [show hiD (some h) = D.int h from rfl]
      walk_at "gl"
      refine ⟨?_, rfl⟩
      show decide ((l : Int) ≤ (h : Int)) = decide (l ≤ h)
      exact decide_eq_decide.mpr (by omega)
  rintro _ _ ⟨rfl, rfl⟩
  cases ht2 : tst H l with
  | false =>
    rw [if_neg (by decide)]
    dsimp only
    walk_at "go"
    refine ⟨.inl ⟨rfl, ?_⟩, rfl⟩
    cases H with
    | none => cases ht2
    | some h =>
      have hh : ¬ l ≤ h := of_decide_eq_false ht2
      refine ⟨h, rfl, ?_⟩
      rcases hst with ⟨a, _⟩ | ⟨_, _, a | ⟨a, b, c⟩⟩
      · omega
      · left; omega
      · right; exact ⟨by omega, c⟩
  | true =>
    rw [if_pos rfl]
    have hH : ∀ h, H = some h → l ≤ h := fun h e => by
      subst e
      exact of_decide_eq_true ht2
    refine w_seq (w_mono (P := fun fl r' => (fl = .nx ∧ l = 0 ∧ Str.empty ∈ ws ∧ ∃ o5 o6 : Option D, r' = [some (.d (.int low)), some (.d (hiD H)), some (.d (.lst ds)), some (.d (.st ks)), some (.d (.int l)), o5.map S.d, o6.map S.d]) ∨ (∃ (x : Str) (o5 o6 : Option D), fl = .rt (.str x) ∧ SOk x ∧ x ∉ ws ∧ x.length = l ∧ r' = [some (.d (.int low)), some (.d (hiD H)), some (.d (.lst ds)), some (.d (.st ks)), some (.d (.int l)), o5.map S.d, o6.map S.d])) ?_ ?_)
    · walk_at "go"
      refine w_of (show lenS [.st ks] = some (.int ks.length) from rfl) ?_
      walk_at "go"
      refine o_rng (by omega) (by omega) ?_
      rw [show ((ks.length : Int) + 1).toNat = ks.length + 1 by omega]
      refine w_for (fun i r => (∀ j, j < i → mkS l j ∈ ks) ∧ ∃ o5 o6 : Option D, r = [some (.d (.int low)), some (.d (hiD H)), some (.d (.lst ds)), some (.d (.st ks)), some (.d (.int l)), o5.map S.d, o6.map S.d]) ⟨fun j h => by omega, o5, o6, rfl⟩ ?_ ?_
      · rintro i d r hd ⟨hall, o5, o6, rfl⟩
        have hi2 : i < ks.length + 1 := by
          have := (List.getElem?_eq_some_iff.mp hd).1
          rwa [rng_len] at this
        obtain ⟨_, rfl⟩ := rng_at hd
        rw [Int.zero_add]
        refine ⟨_, setD_ok rfl (fre_map o5), ?_⟩
        walk_at "e"; walk_at "go"
        refine w_cl rfl rfl nd0 (strof_ok (by omega) (by omega) (by omega)) ?_
        rintro _ _ ⟨rfl, rfl⟩
        refine w_nxt (setD_ok rfl (fre_map o6)) ?_
        walk_at "e"
        by_cases hq : l = 0 ∧ 0 < i
        · rw [if_pos hq]
          walk_at "gl"
          refine ⟨.bk, _, rfl, ?_⟩
          refine .inl ⟨rfl, hq.1, (hmem _).mp ?_, some (.int i), some .non, rfl⟩
          have := hall 0 hq.2
          rw [hq.1, mkS_zero] at this
          exact this
        · rw [if_neg hq]
          have hsx := mkS_ok (l := l) (n := i) (by omega) (by omega)
          have hsl := mkS_len (l := l) (n := i)
          generalize hx : mkS l i = x at hsx hsl ⊢
          walk_at "gl"
          refine w_of (show notInSt (.str x) (.st ks) = some (.bl (!decide (x ∈ ks))) from rfl) ?_
          by_cases hin : x ∈ ks
          · rw [decide_eq_true hin]
            walk_at "gl"
            refine ⟨fun j hj => ?_, some (.int i), some (.str x), rfl⟩
            by_cases e : j = i
            · rw [e, hx]; exact hin
            · exact hall j (by omega)
          · rw [decide_eq_false hin]
            walk_at "gl"
            exact .inr ⟨x, some (.int i), some (.str x), rfl, hsx, fun z => hin ((hmem _).mpr z), hsl, rfl⟩
      · rintro r ⟨hall, o5, o6, rfl⟩
        rw [rng_len] at hall
        by_cases h0 : l = 0
        · have := hall 0 (by omega)
          rw [h0, mkS_zero] at this
          exact .inl ⟨rfl, h0, (hmem _).mp this, o5, o6, rfl⟩
        · exact absurd hall (some_free (by omega) (by omega))
    · rintro fl r' (⟨rfl, h0, he, o5, o6, rfl⟩ | ⟨x, o5, o6, rfl, hsx, hnx, hxl, rfl⟩)
      · dsimp only
        refine ⟨.nx, _, rfl, ?_⟩
        rcases hst with ⟨_, hl0, rfl⟩ | ⟨q, _⟩
        · exact ⟨0, by decide, 1, o5, o6, .inr ⟨by omega, rfl, .inr ⟨rfl, hl0, he⟩⟩, by rw [h0]; rfl⟩
        · omega
      · dsimp only
        exact ⟨.inr ⟨x, rfl, hsx, hnx, by omega, fun h e => by have := hH h e; omega⟩, rfl⟩
abbrev DEPTH : Nat := 20

theorem between44 {N : Nat} (hN : 1 ≤ N) {c low : Nat} {H : Option Nat} (h1 : low ≤ c) (h2 : ∀ h, H = some h → c ≤ h) :
    wp (sem N .l_between) (fun d r' => d = .bl true ∧ r' = [some (.d (.int c)), some (.d (.int low)), some (.d (hiD H))]) [some (.d (.int c)), some (.d (.int low)), some (.d (hiD H))] := by
  obtain ⟨N, rfl⟩ := lev (by omega) hN
  rw [sem_succ]
  refine w_body (by rfl) ?_
  delta b_l_between
  cases H with
  | none =>
    rw [show hiD none = D.non from rfl]
    walk_at "gl"
    refine w_itD (fun h => ?_) (fun h => ?_)
    · walk_at "gl"
      exact ⟨rfl, rfl⟩
    · omega
  | some h =>
    have := h2 h rfl
    rw [show hiD (some h) = D.int h from rfl]
    walk_at "gl"
    refine w_itD (fun h => ?_) (fun h => ?_)
    · walk_at "gl"
      refine ⟨?_, rfl⟩
      rw [decide_eq_true (by omega)]
    · omega

theorem cut_cell {ns : List Int} (hbig : ∀ z ∈ ns, Big z) (lo hi : Option Int) : ∀ d ∈ Pk.cutD (ns.map D.int) lo hi, ∃ z, d = .int z ∧ Big z := fun d hd => by
  obtain ⟨z, hz, rfl⟩ := List.mem_map.mp (cut_mem hd)
  exact ⟨z, rfl, hbig z hz⟩

theorem cut_few {ns : List Int} (hl : ns.length ≤ 63) (lo hi : Option Int) : (Pk.cutD (ns.map D.int) lo hi).length ≤ 63 := by
  have := cut_len (ns.map D.int) lo hi
  rw [List.length_map] at this
  omega

theorem fre_own (x : Option (List D)) : Fre (x.map (S.own false)) := by cases x <;> trivial

theorem nat_mod (z : Int) {m : Int} (hm : 0 < m) : ∃ l : Nat, z.fmod m = l ∧ (l : Int) < m := by
  obtain ⟨h1, h2⟩ := fmod_lt (a := z) hm
  exact ⟨(z.fmod m).toNat, by omega, by omega⟩

abbrev CH2 : Str := Str.ofString " !#&'()*+,-./0123456789:;<=>?@ABCDEFGHIJKLMNOPQRSTUVWXYZ[]^_abcdefghijklmnopqrstuvwxyz{|}~"

theorem CH2_ok : ∀ c ∈ CH2.cps.toList, COk c := by decide +kernel

theorem CH2_len : CH2.length = 90 := by decide +kernel

theorem slCH (f g : Int) : slD (.str CH2) (some f) (some g) = some (.str (cutS CH2 (some f) (some g))) := by
  show (if CH2.length ≤ sizeLine then some (D.str (cutS CH2 (some f) (some g))) else none) = _
  rw [if_pos (by rw [CH2_len]; decide)]

theorem cut_ch2 (lo hi : Option Int) : (∀ c ∈ (cutS CH2 lo hi).cps.toList, COk c) ∧ (cutS CH2 lo hi).length ≤ 90 := by
  refine ⟨fun c hc => CH2_ok c ?_, Nat.le_trans (cutS_length CH2 lo hi) (Nat.le_of_eq CH2_len)⟩
  exact List.mem_of_mem_drop (List.mem_of_mem_take hc)
 local macro_rules | `(tactic| walk_at "ee") => `(tactic| refine w_env (r' := [_, _, _, _, _, _, _, _, _, _, _, _]) rfl ?_)

theorem says : Says DEPTH := by
  intro ns hl hb
  have hbig : ∀ z ∈ ns, Big z := fun z hz => Big.of_bits (hb z hz)
  have main : wp (sem DEPTH .law0) (fun d _ => d = .bl true) [some (.d (.ro (ns.map D.int)))] := by
    unfold DEPTH
    rw [sem_succ]
    refine w_body (by rfl) ?_
    delta b_law0
    refine w_seq (w_mono (P := fun fl r' => fl = .nx ∧ ∃ l : Nat, l ≤ 60 ∧ r' = [some (.d (.ro (ns.map D.int))), some (.d (.int l)), none, none, none, none, none, none, none, none, none, none]) ?_ ?_)
    · walk_at "go"
      refine w_cl rfl rfl nd0 (cell_ok (by decide) ns hbig 0) ?_
      rintro _ _ ⟨⟨z, rfl, hz⟩, rfl⟩
      walk_at "ee"; walk_at "go"
      obtain ⟨l, e, h⟩ := nat_mod z (m := 4) (by decide)
      rw [e]
      exact ⟨rfl, l, by omega, rfl⟩
    rintro _ _ ⟨rfl, l0, hl0, rfl⟩
    dsimp only
    refine w_seq (w_mono (P := fun fl r' => fl = .nx ∧ ∃ h : Nat, r' = [some (.d (.ro (ns.map D.int))), some (.d (.int l0)), some (.d (hiD (some h))), none, none, none, none, none, none, none, none, none]) ?_ ?_)
    · walk_at "go"
      refine w_cl rfl rfl nd0 (cell_ok (by decide) ns hbig 1) ?_
      rintro _ _ ⟨⟨z, rfl, hz⟩, rfl⟩
      walk_at "ee"; walk_at "go"
      obtain ⟨l, e, h⟩ := nat_mod z (m := 5) (by decide)
      rw [e]
      generalize hm : (if (l0 : Int) + (l : Int) - 1 > 0 then (l0 : Int) + (l : Int) - 1 else 0) = m
      have hm0 : 0 ≤ m := by rw [← hm]; split <;> omega
      obtain ⟨k, rfl⟩ : ∃ k : Nat, m = k := ⟨m.toNat, by omega⟩
      exact ⟨rfl, k, rfl⟩
    rintro _ _ ⟨rfl, h0, rfl⟩
    dsimp only
    refine w_seq (w_mono (P := fun fl r' => fl = .nx ∧ ∃ l : Nat, l ≤ 60 ∧ r' = [some (.d (.ro (ns.map D.int))), some (.d (.int l)), some (.d (hiD (some h0))), none, none, none, none, none, none, none, none, none]) ?_ ?_)
    · walk_at "go"
      refine w_cl rfl rfl nd0 (cell_ok (by decide) ns hbig 0) ?_
      rintro _ _ ⟨⟨z, rfl, hz⟩, rfl⟩
      walk_at "ee"; walk_at "go"
      refine w_it (fun h => ?_) (fun h => ?_)
      · walk_at "go"
        refine w_cl rfl rfl nd0 (cell_ok (by decide) ns hbig 0) ?_
        rintro _ _ ⟨⟨z, rfl, hz⟩, rfl⟩
        walk_at "ee"; walk_at "go"
        obtain ⟨l, e, h⟩ := nat_mod (z.fdiv 16) (m := 61) (by decide)
        rw [e]
        exact ⟨rfl, l, by omega, rfl⟩
      · exact w_nil ⟨rfl, l0, hl0, rfl⟩
    rintro _ _ ⟨rfl, l, hl60, rfl⟩
    dsimp only
    refine w_seq (w_mono (P := fun fl r' => fl = .nx ∧ ∃ h : Nat, r' = [some (.d (.ro (ns.map D.int))), some (.d (.int l)), some (.d (hiD (some h))), none, none, none, none, none, none, none, none, none]) ?_ ?_)
    · walk_at "go"
      refine w_cl rfl rfl nd0 (cell_ok (by decide) ns hbig 1) ?_
      rintro _ _ ⟨⟨z, rfl, hz⟩, rfl⟩
      walk_at "ee"; walk_at "go"
      refine w_it (fun h => ?_) (fun h => ?_)
      · walk_at "go"
        refine w_cl rfl rfl nd0 (cell_ok (by decide) ns hbig 1) ?_
        rintro _ _ ⟨⟨z, rfl, hz⟩, rfl⟩
        walk_at "ee"; walk_at "go"
        obtain ⟨k, e, h⟩ := nat_mod (z.fdiv 20) (m := 61) (by decide)
        rw [e]
        exact ⟨rfl, k, rfl⟩
      · exact w_nil ⟨rfl, h0, rfl⟩
    rintro _ _ ⟨rfl, h1, rfl⟩
    dsimp only
    refine w_seq (w_mono (P := fun fl r' => fl = .nx ∧ ∃ H : Option Nat, r' = [some (.d (.ro (ns.map D.int))), some (.d (.int l)), some (.d (hiD H)), none, none, none, none, none, none, none, none, none]) ?_ ?_)
    · walk_at "go"
      refine w_cl rfl rfl nd0 (cell_ok (by decide) ns hbig 1) ?_
      rintro _ _ ⟨⟨z, rfl, hz⟩, rfl⟩
      walk_at "ee"; walk_at "go"
      refine w_it (fun h => ?_) (fun h => ?_)
      · walk_at "go"
        exact ⟨rfl, none, rfl⟩
      · exact w_nil ⟨rfl, some h1, rfl⟩
    rintro _ _ ⟨rfl, H, rfl⟩
    dsimp only
    walk_at "go"
    refine w_line (by simp) ?_
    refine w_nxt (setO_ok (o := none) rfl trivial) ?_
    walk_at "ee"
    refine w_seq (w_mono (P := fun fl r' => fl = .nx ∧ ∃ (ws : List Str) (o4 : Option D) (o5 : Option (List D)), (∀ w ∈ ws, SOk w) ∧ ws.length ≤ 63 ∧ r' = [some (.d (.ro (ns.map D.int))), some (.d (.int l)), some (.d (hiD H)), some (.own false (ws.map D.str)), o4.map S.d, o5.map (S.own false), none, none, none, none, none, none]) ?_ ?_)
    · walk_at "go"
      refine w_of (show slD (.ro (ns.map D.int)) (some 3) (some 63) = some (.lst (Pk.cutD (ns.map D.int) (some 3) (some 63))) from rfl) ?_
      walk_at "go"
      have hcc := cut_cell hbig (some 3) (some 63)
      have hcf := cut_few hl (some 3) (some 63)
      generalize Pk.cutD (ns.map D.int) (some 3) (some 63) = cells at hcc hcf ⊢
      refine w_for (fun i r => i ≤ 63 ∧ ∃ (ws : List Str) (o4 : Option D) (o5 : Option (List D)), (∀ w ∈ ws, SOk w) ∧ ws.length = i ∧ r = [some (.d (.ro (ns.map D.int))), some (.d (.int l)), some (.d (hiD H)), some (.own false (ws.map D.str)), o4.map S.d, o5.map (S.own false), none, none, none, none, none, none]) ⟨by omega, [], none, none, by simp, rfl, rfl⟩ ?_ ?_
      · rintro i d r hd ⟨hi, ws, o4, o5, hws, hwl, rfl⟩
        have hi2 : i < cells.length := (List.getElem?_eq_some_iff.mp hd).1
        obtain ⟨z, rfl, hz⟩ := hcc d (List.mem_of_getElem? hd)
        refine ⟨_, setD_ok rfl (fre_map o4), ?_⟩
        walk_at "ee"; walk_at "go"
        refine w_callN rfl nd0 rfl (w_mono (source_ok (by decide) z hz) ?_)
        rintro dsv r' ⟨hsv, rfl⟩
        refine w_nxt (setO_ok rfl (fre_own o5)) ?_
        walk_at "ee"; walk_at "go"
        refine w_lc ?_
        walk_at "go"
        refine w_cl rfl rfl nd1 (draw_ok (by decide) 0 dsv hsv (by decide) 4 (by decide) (by decide)) ?_
        rintro _ _ ⟨y, ds1, rfl, y0, y1, hs1, rfl⟩
        walk_at "ee"; walk_at "go"
        refine o_rng y0 (by omega) ⟨rfl, ?_⟩
        refine w_compR One (fun j r => ∃ ds', Src (1 + j) ds' ∧ r = [some (.d (.ro (ns.map D.int))), some (.d (.int l)), some (.d (hiD H)), some (.own false (ws.map D.str)), some (.d (.int z)), some (.own false ds'), none, none, none, none, none, none]) ⟨ds1, hs1.le (by omega) (by omega), rfl⟩ (by omega) ?_ ?_
        · rintro j r hj ⟨ds', hs', rfl⟩
          refine ⟨_, rfl, ?_⟩
          walk_at "go"
          refine w_cl rfl rfl nd1 (char_ok (by decide) (1 + j) ds' hs' (by omega)) ?_
          rintro d _ ⟨hd', ds5, hs5, rfl⟩
          exact ⟨hd', ds5, hs5.le (by omega) (by omega), rfl⟩
        rintro acc r ho hal ⟨ds3, hs3, rfl⟩
        obtain ⟨x, ex, hx, hxl⟩ := join_one ho (by omega)
        walk_at "go"
        refine w_of ex ?_
        refine w_nxt (appN_ok rfl (by rw [List.length_map]; omega)) ?_
        refine ⟨by omega, ws ++ [x], some (.int z), some ds3, fun w h => ?_, by rw [List.length_append, List.length_singleton]; omega, by rw [List.map_append]; rfl⟩
        rcases List.mem_append.mp h with h | h
        · exact hws w h
        · obtain rfl := List.mem_singleton.mp h; exact hx
      · rintro r ⟨_, ws, o4, o5, hws, hwl, rfl⟩
        exact ⟨rfl, ws, o4, o5, hws, by omega, rfl⟩
    rintro _ _ ⟨rfl, ws0, o4, o5, hws0, hwl0, rfl⟩
    dsimp only
    refine w_seq (w_mono (P := fun fl r' => fl = .nx ∧ ∃ (ws : List Str) (o7 o8 : Option D), (∀ w ∈ ws, SOk w) ∧ ws.length ≤ 92 ∧ r' = [some (.d (.ro (ns.map D.int))), some (.d (.int l)), some (.d (hiD H)), some (.own false (ws.map D.str)), o4.map S.d, o5.map (S.own false), none, o7.map S.d, o8.map S.d, none, none, none]) ?_ ?_)
    · walk_at "go"
      refine w_cl rfl rfl nd0 (cell_ok (by decide) ns hbig 2) ?_
      rintro _ _ ⟨⟨z, rfl, hz⟩, rfl⟩
      walk_at "ee"; walk_at "go"
      refine w_it (fun h => ?_) (fun h => ?_)
      · walk_at "go"
        refine w_cl rfl rfl nd0 (cell_ok (by decide) ns hbig 2) ?_
        rintro _ _ ⟨⟨z, rfl, hz⟩, rfl⟩
        walk_at "ee"; walk_at "go"
        obtain ⟨f, e, hf⟩ := nat_mod (z.fdiv 3) (m := 24) (by decide)
        rw [e]
        walk_at "ee"; walk_at "go"
        walk_at "go"
        refine w_lc ?_
        walk_at "go"
        refine w_of (show slD (.str CH2) (some (f : Int)) (some ((f : Int) + 70)) = some (.str (cutS CH2 (some (f : Int)) (some ((f : Int) + 70)))) from slCH _ _) ?_
        have hm := cut_ch2 (some (f : Int)) (some ((f : Int) + 70))
        generalize cutS CH2 (some (f : Int)) (some ((f : Int) + 70)) = t at hm ⊢
        walk_at "go"
        refine w_of (show seqOf (.str t) = some (t.cps.toList.map fun c => .str ⟨#[c]⟩) from rfl) ?_
        refine ⟨rfl, ?_⟩
        have tl : t.cps.toList.length ≤ 90 := by rw [Array.length_toList]; exact hm.2
        refine w_compM (fun d => d) (by rw [List.length_map]; omega) (fun d hd => ⟨_, rfl, ?_⟩) ?_
        · walk_at "go"
          exact ⟨rfl, rfl⟩
        rw [List.map_id']
        refine w_of (show catF (.lst [.str (Str.ofString "")]) (.lst (t.cps.toList.map fun c => .str ⟨#[c]⟩)) = some ([.str (Str.ofString "")] ++ t.cps.toList.map fun c => .str ⟨#[c]⟩) from if_pos (by rw [List.length_map, List.length_singleton]; exact Nat.le_trans (show _ ≤ 91 by omega) (by decide))) ?_
        refine w_nxt (setO_ok rfl trivial) ?_
        refine ⟨rfl, Str.ofString "" :: t.cps.toList.map fun c => ⟨#[c]⟩, some (.int f), some (.str CH2), fun w hw => ?_, by rw [List.length_cons, List.length_map]; omega, by rw [List.map_cons, List.map_map]; rfl⟩
        rcases List.mem_cons.mp hw with rfl | hw
        · exact sok_by (by decide +kernel)
        · obtain ⟨c, hc, rfl⟩ := List.mem_map.mp hw
          exact ⟨fun c' h' => by obtain rfl : c' = c := by simpa using h'
                                 exact hm.1 _ hc, (show 1 ≤ 100 by decide)⟩
      · exact w_nil ⟨rfl, ws0, none, none, hws0, by omega, rfl⟩
    rintro _ _ ⟨rfl, ws, o7, o8, hws, hwl, rfl⟩
    dsimp only
    have hso : ∀ w ∈ ws, PyData.strOk w = true := fun w h => (hws w h).str
    walk_at "go"
    walk_at "ee"; walk_at "go"
    refine w_cl rfl rfl nd0 (pick_ok (by decide) hl60 (texts_strs ws) hwl) ?_
    rintro d _ ⟨hd, rfl⟩
    walk_at "ee"; walk_at "gl"
    refine w_of ((strs_pyb hso).ne (by decide)) ?_
    walk_at "gl"
    have e0 : PyData.strOk (Str.ofString "") = true := by decide +kernel
    have ee : (Str.ofString "" : Str) = Str.empty := by rfl
    rcases hd with ⟨rfl, h, rfl, hc⟩ | ⟨x, rfl, hx, hnx, h1, h2⟩
    · rw [show hiD (some h) = D.int h from rfl]
      walk_at "gl"
      refine p_it (fun q => ?_) (fun q => ?_)
      · refine w_itT ?_
        walk_at "gl"
        exact rfl
      · have q : ¬ h < l := fun z => by
          have := of_decide_eq_false q
          omega
        have hc : h = 0 ∧ Str.empty ∈ ws := hc.resolve_left q
        obtain ⟨rfl, hm⟩ := hc
        walk_at "gl"
        refine w_of (in_ws e0 hso) ?_
        rw [ee, decide_eq_true hm]
        walk_at "gl"
        exact rfl
    · have lenx : lenD [.str x] = some (.int (x.length : Nat)) := if_pos (Nat.le_trans hx.2 (by decide))
      cases H with
      | none =>
        rw [show hiD none = D.non from rfl]
        walk_at "gl"
        walk_at "ee"; walk_at "gl"
        refine w_cl rfl rfl nd0 (isstr_ok (by decide) x hx) ?_
        rintro _ _ ⟨rfl, rfl⟩
        walk_at "gl"
        refine w_of (show lenD [.str x] = some (.int (x.length : Nat)) from lenx) ?_
        walk_at "gl"
        refine w_cl rfl rfl nd0 (between44 (H := none) (by decide) h1 h2) ?_
        rintro _ _ ⟨rfl, rfl⟩
        walk_at "gl"
        refine w_of (notin_ws hx.str hso) ?_
        rw [decide_eq_false hnx]
        exact rfl
      | some h =>
        have hxh := h2 h rfl
        rw [show hiD (some h) = D.int h from rfl]
        walk_at "gl"
        refine p_it (fun q => ?_) (fun q => ?_)
        · have := of_decide_eq_true q
          omega
        walk_at "gl"
        refine p_it (fun q => ?_) (fun q => ?_)
        · have h0 : h = 0 := by
            have := of_decide_eq_true q
            omega
          have xe : x = Str.empty := by
            have : x.length = 0 := by omega
            obtain ⟨⟨l⟩⟩ := x
            have : l.length = 0 := this
            obtain rfl := List.eq_nil_of_length_eq_zero this
            rfl
          walk_at "gl"
          refine w_of (in_ws e0 hso) ?_
          rw [ee, ← xe, decide_eq_false hnx]
          walk_at "gl"
          walk_at "ee"; walk_at "gl"
          refine w_cl rfl rfl nd0 (isstr_ok (by decide) x hx) ?_
          rintro _ _ ⟨rfl, rfl⟩
          walk_at "gl"
          refine w_of (show lenD [.str x] = some (.int (x.length : Nat)) from lenx) ?_
          walk_at "gl"
          refine w_cl rfl rfl nd0 (between44 (H := some h) (by decide) h1 h2) ?_
          rintro _ _ ⟨rfl, rfl⟩
          walk_at "gl"
          refine w_of (notin_ws hx.str hso) ?_
          rw [decide_eq_false hnx]
          exact rfl
        · walk_at "gl"
          walk_at "ee"; walk_at "gl"
          refine w_cl rfl rfl nd0 (isstr_ok (by decide) x hx) ?_
          rintro _ _ ⟨rfl, rfl⟩
          walk_at "gl"
          refine w_of (show lenD [.str x] = some (.int (x.length : Nat)) from lenx) ?_
          walk_at "gl"
          refine w_cl rfl rfl nd0 (between44 (H := some h) (by decide) h1 h2) ?_
          rintro _ _ ⟨rfl, rfl⟩
          walk_at "gl"
          refine w_of (notin_ws hx.str hso) ?_
          rw [decide_eq_false hnx]
          exact rfl
  obtain ⟨d, rr, e, rfl⟩ := main
  exact ⟨rr, e⟩
end Row

open PySem PySem.W PyProof.Rows
set_option maxRecDepth 100000 in
set_option maxHeartbeats 0 in
theorem PySem.Challenge.cw_patchkept_k44_pick_text_holds : PySem.Challenge.rw_patchkept_k44_pick_text.Holds := by
  w_on; o_law; k_head; (case hw => w_witness2)
  k_fill
  refine Row.walk (l := PySem.Challenge.rw_patchkept_k44_pick_text) (N := Row.DEPTH) ⟨rfl, by decide, by decide⟩ Row.says rfl rfl (fun w h Y => by first | exact PySem.W.kIn_of Y | exact PySem.W.km_in_of Y) ?F
  case F =>
    intro w mg fa h KX G hmg
    refine' Row.top_mk KX G hmg
      (Row.ff_p_string_of KX G ?a0 ?l0 ?c0 ?k0)
      (Row.ff_p_pick_text KX G ?a1 ?l1 ?c1 ?k1)
      (Row.ff_l_between KX G ?a2 ?l2 ?c2 ?k2)
      (Row.ff_l_is_string KX G ?a3 ?l3 ?c3 ?k3)
      (Row.ff_l_cell KX G ?a4 ?l4 ?c4 ?k4)
      (Row.ff_l_source KX G ?a5 ?l5 ?c5 ?k5)
      (Row.ff_l_draw KX G ?a6 ?l6 ?c6 ?k6)
      (Row.ff_l_char KX G ?a7 ?l7 ?c7 ?k7)
      (Row.ff_law0 KX G ?a8 ?l8 ?c8 ?k8)
      (fun s u => .of_eq rfl) ?z_all ?z_int ?z_isinstance ?z_len ?z_list ?z_max ?z_ord ?z_range ?z_reversed ?z_set ?z_str ?gv_CHARACTERS
    (case a0 => k_is); (case l0 => k_is); (case c0 => k_is); (case k0 => k_is)
    (case a1 => k_is); (case l1 => k_is); (case c1 => k_is); (case k1 => k_is)
    (case a2 => k_is); (case l2 => k_is); (case c2 => k_is); (case k2 => k_is)
    (case a3 => k_is); (case l3 => k_is); (case c3 => k_is); (case k3 => k_is)
    (case a4 => k_is); (case l4 => k_is); (case c4 => k_is); (case k4 => k_is)
    (case a5 => k_is); (case l5 => k_is); (case c5 => k_is); (case k5 => k_is)
    (case a6 => k_is); (case l6 => k_is); (case c6 => k_is); (case k6 => k_is)
    (case a7 => k_is); (case l7 => k_is); (case c7 => k_is); (case k7 => k_is)
    (case a8 => k_is); (case l8 => k_is); (case c8 => k_is); (case k8 => k_is)
    (case z_all => k_is)
    (case z_int => k_is)
    (case z_isinstance => k_is)
    (case z_len => k_is)
    (case z_list => k_is)
    (case z_max => k_is)
    (case z_ord => k_is)
    (case z_range => k_is)
    (case z_reversed => k_is)
    (case z_set => k_is)
    (case z_str => k_is)
    (case gv_CHARACTERS => refine' Pk.gv_str KX G ?ga; (case ga => k_is))
