import PyProof.Rows.All
import Wide.All
import OpenK.AllK
import Wide.FinOn
import PySem.Challenge.RW_livenames_k02_terms_refused
import HandS.ForMost
import HandS.Exc
import HandS.ExcOwn
import HandS.WordsExc
import HandS.TryOnly
import HandS.Flow
import HandS.Style
import HandS.IsInst
import HandS.Lambda
import HandS.Star
import HandS.TupAny
import HandS.Wide
import HandS.Deep
import HandS.TupLe
import HandS.SlotsOwn
import HandS.More
import HandS.StrMore
import HandS.Text
import HandS.ExcInit
import HandS.EndOwn
import HandS.TupSets
import HandS.Strs
import KE.SortData
import KE.SortKeyHeap
import HandS.SortInts
import HandS.WideBits
import HandS.Small
import HandS.Defaults
import PyProof.WalkInts
import HandS.GenList
import HandS.TryMany
import KE.KExcIs
import HandS.ExcIs
set_option Elab.async false
set_option linter.all false
section
set_option maxRecDepth 100000
set_option maxHeartbeats 4000000
set_option autoImplicit false
namespace L2.Lv
open PySem PySem.Spec PyProof.Rows

/-! ### values, objects, outcomes of the plain machine -/
inductive D where
  | non | bl (b : Bool) | int (i : Int) | str (s : List Nat) | tup (xs : List D) | ref (n : Nat)
inductive Ob where
  | lst (xs : List D) | frz (xs : List D) | ins (c : Nat) (fs : List (Nat × D)) | dk (kvs : List (Sum Int (List Nat) × D)) | fdk (kvs : List (Sum Int (List Nat) × D))
abbrev Hm := List Ob
abbrev En := List (Option D)
inductive Re (α : Type) where
  | ok (a : α) (h : Hm) | ex (c : Nat) (v : D) (h : Hm) | no
def Re.bind {α β : Type} (r : Re α) (k : α → Hm → Re β) : Re β := match r with
  | .ok a h => k a h
  | .ex c v h => .ex c v h
  | .no => .no
inductive Rs where
  | nx (e : En) (h : Hm) | rt (d : D) (h : Hm) | bk (e : En) (h : Hm) | ct (e : En) (h : Hm) | ex (c : Nat) (v : D) (e : En) (h : Hm) | no
/-- the written things: classes' addresses, fields' names, an error class's field -/
structure Gx where
  K : PySem.W.Frag
  ga : Nat → Addr
  fn : List Str
  xf : Nat → Str
  T : List (Addr × Str)

/-! ### what stands for what -/
mutual
inductive Rep (G : Gx) (r : List Addr) (H : Hp) : D → V → Prop
  | non : Rep G r H .non .non
  | bl (b : Bool) : Rep G r H (.bl b) (.bl b)
  | int (i : Int) : Rep G r H (.int i) (.int i)
  | str (s : List Nat) : Rep G r H (.str s) (.str ⟨s.toArray⟩)
  | tup {a : Addr} {vs : List V} {ds : List D} : SqT G.K H a vs → Reps G r H ds vs → Rep G r H (.tup ds) (.ref a)
  | ref {n : Nat} {a : Addr} : r[n]? = some a → Rep G r H (.ref n) (.ref a)
inductive Reps (G : Gx) (r : List Addr) (H : Hp) : List D → List V → Prop
  | nil : Reps G r H [] []
  | cons {d : D} {v : V} {ds : List D} {vs : List V} : Rep G r H d v → Reps G r H ds vs → Reps G r H (d :: ds) (v :: vs)
end
structure Gr (G : Gx) (r : List Addr) (H : Hp) (r' : List Addr) (H' : Hp) : Prop where
  pre : ∀ (n : Nat) (a : Addr), r[n]? = some a → r'[n]? = some a
  tup : ∀ a xs, SqT G.K H a xs → SqT G.K H' a xs
  frz : ∀ a p u, H a = some (.frz p u) → H' a = some (.frz p u)
section
variable {G : Gx} {r r' r2 : List Addr} {H H' H2 : Hp}
theorem Gr.refl : Gr G r H r H := ⟨fun _ _ h => h, fun _ _ h => h, fun _ _ _ h => h⟩
theorem Gr.trans (a : Gr G r H r' H') (b : Gr G r' H' r2 H2) : Gr G r H r2 H2 := ⟨fun n c h => b.pre n c (a.pre n c h), fun c xs h => b.tup c xs (a.tup c xs h), fun c p u h => b.frz c p u (a.frz c p u h)⟩
mutual
theorem Rep.mono (g : Gr G r H r' H') : ∀ {d : D} {v : V}, Rep G r H d v → Rep G r' H' d v
  | _, _, .non => .non
  | _, _, .bl b => .bl b
  | _, _, .int i => .int i
  | _, _, .str s => .str s
  | _, _, .tup h t => .tup (g.tup _ _ h) (Reps.mono g t)
  | _, _, .ref h => .ref (g.pre _ _ h)
theorem Reps.mono (g : Gr G r H r' H') : ∀ {ds : List D} {vs : List V}, Reps G r H ds vs → Reps G r' H' ds vs
  | _, _, .nil => .nil
  | _, _, .cons h t => .cons (Rep.mono g h) (Reps.mono g t)
end
theorem Reps.length : ∀ {ds : List D} {vs : List V}, Reps G r H ds vs → ds.length = vs.length
  | _, _, .nil => rfl
  | _, _, .cons _ t => congrArg (· + 1) (Reps.length t)
theorem Reps.get : ∀ {ds : List D} {vs : List V} {i : Nat} {d : D}, Reps G r H ds vs → ds[i]? = some d → ∃ v, vs[i]? = some v ∧ Rep G r H d v
  | _, _, _, _, .nil, e => by simp at e
  | _, _, 0, _, .cons h _, e => by simp at e; subst e; exact ⟨_, rfl, h⟩
  | _, _, i + 1, _, .cons _ t, e => by
    obtain ⟨v, h1, h2⟩ := Reps.get (i := i) t (by simpa using e)
    exact ⟨v, by simpa using h1, h2⟩
theorem Reps.get' : ∀ {ds : List D} {vs : List V} {i : Nat} {v : V}, Reps G r H ds vs → vs[i]? = some v → ∃ d, ds[i]? = some d ∧ Rep G r H d v
  | _, _, _, _, .nil, e => by simp at e
  | _, _, 0, _, .cons h _, e => by simp at e; subst e; exact ⟨_, rfl, h⟩
  | _, _, i + 1, _, .cons _ t, e => by
    obtain ⟨v, h1, h2⟩ := Reps.get' (i := i) t (by simpa using e)
    exact ⟨v, by simpa using h1, h2⟩
theorem Reps.append : ∀ {ds es : List D} {vs ws : List V}, Reps G r H ds vs → Reps G r H es ws → Reps G r H (ds ++ es) (vs ++ ws)
  | _, _, _, _, .nil, s => s
  | _, _, _, _, .cons h t, s => .cons h (Reps.append t s)
theorem Reps.set {d : D} {v : V} (h : Rep G r H d v) : ∀ {ds : List D} {vs : List V} (i : Nat), Reps G r H ds vs → Reps G r H (ds.set i d) (vs.set i v)
  | _, _, _, .nil => .nil
  | _, _, 0, .cons _ t => .cons h t
  | _, _, i + 1, .cons q t => .cons q (Reps.set h i t)
theorem Reps.take : ∀ {ds : List D} {vs : List V} (n : Nat), Reps G r H ds vs → Reps G r H (ds.take n) (vs.take n)
  | _, _, 0, _ => .nil
  | _, _, _ + 1, .nil => .nil
  | _, _, n + 1, .cons q t => .cons q (Reps.take n t)
theorem Reps.drop : ∀ {ds : List D} {vs : List V} (n : Nat), Reps G r H ds vs → Reps G r H (ds.drop n) (vs.drop n)
  | _, _, 0, h => h
  | _, _, _ + 1, .nil => .nil
  | _, _, n + 1, .cons _ t => Reps.drop n t
theorem Reps.reverse {ds : List D} {vs : List V} (h : Reps G r H ds vs) : Reps G r H ds.reverse vs.reverse := by
  induction ds generalizing vs with
  | nil => cases h; exact .nil
  | cons d ds ih =>
    cases h with
    | cons a b =>
      rw [List.reverse_cons, List.reverse_cons]
      exact (ih b).append (.cons a .nil)
theorem Reps.dropLast {ds : List D} {vs : List V} (h : Reps G r H ds vs) : Reps G r H ds.dropLast vs.dropLast := by
  rw [List.dropLast_eq_take, List.dropLast_eq_take, h.length]
  exact h.take _

/-- fields -/
inductive FsR (G : Gx) (r : List Addr) (H : Hp) : List (Nat × D) → List (Str × V) → Prop
  | nil : FsR G r H [] []
  | cons {i : Nat} {d : D} {x : Str} {v : V} {fs : List (Nat × D)} {vs : List (Str × V)} : G.fn[i]? = some x → Rep G r H d v → FsR G r H fs vs → FsR G r H ((i, d) :: fs) ((x, v) :: vs)
theorem FsR.mono (g : Gr G r H r' H') : ∀ {fs : List (Nat × D)} {vs : List (Str × V)}, FsR G r H fs vs → FsR G r' H' fs vs
  | _, _, .nil => .nil
  | _, _, .cons e h t => .cons e (h.mono g) (FsR.mono g t)
/-- a dict's pairs -/
def keyD : Sum Int (List Nat) → Key
  | .inl i => .inl i
  | .inr s => .inr ⟨s.toArray⟩
inductive DkR (G : Gx) (r : List Addr) (H : Hp) : List (Sum Int (List Nat) × D) → List (Key × V) → Prop
  | nil : DkR G r H [] []
  | cons {k : Sum Int (List Nat)} {d : D} {v : V} {fs : List (Sum Int (List Nat) × D)} {vs : List (Key × V)} : Rep G r H d v → DkR G r H fs vs → DkR G r H ((k, d) :: fs) ((keyD k, v) :: vs)
theorem DkR.mono (g : Gr G r H r' H') : ∀ {fs : List (Sum Int (List Nat) × D)} {vs : List (Key × V)}, DkR G r H fs vs → DkR G r' H' fs vs
  | _, _, .nil => .nil
  | _, _, .cons h t => .cons (h.mono g) (DkR.mono g t)
def ObR (G : Gx) (r : List Addr) (H : Hp) (a : Addr) : Ob → Prop
  | .lst ds => ∃ vs, H a = some (.lst vs) ∧ Reps G r H ds vs
  | .frz ds => ∃ o vs, H a = some (.frz o (.lst vs)) ∧ Reps G r H ds vs
  | .ins c fs => ∃ dx vs, H a = some (.ins (G.ga c) dx vs) ∧ FsR G r H fs vs
  | .dk kvs => ∃ vs, H a = some (.dK vs) ∧ DkR G r H kvs vs
  | .fdk kvs => ∃ o vs, H a = some (.frz o (.dK vs)) ∧ DkR G r H kvs vs
structure Sim (G : Gx) (r : List Addr) (H : Hp) (h : Hm) : Prop where
  len : r.length = h.length
  nd : r.Nodup
  at_ : ∀ (n : Nat) (ob : Ob) (a : Addr), h[n]? = some ob → r[n]? = some a → ObR G r H a ob
  tb : LamX.Tabs G.T H
theorem Sim.get {h : Hm} {n : Nat} {a : Addr} (s : Sim G r H h) (e : r[n]? = some a) : ∃ ob, h[n]? = some ob ∧ ObR G r H a ob := by
  have l : n < h.length := by rw [← s.len]; exact (List.getElem?_eq_some_iff.mp e).1
  exact ⟨h[n], List.getElem?_eq_getElem l, s.at_ n _ a (List.getElem?_eq_getElem l) e⟩
theorem ObR.there {a : Addr} {ob : Ob} (h : ObR G r H a ob) : ∃ o, H a = some o ∧ (∀ xs, o ≠ .tup xs) ∧ (∀ b, o ≠ .own b) ∧ (∀ p xs, o ≠ .frz p (.tup xs)) ∧ (∀ ps, o ≠ .tbl ps) ∧ ∀ f, o ≠ .ext f := by
  cases ob with
  | lst ds => obtain ⟨vs, e, _⟩ := h; exact ⟨_, e, fun _ z => (by cases z), fun _ z => (by cases z), fun _ _ z => (by cases z), fun _ z => (by cases z), fun _ z => (by cases z)⟩
  | frz ds => obtain ⟨o, vs, e, _⟩ := h; exact ⟨_, e, fun _ z => (by cases z), fun _ z => (by cases z), fun _ _ z => (by cases z), fun _ z => (by cases z), fun _ z => (by cases z)⟩
  | ins c fs => obtain ⟨dx, vs, e, _⟩ := h; exact ⟨_, e, fun _ z => (by cases z), fun _ z => (by cases z), fun _ _ z => (by cases z), fun _ z => (by cases z), fun _ z => (by cases z)⟩
  | dk kvs => obtain ⟨vs, e, _⟩ := h; exact ⟨_, e, fun _ z => (by cases z), fun _ z => (by cases z), fun _ _ z => (by cases z), fun _ z => (by cases z), fun _ z => (by cases z)⟩
  | fdk kvs => obtain ⟨o, vs, e, _⟩ := h; exact ⟨_, e, fun _ z => (by cases z), fun _ z => (by cases z), fun _ _ z => (by cases z), fun _ z => (by cases z), fun _ z => (by cases z)⟩
theorem Sim.ne_none {h : Hm} {n : Nat} {a p : Addr} (s : Sim G r H h) (e : r[n]? = some a) (hp : H p = none) : a ≠ p := by
  obtain ⟨ob, _, q⟩ := s.get e
  obtain ⟨o, ho, _⟩ := q.there
  exact ne_of_none ho hp
theorem ObR.keep {a : Addr} {ob : Ob} (g : Gr G r H r' H') (e : H' a = H a) (h : ObR G r H a ob) : ObR G r' H' a ob := by
  cases ob with
  | lst ds => obtain ⟨vs, q, t⟩ := h; exact ⟨vs, e.trans q, t.mono g⟩
  | frz ds => obtain ⟨o, vs, q, t⟩ := h; exact ⟨o, vs, e.trans q, t.mono g⟩
  | ins c fs => obtain ⟨dx, vs, q, t⟩ := h; exact ⟨dx, vs, e.trans q, t.mono g⟩
  | dk kvs => obtain ⟨vs, q, t⟩ := h; exact ⟨vs, e.trans q, t.mono g⟩
  | fdk kvs => obtain ⟨o, vs, q, t⟩ := h; exact ⟨o, vs, e.trans q, t.mono g⟩
/-- a new untracked-by-us object: the rest stands -/
theorem gr_fresh {p : Addr} {o : HO} (hp : H p = none) : Gr G r H r (upd H p o) := by
  refine ⟨fun _ _ h => h, fun a xs h => ?_, fun a q u h => by rw [upd_ne (ne_of_none h hp)]; exact h⟩
  rcases h with h | h
  · left
    rcases h with h | ⟨u, h⟩
    · exact .inl (by rw [upd_ne (ne_of_none h hp)]; exact h)
    · exact .inr ⟨u, by rw [upd_ne (ne_of_none h hp)]; exact h⟩
  · exact .inr h
theorem tb_fresh {T : List (Addr × Str)} {p : Addr} {o : HO} (hp : H p = none) (t : LamX.Tabs T H) : LamX.Tabs T (upd H p o) :=
  t.ext fun b u e => by rw [upd_ne (ne_of_none e hp)]; exact e
theorem tb_upd {T : List (Addr × Str)} {a : Addr} {o u : HO} (ha : H a = some u) (h1 : ∀ ps, u ≠ .tbl ps) (h2 : ∀ f, u ≠ .ext f) (t : LamX.Tabs T H) : LamX.Tabs T (upd H a o) := fun p hp => by
  obtain ⟨ps, q1, q2, q3⟩ := t p hp
  refine ⟨ps, by rw [upd_ne (ne_of q1 ha fun z => h1 ps z.symm)]; exact q1, q2, fun pos cv hc => ?_⟩
  obtain ⟨c, e1, e2⟩ := q3 pos cv hc
  exact ⟨c, e1, by rw [upd_ne (ne_of e2 ha fun z => h2 _ z.symm)]; exact e2⟩
theorem Sim.fresh {h : Hm} {p : Addr} {o : HO} (s : Sim G r H h) (hp : H p = none) : Sim G r (upd H p o) h :=
  ⟨s.len, s.nd, fun n ob a e1 e2 => (s.at_ n ob a e1 e2).keep (gr_fresh hp) (upd_ne (s.ne_none e2 hp)), tb_fresh hp s.tb⟩
/-- a new object of ours -/
theorem gr_new {p : Addr} {o : HO} (hp : H p = none) : Gr G r H (r ++ [p]) (upd H p o) :=
  ⟨fun n a e => by rw [List.getElem?_append_left (List.getElem?_eq_some_iff.mp e).1]; exact e, (gr_fresh (G := G) (r := r) hp).tup, (gr_fresh (G := G) (r := r) hp).frz⟩
theorem Sim.new {h : Hm} {p : Addr} {o : HO} {ob : Ob} (s : Sim G r H h) (hp : H p = none) (hn : ObR G (r ++ [p]) (upd H p o) p ob) : Sim G (r ++ [p]) (upd H p o) (h ++ [ob]) := by
  refine ⟨by simp [s.len], ?_, fun n ob' a e1 e2 => ?_, tb_fresh hp s.tb⟩
  · rw [List.nodup_append]
    refine ⟨s.nd, by simp, fun x hx y hy => ?_⟩
    have e : y = p := by simpa using hy
    subst e
    obtain ⟨n, e⟩ := List.getElem?_of_mem hx
    exact s.ne_none e hp
  · by_cases hl : n < h.length
    · rw [List.getElem?_append_left hl] at e1
      rw [List.getElem?_append_left (by rw [s.len]; exact hl)] at e2
      exact (s.at_ n ob' a e1 e2).keep (gr_new hp) (upd_ne (s.ne_none e2 hp))
    · have l2 := (List.getElem?_eq_some_iff.mp e1).1
      rw [List.length_append, List.length_singleton] at l2
      have en : n = h.length := by omega
      subst en
      rw [List.getElem?_append_right (Nat.le_refl _), Nat.sub_self] at e1
      rw [List.getElem?_append_right (by rw [s.len]; exact Nat.le_refl _), s.len, Nat.sub_self] at e2
      have e1' : ob = ob' := by simpa using e1
      have e2' : p = a := by simpa using e2
      subst e1' e2'
      exact hn
theorem new_at {h : Hm} (s : Sim G r H h) (p : Addr) : (r ++ [p])[h.length]? = some p := by
  rw [List.getElem?_append_right (by rw [s.len]; exact Nat.le_refl _), s.len, Nat.sub_self] <;> rfl
/-- an object of ours is written -/
theorem gr_upd {a : Addr} {o u : HO} (ha : H a = some u) (hu : ∀ xs, u ≠ .tup xs) (hz : ∀ p w, u ≠ .frz p w) : Gr G r H r (upd H a o) := by
  have hf : ∀ p xs, u ≠ .frz p (.tup xs) := fun p xs => hz p _
  refine ⟨fun _ _ h => h, fun b xs h => ?_, fun b p w h => by rw [upd_ne (ne_of h ha fun z => hz p w z.symm)]; exact h⟩
  rcases h with h | h
  · left
    rcases h with h | ⟨v, h⟩
    · exact .inl (by rw [upd_ne (ne_of h ha fun z => hu xs z.symm)]; exact h)
    · exact .inr ⟨v, by rw [upd_ne (ne_of h ha fun z => hf v xs z.symm)]; exact h⟩
  · exact .inr h
theorem nodup_get {l : List Addr} (nd : l.Nodup) {i j : Nat} {a : Addr} (e1 : l[i]? = some a) (e2 : l[j]? = some a) : i = j := by
  obtain ⟨h1, q1⟩ := List.getElem?_eq_some_iff.mp e1
  obtain ⟨h2, q2⟩ := List.getElem?_eq_some_iff.mp e2
  exact (List.getElem_inj nd).mp (q1.trans q2.symm)
theorem Sim.put {h : Hm} {n : Nat} {a : Addr} {o : HO} {ob : Ob} (s : Sim G r H h) (e : r[n]? = some a) (hn : Gr G r H r (upd H a o) → ObR G r (upd H a o) a ob) (nz : ∀ p w, H a ≠ some (.frz p w) := by intro p w z; simp_all) : Sim G r (upd H a o) (h.set n ob) ∧ Gr G r H r (upd H a o) := by
  obtain ⟨ob0, e0, q0⟩ := s.get e
  obtain ⟨u, hu, nt, _, nf, nb, nx⟩ := q0.there
  have g : Gr G r H r (upd H a o) := gr_upd hu nt fun p w z => nz p w (by rw [← z]; exact hu)
  refine ⟨⟨by rw [List.length_set]; exact s.len, s.nd, fun m ob' b e1 e2 => ?_, tb_upd hu nb nx s.tb⟩, g⟩
  by_cases hm : n = m
  · subst hm
    rw [e] at e2
    cases e2
    rw [List.getElem?_set_self (List.getElem?_eq_some_iff.mp e0).1] at e1
    cases e1
    exact hn g
  · rw [List.getElem?_set_ne hm] at e1
    have hb : b ≠ a := fun z => hm (nodup_get s.nd e (z ▸ e2))
    exact (s.at_ m ob' b e1 e2).keep g (upd_ne hb)
end

/-! ### outcomes -/
structure EnR (G : Gx) (r : List Addr) (H : Hp) (e : En) (σ : St) : Prop where
  len : e.length = σ.length
  at_ : ∀ (i : Nat) (d : D), e[i]? = some (some d) → ∃ v, σ[i]? = some (some v) ∧ Rep G r H d v
section
variable {G : Gx} {r r' r2 : List Addr} {H H' H2 : Hp} {e : En} {σ : St}
theorem EnR.mono (g : Gr G r H r' H') (h : EnR G r H e σ) : EnR G r' H' e σ := ⟨h.len, fun i d q => let ⟨v, a, b⟩ := h.at_ i d q; ⟨v, a, b.mono g⟩⟩
theorem EnR.set {d : D} {v : V} {i : Nat} (h : EnR G r H e σ) (hd : Rep G r H d v) : EnR G r H (e.set i (some d)) (σ.set i (some v)) := by
  refine ⟨by rw [List.length_set, List.length_set]; exact h.len, fun j c q => ?_⟩
  by_cases hj : i = j
  · subst hj
    have hl : i < e.length := by
      have := (List.getElem?_eq_some_iff.mp q).1
      rwa [List.length_set] at this
    rw [List.getElem?_set_self hl] at q
    cases q
    exact ⟨v, by rw [List.getElem?_set_self (by rw [← h.len]; exact hl)], hd⟩
  · rw [List.getElem?_set_ne hj] at q
    obtain ⟨w, a, b⟩ := h.at_ j c q
    exact ⟨w, by rw [List.getElem?_set_ne hj]; exact a, b⟩
end
/-- the wanted ends of an outcome -/
def Post {α β : Type} (G : Gx) (W : XK) (R : List Addr → Hp → α → β → Prop) (r : List Addr) (H : Hp) (x : Re α) (Q : β → Hp → Prop) : Prop := match x with
  | .ok a h' => ∀ b H' r', Gr G r H r' H' → Sim G r' H' h' → R r' H' a b → Q b H'
  | .ex c d h' => ∀ v H' r' dd, Gr G r H r' H' → Sim G r' H' h' → Rep G r' H' d v → H' dd = some (.xd [(G.xf c, v)]) → W (.ref (G.ga c)) (some dd) H'
  | .no => False
abbrev RD (G : Gx) : List Addr → Hp → D → V → Prop := fun r H d v => Rep G r H d v
abbrev RL (G : Gx) : List Addr → Hp → List D → List V → Prop := fun r H d v => Reps G r H d v
abbrev RB : List Addr → Hp → Bool → Bool → Prop := fun _ _ a b => a = b
section
variable {α β γ δ : Type} {G : Gx} {W : XK} {R : List Addr → Hp → α → β → Prop} {R2 : List Addr → Hp → γ → δ → Prop} {r r' : List Addr} {H H' : Hp}
theorem Post.mono {x : Re α} {Q : β → Hp → Prop} (g : Gr G r H r' H') (h : Post G W R r H x Q) : Post G W R r' H' x Q := by
  cases x with
  | ok a h' => exact fun b H2 r2 g2 => h b H2 r2 (g.trans g2)
  | ex c d h' => exact fun v H2 r2 dd g2 => h v H2 r2 dd (g.trans g2)
  | no => exact h
theorem Post.weak {x : Re α} {Q Q' : β → Hp → Prop} (h : Post G W R r H x Q) (w : ∀ b H', Q b H' → Q' b H') : Post G W R r H x Q' := by
  cases x with
  | ok a h' => exact fun b H2 r2 g2 s q => w _ _ (h b H2 r2 g2 s q)
  | ex c d h' => exact h
  | no => exact h
theorem Post.bind {x : Re α} {k : α → Hm → Re γ} {Q : δ → Hp → Prop} (h : Post G W R2 r H (x.bind k) Q) :
    Post G W R r H x fun b H1 => ∃ (r1 : List Addr) (h1 : Hm) (a : α), Gr G r H r1 H1 ∧ Sim G r1 H1 h1 ∧ R r1 H1 a b ∧ Post G W R2 r1 H1 (k a h1) Q := by
  cases x with
  | ok a h' => exact fun b H' r' g s q => ⟨r', h', a, g, s, q, Post.mono g h⟩
  | ex c d h' => exact h
  | no => exact h
end
/-- the state at hand -/
abbrev ME := En → Hm → Re D
abbrev MT := En → Hm → Re Bool
abbrev MA := En → Hm → Re (List D)
abbrev MS := En → Hm → Rs
def uG {α β : Type} (G : Gx) (W : WX) (R : List Addr → Hp → α → β → Prop) (m : En → Hm → Re α) : St → Hp → (β → Hp → Prop) → Prop := fun σ H Q =>
  ∃ r h e, Sim G r H h ∧ EnR G r H e σ ∧ Post G (fun c d H' => W c d σ H') R r H (m e h) Q
abbrev uE (G : Gx) (W : WX) (m : ME) : TE := uG G W (RD G) m
abbrev uT (G : Gx) (W : WX) (m : MT) : TT := uG G W RB m
abbrev uA (G : Gx) (W : WX) (m : MA) : TA := uG G W (RL G) m
structure SE (G : Gx) (X : Cx) (W : WX) (x : Expr) (m : ME) : Prop where
  pe : PE X x (uE G W m)
structure ST (G : Gx) (X : Cx) (W : WX) (x : Expr) (m : MT) : Prop where
  pt : PT X x (uT G W m)
structure SA (G : Gx) (X : Cx) (W : WX) (xs : List Expr) (m : MA) : Prop where
  pa : PA X xs (uA G W m)
end L2.Lv
end
section
set_option maxRecDepth 100000
set_option maxHeartbeats 4000000
set_option autoImplicit false
namespace L2.Lv
open PySem PySem.Spec PyProof.Rows

/-! ### how readings are joined -/
theorem pe_imp {X : Cx} {x : Expr} {t t' : TE} (h : PE X x t) (w : ∀ σ H Q, t' σ H Q → t σ H Q) : PE X x t' := ⟨fun pins s σ H Q I q => h.run pins s σ H Q I (w σ H Q q)⟩
theorem pt_imp {X : Cx} {x : Expr} {t t' : TT} (h : PT X x t) (w : ∀ σ H Q, t' σ H Q → t σ H Q) : PT X x t' := ⟨fun pins s σ H Q I q => h.run pins s σ H Q I (w σ H Q q)⟩
theorem pa_imp {X : Cx} {x : List Expr} {t t' : TA} (h : PA X x t) (w : ∀ σ H Q, t' σ H Q → t σ H Q) : PA X x t' := ⟨fun pos pins s σ H Q I q => h.run pos pins s σ H Q I (w σ H Q q)⟩
section
variable {α β γ δ : Type} {G : Gx} {W : WX} {R : List Addr → Hp → α → β → Prop} {R2 : List Addr → Hp → γ → δ → Prop} {r : List Addr} {H : Hp} {σ : L2.St} {h : Hm} {e : En}
theorem uG_weak {m : En → Hm → Re α} {Q Q' : β → Hp → Prop} (u : uG G W R m σ H Q) (w : ∀ b H', Q b H' → Q' b H') : uG G W R m σ H Q' := by
  obtain ⟨r, h, e, s, en, p⟩ := u
  exact ⟨r, h, e, s, en, p.weak w⟩
theorem stepP {m : En → Hm → Re α} {k : α → Hm → Re γ} {Q : δ → Hp → Prop} (s : Sim G r H h) (en : EnR G r H e σ) (p : Post G (fun c d H' => W c d σ H') R2 r H ((m e h).bind k) Q) :
    uG G W R m σ H fun b H1 => ∃ (r1 : List Addr) (h1 : Hm) (a : α), Gr G r H r1 H1 ∧ Sim G r1 H1 h1 ∧ EnR G r1 H1 e σ ∧ R r1 H1 a b ∧ Post G (fun c d H' => W c d σ H') R2 r1 H1 (k a h1) Q :=
  ⟨r, h, e, s, en, Post.weak (Post.bind p) fun b H1 ⟨r1, h1, a, g, s1, q, p1⟩ => ⟨r1, h1, a, g, s1, en.mono g, q, p1⟩⟩
/-- the last part -/
theorem lastP {m : En → Hm → Re α} {Q : β → Hp → Prop} (s : Sim G r H h) (en : EnR G r H e σ) (p : Post G (fun c d H' => W c d σ H') R r H (m e h) Q) : uG G W R m σ H Q := ⟨r, h, e, s, en, p⟩
end

/-! ### names, constants -/
def big : Nat := 1000000
theorem big_le {n : Nat} (h : n ≤ big) : n ≤ sizeLine := by rw [sizeLine_eq]; unfold big at h; omega
def mVar (i : Nat) : ME := fun e h => match e[i]? with
  | some (some d) => .ok d h
  | _ => .no
def mC (d : D) : ME := fun _ h => .ok d h
section
variable {G : Gx} {X : Cx} {W : WX} {x y z : Expr} {xs : List Expr} {ma mb mc : ME} {mt mu : MT} {ms : MA} {pos : Pos}
theorem se_var (i : Nat) {n : Str} (hN : X.N[i]? = some n := by rfl) (hv : Vis X.env.scope n := by first | exact Or.inl rfl | exact Or.inr (Or.inl rfl) | exact Or.inr (Or.inr rfl)) (hd : (n == ("__debug__" : Str)) = false := by decide)
    (hcd : (n == ("__classdict__" : Str)) = false := by decide) : SE G X W (.Name n pos) (mVar i) := by
  refine ⟨pe_imp (pe_var hN hv hd hcd) fun σ H Q u => ?_⟩
  obtain ⟨r, h, e, s, en, p⟩ := u
  unfold mVar at p
  cases q : e[i]? with
  | none => rw [q] at p; exact p.elim
  | some o =>
    cases o with
    | none => rw [q] at p; exact p.elim
    | some d =>
      rw [q] at p
      obtain ⟨v, e1, e2⟩ := en.at_ i d q
      exact ⟨v, e1, p v H r Gr.refl s e2⟩
theorem se_c {d : D} {v : V} (hp : PE X x (tC v)) (hr : ∀ r H, Rep G r H d v) : SE G X W x (mC d) := by
  refine ⟨pe_imp hp fun σ H Q u => ?_⟩
  obtain ⟨r, h, e, s, en, p⟩ := u
  exact p v H r Gr.refl s (hr r H)
theorem se_int {i : Int} {j : Nat} : SE G X W (.Constant (.int i) j pos) (mC (.int i)) := se_c pe_int fun _ _ => .int i
theorem se_bl {i : Bool} {j : Nat} : SE G X W (.Constant (.bool i) j pos) (mC (.bl i)) := se_c pe_bl fun _ _ => .bl i
theorem se_non {j : Nat} : SE G X W (.Constant .none j pos) (mC .non) := se_c pe_non fun _ _ => .non
theorem se_str (l : List Nat) {t : Str} {j : Nat} (ht : t = ⟨l.toArray⟩ := by decide +kernel) : SE G X W (.Constant (.str t) j pos) (mC (.str l)) := by
  subst ht
  exact se_c pe_str fun _ _ => .str l
/-- a module's constant -/
theorem se_glob {d : D} {v : V} {n : Str} {u : Value} (hm : X.mg n = some u) (rv : RelV v u) (hr : ∀ r H, Rep G r H d v) (hg : Gl X n := by rfl) (hd : (n == ("__debug__" : Str)) = false := by decide) : SE G X W (.Name n pos) (mC d) := se_c (pe_glob hg hm rv hd) hr

/-! ### arguments, displays -/
def mNil : MA := fun _ h => .ok [] h
def mCons (a : ME) (r : MA) : MA := fun e h => (a e h).bind fun x h1 => (r e h1).bind fun xs h2 => .ok (x :: xs) h2
theorem sa_nil : SA G X W [] mNil := by
  refine ⟨pa_imp pa_nil fun σ H Q u => ?_⟩
  obtain ⟨r, h, e, s, en, p⟩ := u
  exact p [] H r Gr.refl s .nil
theorem sa_cons (ha : SE G X W x ma) (hr : SA G X W xs ms) (hs : starEach (x :: xs) X.env = (false, eval x X.env) :: starEach xs X.env := by rfl) : SA G X W (x :: xs) (mCons ma ms) := by
  refine ⟨pa_imp (pa_cons ha.pe hr.pa hs) fun σ H Q u => ?_⟩
  obtain ⟨r, h, e, s, en, p⟩ := u
  refine uG_weak (stepP s en p) ?_
  rintro v H1 ⟨r1, h1, a, g1, s1, en1, ra, p1⟩
  refine uG_weak (stepP s1 en1 p1) ?_
  rintro vs H2 ⟨r2, h2, as, g2, s2, en2, rs, p2⟩
  exact p2 (v :: vs) H2 r2 Gr.refl s2 (.cons (ra.mono g2) rs)
def mTup (a : MA) : ME := fun e h => (a e h).bind fun xs h1 => if xs.length ≤ big then .ok (.tup xs) h1 else .no
def newL (xs : List D) (h : Hm) : Re D := if xs.length ≤ big then .ok (.ref h.length) (h ++ [.lst xs]) else .no
def mLst (a : MA) : ME := fun e h => (a e h).bind newL
theorem post_newT {W' : XK} {r : List Addr} {H : Hp} {h : Hm} {xs : List D} {vs : List V} {Q : V → Hp → Prop} (s : Sim G r H h) (rs : Reps G r H xs vs) (p : Post G W' (RD G) r H (if xs.length ≤ big then .ok (.tup xs) h else .no) Q) :
    vs.length ≤ sizeLine ∧ ∀ q, H q = none → Q (.ref q) (upd H q (.tup vs)) := by
  split at p
  · rename_i c
    refine ⟨by rw [← rs.length]; exact big_le c, fun q hq => ?_⟩
    exact p (.ref q) _ r (gr_fresh hq) (s.fresh hq) (.tup (SqT.of upd_same) (rs.mono (gr_fresh hq)))
  · exact p.elim
theorem post_newL {W' : XK} {r : List Addr} {H : Hp} {h : Hm} {xs : List D} {vs : List V} {Q : V → Hp → Prop} (s : Sim G r H h) (rs : Reps G r H xs vs) (p : Post G W' (RD G) r H (newL xs h) Q) :
    vs.length ≤ sizeLine ∧ ∀ q, H q = none → Q (.ref q) (upd H q (.lst vs)) := by
  unfold newL at p
  split at p
  · rename_i c
    refine ⟨by rw [← rs.length]; exact big_le c, fun q hq => ?_⟩
    refine p (.ref q) _ (r ++ [q]) (gr_new hq) (s.new hq ⟨vs, upd_same, rs.mono (gr_new hq)⟩) (.ref (new_at s q))
  · exact p.elim
theorem se_tup {k : Nat} (ha : SA G X W xs ms) : SE G X W (.Tuple xs k pos) (mTup ms) := by
  refine ⟨pe_imp (pe_tup ha.pa) fun σ H Q u => ?_⟩
  obtain ⟨r, h, e, s, en, p⟩ := u
  refine uG_weak (stepP s en p) ?_
  rintro vs H1 ⟨r1, h1, as, g1, s1, en1, rs, p1⟩
  exact post_newT s1 rs p1
theorem se_lst (ha : SA G X W xs ms) : SE G X W (.List xs pos) (mLst ms) := by
  refine ⟨pe_imp (pe_lst ha.pa) fun σ H Q u => ?_⟩
  obtain ⟨r, h, e, s, en, p⟩ := u
  refine uG_weak (stepP s en p) ?_
  rintro vs H1 ⟨r1, h1, as, g1, s1, en1, rs, p1⟩
  exact post_newL s1 rs p1

/-! ### operators -/
def mBin (p : D → D → Hm → Re D) (a b : ME) : ME := fun e h => (a e h).bind fun x h1 => (b e h1).bind fun y h2 => p x y h2
def Prim2 (G : Gx) (rr : R2) (p : D → D → Hm → Re D) : Prop := ∀ (W : XK) (r : List Addr) (H : Hp) (h : Hm) (a b : D) (x y : V) (Q : VK), Sim G r H h → Rep G r H a x → Rep G r H b y → Post G W (RD G) r H (p a b h) Q → rr x y H Q
theorem OpR.or {X : Cx} {f : Value → Value → Sem Value} {r r' : R2} (h : OpR X f r) (h' : OpR X f r') : OpR X f (fun x y H Q => r x y H Q ∨ r' x y H Q) := by
  intro pins s σ H x y v u Q I rx ry hq
  rcases hq with q | q
  · exact h pins s σ H x y v u Q I rx ry q
  · exact h' pins s σ H x y v u Q I rx ry q
theorem tOp_of {rr : R2} {p : D → D → Hm → Re D} (hp : Prim2 G rr p) {σ : L2.St} {H : Hp} {Q : VK} (u : uE G W (mBin p ma mb) σ H Q) : tOp rr (uE G W ma) (uE G W mb) σ H Q := by
  obtain ⟨r, h, e, s, en, q⟩ := u
  refine uG_weak (stepP s en q) ?_
  rintro v H1 ⟨r1, h1, a, g1, s1, en1, ra, p1⟩
  refine uG_weak (stepP s1 en1 p1) ?_
  rintro w H2 ⟨r2, h2, b, g2, s2, en2, rb, p2⟩
  exact hp _ r2 H2 h2 a b v w Q s2 (ra.mono g2) rb p2
theorem se_op {op : Operator} {rr : R2} {p : D → D → Hm → Re D} (ho : OpR X (binaryOp op) rr) (hp : Prim2 G rr p) (ha : SE G X W x ma) (hb : SE G X W y mb) : SE G X W (.BinOp x op y pos) (mBin p ma mb) :=
  ⟨pe_imp (pe_op ho ha.pe hb.pe) fun _ _ _ u => tOp_of hp u⟩
theorem se_cmp {op : CmpOp} {rr : R2} {p : D → D → Hm → Re D} (ho : OpR X (compareOp op) rr) (hp : Prim2 G rr p) (ha : SE G X W x ma) (hb : SE G X W y mb) (hm : behindInMarks op y = false) : SE G X W (.Compare x [op] [y] pos) (mBin p ma mb) :=
  ⟨pe_imp (pe_cmpR ho ha.pe hb.pe hm) fun _ _ _ u => tOp_of hp u⟩

/-! ### truth -/
def truD (h : Hm) : D → Option Bool
  | .non => some false
  | .bl b => some b
  | .int i => some (i != 0)
  | .str s => if s.length ≤ big then some (!s.isEmpty) else none
  | .tup xs => some (!xs.isEmpty)
  | .ref n => match h[n]? with
    | some (.lst xs) => some (!xs.isEmpty)
    | some (.frz xs) => some (!xs.isEmpty)
    | _ => none
theorem tru_is {r : List Addr} {H : Hp} {h : Hm} {d : D} {v : V} {b : Bool} (s : Sim G r H h) (hd : Rep G r H d v) (e : truD h d = some b) : TruV G.K v H b := by
  have em : ∀ {ds : List D} {vs : List V}, Reps G r H ds vs → (!ds.isEmpty) = !vs.isEmpty := fun q => by cases q <;> rfl
  cases hd with
  | non => exact (Option.some.inj e).symm
  | bl c => exact (Option.some.inj e).symm
  | int i => exact (Option.some.inj e).symm
  | str t =>
    have e : (if t.length ≤ big then some (!t.isEmpty) else none) = some b := e
    by_cases c : t.length ≤ big
    · rw [if_pos c] at e
      refine ⟨by simpa [Str.length] using big_le c, ?_⟩
      rw [← Option.some.inj e]
      cases t with
      | nil => rfl
      | cons a l =>
        show true = (((⟨(a :: l).toArray⟩ : Str).length : Int) != 0)
        have : (⟨(a :: l).toArray⟩ : Str).length = l.length + 1 := by simp [Str.length]
        rw [this]
        symm
        rw [bne_iff_ne]
        omega
    · rw [if_neg c] at e
      cases e
  | tup h1 h2 => exact .inr (.inl ⟨_, h1, by rw [← em h2]; exact (Option.some.inj e).symm⟩)
  | ref hn =>
    obtain ⟨ob, e1, q⟩ := s.get hn
    simp only [truD, e1] at e
    cases ob with
    | lst ds =>
      obtain ⟨vs, q1, q2⟩ := q
      exact .inl ⟨vs, SqL.of q1, by rw [← em q2]; exact (Option.some.inj e).symm⟩
    | frz ds =>
      obtain ⟨o, vs, q1, q2⟩ := q
      exact .inl ⟨vs, .inl (.inr ⟨o, q1⟩), by rw [← em q2]; exact (Option.some.inj e).symm⟩
    | ins c fs => cases e
    | dk kvs => cases e
    | fdk kvs => cases e
def mTru (a : ME) : MT := fun e h => (a e h).bind fun d h1 => match truD h1 d with
  | some b => .ok b h1
  | none => .no
def mTb (a : ME) : MT := fun e h => (a e h).bind fun d h1 => match d with
  | .bl b => .ok b h1
  | _ => .no
theorem st_val (hK : X.K = G.K) (ha : SE G X W x ma) (he : ∀ whole, isTrue x X.env whole = (do let v ← whole; standAt x.pos; holding [v] (truthy v)) := by intro _; rfl) : ST G X W x (mTru ma) := by
  refine ⟨pt_imp (pt_truth ha.pe he) fun σ H Q u => ?_⟩
  obtain ⟨r, h, e, s, en, p⟩ := u
  refine uG_weak (stepP s en p) ?_
  rintro v H1 ⟨r1, h1, a, g1, s1, en1, ra, p1⟩
  cases q : truD h1 a with
  | none => simp only [q] at p1; exact p1.elim
  | some b =>
    simp only [q] at p1
    exact ⟨b, by rw [hK]; exact tru_is s1 ra q, p1 b H1 r1 Gr.refl s1 rfl⟩
theorem st_cmp {op : CmpOp} {rr : R2} {p : D → D → Hm → Re D} (ho : OpR X (compareOp op) rr) (hp : Prim2 G rr p) (ha : SE G X W x ma) (hb : SE G X W y mb) (hm : behindInMarks op y = false) : ST G X W (.Compare x [op] [y] pos) (mTb (mBin p ma mb)) := by
  refine ⟨pt_imp (pt_cmpR ho ha.pe hb.pe hm) fun σ H Q u => ?_⟩
  have z : uE G W (mBin p ma mb) σ H (fun x H' => ∃ k, x = .bl k ∧ Q k H') := by
    obtain ⟨r, h, e, s, en, p0⟩ := u
    refine uG_weak (stepP s en p0) ?_
    rintro v H1 ⟨r1, h1, a, g1, s1, en1, ra, p1⟩
    cases ra with
    | bl b => exact ⟨b, rfl, p1 b H1 r1 Gr.refl s1 rfl⟩
    | _ => exact p1.elim
  exact tOp_of hp z
def mNotT (a : MT) : MT := fun e h => (a e h).bind fun b h1 => .ok (!b) h1
def mAndT (a b : MT) : MT := fun e h => (a e h).bind fun c h1 => if c = true then b e h1 else .ok false h1
def mOrT (a b : MT) : MT := fun e h => (a e h).bind fun c h1 => if c = true then .ok true h1 else b e h1
theorem st_not (ha : ST G X W x mt) : ST G X W (.UnaryOp .Not x pos) (mNotT mt) := by
  refine ⟨pt_imp (pt_not ha.pt) fun σ H Q u => ?_⟩
  obtain ⟨r, h, e, s, en, p⟩ := u
  refine uG_weak (stepP s en p) ?_
  rintro v H1 ⟨r1, h1, a, g1, s1, en1, ra, p1⟩
  have ra : a = v := ra
  subst ra
  exact p1 (!a) H1 r1 Gr.refl s1 rfl
structure SW (G : Gx) (X : Cx) (W : WX) (x : Expr) (m : MT) : Prop where
  pw : PW X x (uT G W m)
theorem SW.st (h : SW G X W x mt) : ST G X W x mt := ⟨h.pw.pt⟩
theorem pw_imp {X : Cx} {x : Expr} {t t' : TT} (h : PW X x t) (w : ∀ σ H Q, t' σ H Q → t σ H Q) : PW X x t' := ⟨fun wh pins s σ H Q I q => h.run wh pins s σ H Q I (w σ H Q q)⟩
theorem sw_and1 (ha : ST G X W x mt) : SW G X W (.BoolOp .And [x] pos) mt := ⟨pw_and1 ha.pt⟩
theorem sw_or1 (ha : ST G X W x mt) : SW G X W (.BoolOp .Or [x] pos) mt := ⟨pw_or1 ha.pt⟩
theorem sw_and (ha : ST G X W x mt) (hb : SW G X W (.BoolOp .And (y :: xs) pos) mu) : SW G X W (.BoolOp .And (x :: y :: xs) pos) (mAndT mt mu) := by
  refine ⟨pw_imp (pw_and ha.pt hb.pw) fun σ H Q u => ?_⟩
  obtain ⟨r, h, e, s, en, p⟩ := u
  refine uG_weak (stepP s en p) ?_
  rintro v H1 ⟨r1, h1, a, g1, s1, en1, ra, p1⟩
  have ra : a = v := ra
  subst ra
  cases a with
  | true => exact lastP s1 en1 p1
  | false => exact p1 false H1 r1 Gr.refl s1 rfl
theorem sw_or (ha : ST G X W x mt) (hb : SW G X W (.BoolOp .Or (y :: xs) pos) mu) : SW G X W (.BoolOp .Or (x :: y :: xs) pos) (mOrT mt mu) := by
  refine ⟨pw_imp (pw_or ha.pt hb.pw) fun σ H Q u => ?_⟩
  obtain ⟨r, h, e, s, en, p⟩ := u
  refine uG_weak (stepP s en p) ?_
  rintro v H1 ⟨r1, h1, a, g1, s1, en1, ra, p1⟩
  have ra : a = v := ra
  subst ra
  cases a with
  | false => exact lastP s1 en1 p1
  | true => exact p1 true H1 r1 Gr.refl s1 rfl
/-- as values -/
def mAndV (a b : ME) : ME := fun e h => (a e h).bind fun d h1 => match truD h1 d with
  | some true => b e h1
  | some false => .ok d h1
  | none => .no
def mOrV (a b : ME) : ME := fun e h => (a e h).bind fun d h1 => match truD h1 d with
  | some true => .ok d h1
  | some false => b e h1
  | none => .no
def mNotV (a : ME) : ME := fun e h => (a e h).bind fun d h1 => match truD h1 d with
  | some b => .ok (.bl (!b)) h1
  | none => .no
theorem se_one {op : BoolOp} (ha : SE G X W x ma) : SE G X W (.BoolOp op [x] pos) ma := ⟨pe_one ha.pe⟩
theorem se_and (hK : X.K = G.K) (ha : SE G X W x ma) (hb : SE G X W (.BoolOp .And (y :: xs) pos) mb) : SE G X W (.BoolOp .And (x :: y :: xs) pos) (mAndV ma mb) := by
  refine ⟨pe_imp (pe_andT ha.pe hb.pe) fun σ H Q u => ?_⟩
  obtain ⟨r, h, e, s, en, p⟩ := u
  refine uG_weak (stepP s en p) ?_
  rintro v H1 ⟨r1, h1, a, g1, s1, en1, ra, p1⟩
  cases q : truD h1 a with
  | none => simp only [q] at p1; exact p1.elim
  | some b =>
    refine ⟨b, by rw [hK]; exact tru_is s1 ra q, ?_⟩
    cases b with
    | true => simp only [q] at p1; exact lastP s1 en1 p1
    | false => simp only [q] at p1; exact p1 v H1 r1 Gr.refl s1 ra
theorem se_or (hK : X.K = G.K) (ha : SE G X W x ma) (hb : SE G X W (.BoolOp .Or (y :: xs) pos) mb) : SE G X W (.BoolOp .Or (x :: y :: xs) pos) (mOrV ma mb) := by
  refine ⟨pe_imp (pe_orT ha.pe hb.pe) fun σ H Q u => ?_⟩
  obtain ⟨r, h, e, s, en, p⟩ := u
  refine uG_weak (stepP s en p) ?_
  rintro v H1 ⟨r1, h1, a, g1, s1, en1, ra, p1⟩
  cases q : truD h1 a with
  | none => simp only [q] at p1; exact p1.elim
  | some b =>
    refine ⟨b, by rw [hK]; exact tru_is s1 ra q, ?_⟩
    cases b with
    | false => simp only [q] at p1; exact lastP s1 en1 p1
    | true => simp only [q] at p1; exact p1 v H1 r1 Gr.refl s1 ra
theorem se_not (hK : X.K = G.K) (ha : SE G X W x ma) : SE G X W (.UnaryOp .Not x pos) (mNotV ma) := by
  refine ⟨pe_imp (pe_notT ha.pe) fun σ H Q u => ?_⟩
  obtain ⟨r, h, e, s, en, p⟩ := u
  refine uG_weak (stepP s en p) ?_
  rintro v H1 ⟨r1, h1, a, g1, s1, en1, ra, p1⟩
  cases q : truD h1 a with
  | none => simp only [q] at p1; exact p1.elim
  | some b =>
    simp only [q] at p1
    exact ⟨b, by rw [hK]; exact tru_is s1 ra q, p1 (.bl (!b)) H1 r1 Gr.refl s1 (.bl _)⟩
def mIf (t : MT) (a b : ME) : ME := fun e h => (t e h).bind fun c h1 => if c = true then a e h1 else b e h1
theorem se_if (ht : ST G X W z mt) (ha : SE G X W x ma) (hb : SE G X W y mb) : SE G X W (.IfExp z x y pos) (mIf mt ma mb) := by
  refine ⟨pe_imp (pe_ifExp ht.pt ha.pe hb.pe) fun σ H Q u => ?_⟩
  obtain ⟨r, h, e, s, en, p⟩ := u
  refine uG_weak (stepP s en p) ?_
  rintro v H1 ⟨r1, h1, a, g1, s1, en1, ra, p1⟩
  have ra : a = v := ra
  subst ra
  cases a with
  | true => exact lastP s1 en1 p1
  | false => exact lastP s1 en1 p1
end
end L2.Lv
end
section
set_option maxRecDepth 100000
set_option maxHeartbeats 4000000
set_option autoImplicit false
namespace L2.Lv
open PySem PySem.Spec PyProof.Rows

/-! ### == of data -/
def okD : Nat → Hm → D → Bool
  | 0, _, _ => false
  | n + 1, h, d => match d with
    | .non => true
    | .bl _ => true
    | .int _ => true
    | .str s => s.all fun c => decide (c < 1114112)
    | .tup xs => xs.all (okD n h)
    | .ref i => match h[i]? with
      | some (.lst xs) => xs.all (okD n h)
      | some (.frz xs) => xs.all (okD n h)
      | _ => false
def eqL (f : D → D → Bool) : List D → List D → Bool
  | [], [] => true
  | x :: xs, y :: ys => f x y && eqL f xs ys
  | [], _ :: _ => false
  | _ :: _, [] => false
/-- the items of a list at hand -/
def itemsOf (h : Hm) (i : Nat) : Option (List D) := match h[i]? with
  | some (.lst xs) => some xs
  | some (.frz xs) => some xs
  | _ => none
def eqB : Nat → Hm → D → D → Bool
  | 0, _, _, _ => false
  | n + 1, h, a, b => match a, b with
    | .non, .non => true
    | .bl x, .bl y => x == y
    | .bl x, .int j => (if x then 1 else 0) == j
    | .int i, .bl y => i == (if y then 1 else 0)
    | .int i, .int j => i == j
    | .str s, .str t => decide (s = t)
    | .tup xs, .tup ys => eqL (eqB n h) xs ys
    | .ref i, .ref j => match itemsOf h i, itemsOf h j with
      | some xs, some ys => eqL (eqB n h) xs ys
      | _, _ => false
    | _, _ => false
def toP : Nat → Hm → D → PyData
  | 0, _, _ => .none
  | n + 1, h, d => match d with
    | .non => .none
    | .bl b => .bool b
    | .int i => .int i
    | .str s => .str ⟨s.toArray⟩
    | .tup xs => .tuple (xs.map (toP n h))
    | .ref i => match itemsOf h i with
      | some xs => .list (xs.map (toP n h))
      | none => .none
section
variable {G : Gx} {r : List Addr} {H : Hp} {h : Hm}
theorem okD_ref {n i : Nat} (e : okD (n + 1) h (.ref i) = true) : ∃ xs, itemsOf h i = some xs ∧ xs.all (okD n h) = true := by
  unfold okD at e
  unfold itemsOf
  cases q : h[i]? with
  | none => simp only [q] at e; cases e
  | some ob =>
    cases ob with
    | lst xs => simp only [q] at e; exact ⟨xs, rfl, e⟩
    | frz xs => simp only [q] at e; exact ⟨xs, rfl, e⟩
    | ins c fs => simp only [q] at e; cases e
    | dk kvs => simp only [q] at e; cases e
    | fdk kvs => simp only [q] at e; cases e
theorem items_seq {i : Nat} {a : Addr} {xs : List D} (s : Sim G r H h) (e : r[i]? = some a) (q : itemsOf h i = some xs) : ∃ vs, SqL G.K H a vs ∧ Reps G r H xs vs := by
  obtain ⟨ob, e1, o⟩ := s.get e
  unfold itemsOf at q
  rw [e1] at q
  cases ob with
  | lst ys =>
    cases q
    obtain ⟨vs, h1, h2⟩ := o
    exact ⟨vs, SqL.of h1, h2⟩
  | frz ys =>
    cases q
    obtain ⟨p, vs, h1, h2⟩ := o
    exact ⟨vs, .inl (.inr ⟨p, h1⟩), h2⟩
  | ins c fs => cases q
  | dk kvs => cases q
  | fdk kvs => cases q
theorem dpAll_of {n : Nat} (ih : ∀ d v, okD n h d = true → Rep G r H d v → Dp G.K H v (toP n h d)) : ∀ {ds : List D} {vs : List V}, ds.all (okD n h) = true → Reps G r H ds vs → DpAll G.K H vs (ds.map (toP n h))
  | _, _, _, .nil => .nil
  | _, _, e, .cons a b => by
    rw [List.all_cons, Bool.and_eq_true] at e
    exact .cons (ih _ _ e.1 a) (dpAll_of ih e.2 b)
theorem dp_of (s : Sim G r H h) : ∀ (n : Nat) (d : D) (v : V), okD n h d = true → Rep G r H d v → Dp G.K H v (toP n h d)
  | 0, _, _, e, _ => by cases e
  | n + 1, d, v, e, q => by
    cases q with
    | non => exact .non
    | bl b => exact .bl b
    | int i => exact .int i
    | str t => exact .str _
    | tup h1 h2 => exact .tup h1 (dpAll_of (dp_of s n) e h2)
    | ref hn =>
      obtain ⟨xs, e1, e2⟩ := okD_ref e
      obtain ⟨vs, q1, q2⟩ := items_seq s hn e1
      unfold toP
      simp only [e1]
      exact .lst q1 (dpAll_of (dp_of s n) e2 q2)
theorem lay_all {n : Nat} (ih : ∀ d, okD n h d = true → (toP n h d).canLay0 = true) : ∀ {ds : List D}, ds.all (okD n h) = true → PyData.canLayAll0 (ds.map (toP n h)) = true
  | [], _ => by simp [PyData.canLayAll0]
  | d :: ds, e => by
    rw [List.all_cons, Bool.and_eq_true] at e
    simp only [List.map_cons, PyData.canLayAll0, Bool.and_eq_true]
    exact ⟨ih d e.1, lay_all ih e.2⟩
theorem lay_of : ∀ (n : Nat) (d : D), okD n h d = true → (toP n h d).canLay0 = true
  | 0, _, e => by cases e
  | n + 1, d, e => by
    cases d with
    | non => simp [toP, PyData.canLay0]
    | bl b => simp [toP, PyData.canLay0]
    | int i => simp [toP, PyData.canLay0]
    | str t =>
      simp only [toP, PyData.canLay0]
      have e : (t.all fun c => decide (c < 1114112)) = true := e
      show (Array.all _ _) = true
      simpa using e
    | tup xs => simp only [toP, PyData.canLay0]; exact lay_all (lay_of n) e
    | ref i =>
      obtain ⟨xs, e1, e2⟩ := okD_ref e
      simp only [toP, e1, PyData.canLay0]
      exact lay_all (lay_of n) e2
theorem depth_all {n : Nat} (ih : ∀ d, (toP n h d).depth ≤ n) : ∀ ds : List D, PyData.depthAll (ds.map (toP n h)) ≤ n
  | [] => by simp [PyData.depthAll]
  | d :: ds => by
    simp only [List.map_cons, PyData.depthAll]
    exact Nat.max_le.mpr ⟨ih d, depth_all ih ds⟩
theorem depth_of : ∀ (n : Nat) (d : D), (toP n h d).depth ≤ n
  | 0, d => by simp [toP, PyData.depth]
  | n + 1, d => by
    cases d with
    | tup xs => simp only [toP, PyData.depth]; exact Nat.succ_le_succ (depth_all (depth_of n) xs)
    | ref i =>
      simp only [toP]
      cases itemsOf h i with
      | none => simp [PyData.depth]
      | some xs => simp only [PyData.depth]; exact Nat.succ_le_succ (depth_all (depth_of n) xs)
    | _ => simp [toP, PyData.depth]
theorem eqvAll_of {n : Nat} (ih : ∀ a b, okD n h a = true → okD n h b = true → PyData.eqv (toP n h a) (toP n h b) = eqB n h a b) : ∀ {xs ys : List D}, xs.all (okD n h) = true → ys.all (okD n h) = true →
    PyData.eqvAll (xs.map (toP n h)) (ys.map (toP n h)) = eqL (eqB n h) xs ys
  | [], [], _, _ => by simp [PyData.eqvAll, eqL]
  | [], _ :: _, _, _ => by simp [PyData.eqvAll, eqL]
  | _ :: _, [], _, _ => by simp [PyData.eqvAll, eqL]
  | x :: xs, y :: ys, e1, e2 => by
    rw [List.all_cons, Bool.and_eq_true] at e1 e2
    simp only [List.map_cons, PyData.eqvAll, eqL]
    rw [ih x y e1.1 e2.1, eqvAll_of ih e1.2 e2.2]
theorem str_eqv (s t : List Nat) : ((⟨s.toArray⟩ : Str) == ⟨t.toArray⟩) = decide (s = t) := by
  by_cases e : s = t
  · subst e; simp
  · rw [decide_eq_false e]
    rw [beq_eq_false_iff_ne]
    intro z
    apply e
    have := congrArg (fun x : Str => x.cps.toList) z
    simpa using this
theorem eqv_of : ∀ (n : Nat) (a b : D), okD n h a = true → okD n h b = true → PyData.eqv (toP n h a) (toP n h b) = eqB n h a b
  | 0, _, _, e, _ => by cases e
  | n + 1, a, b, e1, e2 => by
    cases a with
    | ref i =>
      obtain ⟨xs, p1, p2⟩ := okD_ref e1
      cases b with
      | ref j =>
        obtain ⟨ys, q1, q2⟩ := okD_ref e2
        simp only [toP, p1, q1, PyData.eqv, eqB]
        exact eqvAll_of (eqv_of n) p2 q2
      | _ => simp [toP, p1, PyData.eqv, eqB]
    | tup xs =>
      cases b with
      | ref j =>
        obtain ⟨ys, q1, q2⟩ := okD_ref e2
        simp [toP, q1, PyData.eqv, eqB]
      | tup ys =>
        simp only [toP, PyData.eqv, eqB]
        exact eqvAll_of (eqv_of n) e1 e2
      | _ => simp [toP, PyData.eqv, eqB]
    | str s =>
      cases b with
      | ref j =>
        obtain ⟨ys, q1, q2⟩ := okD_ref e2
        simp [toP, q1, PyData.eqv, eqB]
      | str t => simp only [toP, PyData.eqv, eqB]; exact str_eqv s t
      | _ => simp [toP, PyData.eqv, eqB]
    | _ =>
      cases b with
      | ref j =>
        obtain ⟨ys, q1, q2⟩ := okD_ref e2
        simp [toP, q1, PyData.eqv, eqB]
      | _ => simp [toP, PyData.eqv, eqB]
end
def deep : Nat := 110
def pEq (a b : D) (h : Hm) : Re D := if okD deep h a && okD deep h b then .ok (.bl (eqB deep h a b)) h else .no
def pNe (a b : D) (h : Hm) : Re D := if okD deep h a && okD deep h b then .ok (.bl (!eqB deep h a b)) h else .no
/-- == by data at any depth -/
def rEqP (K : PySem.W.Frag) : R2 := fun x y H Q => ∃ d e, Dp K H x d ∧ Dp K H y e ∧ d.canLay0 = true ∧ e.canLay0 = true ∧ d.depth ≤ deep ∧ Q (.bl (PyData.eqv d e)) H
def rNeP (K : PySem.W.Frag) : R2 := fun x y H Q => ∃ d e, Dp K H x d ∧ Dp K H y e ∧ d.canLay0 = true ∧ e.canLay0 = true ∧ d.depth ≤ deep ∧ Q (.bl (!PyData.eqv d e)) H
section
variable {X : Cx} {G : Gx}
theorem op_eqP (hu : X.A.units + 200 < cLine) : OpR X (compareOp .Eq) (rEqP X.K) := by
  intro pins s σ H x y v u Q I rx ry h
  obtain ⟨d, e, hd, he, sd, se, dd, q⟩ := h
  obtain ⟨as, r1⟩ := Dp.reads I d x v hd rx
  obtain ⟨bs, r2⟩ := Dp.reads I e y u he ry
  have hm : min d.depth e.depth ≤ d.depth := Nat.min_le_left _ _
  exact SeqAt.compareEq_reads r1 r2 sd se (by unfold deep at dd; omega) ⟨.bl _, H, I, rfl, q⟩
theorem op_neP (hu : X.A.units + 200 < cLine) : OpR X (compareOp .NotEq) (rNeP X.K) := by
  intro pins s σ H x y v u Q I rx ry h
  obtain ⟨d, e, hd, he, sd, se, dd, q⟩ := h
  obtain ⟨as, r1⟩ := Dp.reads I d x v hd rx
  obtain ⟨bs, r2⟩ := Dp.reads I e y u he ry
  have hm : min d.depth e.depth ≤ d.depth := Nat.min_le_left _ _
  exact SeqAt.compareNe_reads r1 r2 sd se (by unfold deep at dd; omega) ⟨.bl _, H, I, rfl, q⟩
theorem prim_eq : Prim2 G (rEqP G.K) pEq := by
  intro W r H h a b x y Q s ra rb p
  unfold pEq at p
  split at p
  · rename_i c
    rw [Bool.and_eq_true] at c
    exact ⟨_, _, dp_of s deep a x c.1 ra, dp_of s deep b y c.2 rb, lay_of deep a c.1, lay_of deep b c.2, depth_of deep a, by rw [eqv_of deep a b c.1 c.2]; exact p (.bl _) H r Gr.refl s (.bl _)⟩
  · exact p.elim
theorem prim_ne : Prim2 G (rNeP G.K) pNe := by
  intro W r H h a b x y Q s ra rb p
  unfold pNe at p
  split at p
  · rename_i c
    rw [Bool.and_eq_true] at c
    exact ⟨_, _, dp_of s deep a x c.1 ra, dp_of s deep b y c.2 rb, lay_of deep a c.1, lay_of deep b c.2, depth_of deep a, by rw [eqv_of deep a b c.1 c.2]; exact p (.bl _) H r Gr.refl s (.bl _)⟩
  · exact p.elim

/-! ### in -/
def inB (h : Hm) (a : D) (xs : List D) : Bool := xs.any fun z => eqB 60 h z a
def pIn (neg : Bool) (a b : D) (h : Hm) : Re D := match b with
  | .ref i => match itemsOf h i with
    | some xs => if okD 60 h a && xs.all (okD 60 h) then .ok (.bl (if neg then !inB h a xs else inB h a xs)) h else .no
    | none => .no
  | _ => .no
theorem any_eqv {h : Hm} {a : D} (ha : okD 60 h a = true) : ∀ {xs : List D}, xs.all (okD 60 h) = true → ((xs.map (toP 60 h)).any fun z => PyData.eqv z (toP 60 h a)) = inB h a xs
  | [], _ => rfl
  | x :: xs, e => by
    rw [List.all_cons, Bool.and_eq_true] at e
    have ih := any_eqv ha e.2
    unfold inB at ih ⊢
    rw [List.map_cons, List.any_cons, List.any_cons, eqv_of 60 x a e.1 ha, ih]
theorem shaped_of {h : Hm} {a : D} (ha : okD 60 h a = true) : SeqAt.shaped (toP 60 h a) = true := by
  unfold SeqAt.shaped
  rw [Bool.and_eq_true]
  exact ⟨lay_of 60 a ha, decide_eq_true (Nat.le_trans (depth_of 60 a) (by decide))⟩
theorem shaped_l {h : Hm} {xs : List D} (ha : xs.all (okD 60 h) = true) : SeqAt.shaped (.list (xs.map (toP 60 h))) = true := by
  unfold SeqAt.shaped
  rw [Bool.and_eq_true]
  refine ⟨by simp only [PyData.canLay0]; exact lay_all (lay_of 60) ha, decide_eq_true ?_⟩
  simp only [PyData.depth]
  exact Nat.le_trans (Nat.succ_le_succ (depth_all (depth_of 60) xs)) (by decide)
theorem prim_in : Prim2 G (rInD G.K) (pIn false) := by
  intro W r H h a b x y Q s ra rb p
  cases rb with
  | ref hn =>
    unfold pIn at p
    simp only at p
    split at p
    · rename_i xs e
      split at p
      · rename_i c
        rw [Bool.and_eq_true] at c
        obtain ⟨vs, q1, q2⟩ := items_seq s hn e
        exact ⟨_, _, dp_of s 60 a x c.1 ra, .lst q1 (dpAll_of (dp_of s 60) c.2 q2), shaped_of c.1, shaped_l c.2, by rw [any_eqv c.1 c.2]; exact p (.bl _) H r Gr.refl s (.bl _)⟩
      · exact p.elim
    · exact p.elim
  | _ => exact p.elim
theorem prim_notIn : Prim2 G (rNotInD G.K) (pIn true) := by
  intro W r H h a b x y Q s ra rb p
  cases rb with
  | ref hn =>
    unfold pIn at p
    simp only at p
    split at p
    · rename_i xs e
      split at p
      · rename_i c
        rw [Bool.and_eq_true] at c
        obtain ⟨vs, q1, q2⟩ := items_seq s hn e
        exact ⟨_, _, dp_of s 60 a x c.1 ra, .lst q1 (dpAll_of (dp_of s 60) c.2 q2), shaped_of c.1, shaped_l c.2, by rw [any_eqv c.1 c.2]; exact p (.bl _) H r Gr.refl s (.bl _)⟩
      · exact p.elim
    · exact p.elim
  | _ => exact p.elim

/-! ### arithmetic -/
def pAdd (a b : D) (h : Hm) : Re D := match a, b with
  | .int i, .int j => .ok (.int (i + j)) h
  | .str s, .str t => if s.length + t.length ≤ big then .ok (.str (s ++ t)) h else .no
  | .tup xs, .tup ys => if xs.length + ys.length ≤ big then .ok (.tup (xs ++ ys)) h else .no
  | .ref i, .ref j => match h[i]?, h[j]? with
    | some (.lst xs), some (.lst ys) => if xs.length + ys.length ≤ big then .ok (.ref h.length) (h ++ [.lst (xs ++ ys)]) else .no
    | _, _ => .no
  | _, _ => .no
def rAddAll (K : PySem.W.Frag) : R2 := fun x y H Q => (rI0 fun i j => .int (i + j)) x y H Q ∨ (∃ i j, x = .str i ∧ y = .str j ∧ i.length + j.length ≤ sizeLine ∧ Q (.str (i ++ j)) H) ∨ rCatA K x y H Q ∨ rCat x y H Q
theorem op_addAll : OpR X (binaryOp .Add) (rAddAll X.K) := OpR.or op_add (OpR.or op_add_str (OpR.or op_catA op_cat))
theorem Reps.nil_iff {r : List Addr} {H : Hp} {xs : List D} {vs : List V} (q : Reps G r H xs vs) : xs = [] ↔ vs = [] := by
  cases q with
  | nil => simp
  | cons a b => simp
theorem prim_add : Prim2 G (rAddAll G.K) pAdd := by
  intro W r H h a b x y Q s ra rb p
  cases ra with
  | int i =>
    cases rb with
    | int j => exact .inl ⟨i, j, rfl, rfl, p (.int _) H r Gr.refl s (.int _)⟩
    | _ => exact p.elim
  | str t =>
    cases rb with
    | str u =>
      simp only [pAdd] at p
      split at p
      · rename_i c
        refine .inr (.inl ⟨_, _, rfl, rfl, by simpa [Str.length] using big_le c, ?_⟩)
        have e : (⟨t.toArray⟩ : Str) ++ ⟨u.toArray⟩ = ⟨(t ++ u).toArray⟩ := by
          show Str.mk (t.toArray ++ u.toArray) = _
          simp
        rw [e]
        exact p (.str _) H r Gr.refl s (.str _)
      · exact p.elim
    | _ => exact p.elim
  | tup h1 h2 =>
    cases rb with
    | tup g1 g2 =>
      rename_i ta va da tb vb db
      simp only [pAdd] at p
      split at p
      · rename_i c
        refine .inr (.inr (.inl ⟨_, _, _, _, rfl, rfl, h1, g1, by rw [← h2.length, ← g2.length]; exact big_le c, fun e => ?_, fun _ e => ?_, fun _ _ q hq => ?_⟩))
        · have e' := (Reps.nil_iff h2).mpr e
          subst e'
          exact p _ H r Gr.refl s (.tup g1 g2)
        · have e' := (Reps.nil_iff g2).mpr e
          subst e'
          rw [List.append_nil] at p
          exact p _ H r Gr.refl s (.tup h1 h2)
        · exact p _ _ r (gr_fresh hq) (s.fresh hq) (.tup (SqT.of upd_same) ((h2.append g2).mono (gr_fresh hq)))
      · exact p.elim
    | _ => exact p.elim
  | ref hn =>
    cases rb with
    | ref hm =>
      simp only [pAdd] at p
      obtain ⟨ob, e1, o1⟩ := s.get hn
      obtain ⟨ob2, e2, o2⟩ := s.get hm
      rw [e1, e2] at p
      cases ob with
      | lst xs =>
        cases ob2 with
        | lst ys =>
          simp only at p
          obtain ⟨vs, a1, a2⟩ := o1
          obtain ⟨ws, b1, b2⟩ := o2
          split at p
          · rename_i c
            refine .inr (.inr (.inr ⟨_, _, _, _, rfl, rfl, a1, b1, by rw [← a2.length, ← b2.length]; exact big_le c, fun q hq => ?_⟩))
            exact p (.ref q) _ _ (gr_new hq) (s.new hq ⟨_, upd_same, (a2.append b2).mono (gr_new hq)⟩) (.ref (new_at s q))
          · exact p.elim
        | _ => exact p.elim
      | _ => exact p.elim
    | _ => exact p.elim
  | _ => exact p.elim
def pInt (c : Int → Int → Bool) (f : Int → Int → Int) (a b : D) (h : Hm) : Re D := match a, b with
  | .int i, .int j => if c i j = true then .ok (.int (f i j)) h else .no
  | _, _ => .no
theorem prim_int {C : Int → Int → Prop} {c : Int → Int → Bool} {f : Int → Int → Int} (hc : ∀ i j, c i j = true → C i j) : Prim2 G (rI C fun i j => .int (f i j)) (pInt c f) := by
  intro W r H h a b x y Q s ra rb p
  cases ra with
  | int i =>
    cases rb with
    | int j =>
      simp only [pInt] at p
      split at p
      · rename_i q
        exact ⟨i, j, rfl, rfl, hc i j q, p (.int _) H r Gr.refl s (.int _)⟩
      · exact p.elim
    | _ => exact p.elim
  | _ => exact p.elim
def pSub : D → D → Hm → Re D := pInt (fun _ _ => true) fun i j => i - j
theorem op_sub' : OpR X (binaryOp .Sub) (rI (fun _ _ => True) fun i j => .int (i - j)) := fun pins s σ H x y v u Q I rx ry ⟨i, j, e1, e2, _, q⟩ => op_sub pins s σ H x y v u Q I rx ry ⟨i, j, e1, e2, q⟩
theorem prim_sub : Prim2 G (rI (fun _ _ => True) fun i j => .int (i - j)) pSub := prim_int fun _ _ _ => trivial
def cMul (i j : Int) : Bool := decide (-(2 ^ 64) < i ∧ i < 2 ^ 64) || decide (-(2 ^ 64) < j ∧ j < 2 ^ 64)
def pMulI : D → D → Hm → Re D := pInt cMul fun i j => i * j
theorem prim_mulI : Prim2 G (rI CMul fun i j => .int (i * j)) pMulI := prim_int fun i j e => by
  unfold cMul at e
  rw [Bool.or_eq_true] at e
  exact e.imp of_decide_eq_true of_decide_eq_true
/-- xs * n too -/
def repD : Nat → List D → List D
  | 0, _ => []
  | n + 1, xs => xs ++ repD n xs
def pMul (a b : D) (h : Hm) : Re D := match a, b with
  | .ref i, .int k => match h[i]? with
    | some (.lst xs) => if decide (0 ≤ k ∧ k ≤ 100000) && decide (xs.length * k.toNat ≤ big) then .ok (.ref h.length) (h ++ [.lst (repD k.toNat xs)]) else .no
    | _ => .no
  | a, b => pMulI a b h
def rMulAll : R2 := fun x y H Q => rI CMul (fun i j => .int (i * j)) x y H Q ∨ rRep x y H Q
theorem op_mulAll : OpR X (binaryOp .Mult) rMulAll := OpR.or op_mul op_rep
theorem flat_rep {α : Type} (xs : List α) : ∀ n : Nat, (List.replicate n xs).flatten = (List.range n).foldr (fun _ l => xs ++ l) [] := fun n => by
  induction n with
  | zero => rfl
  | succ n ih =>
    rw [List.replicate_succ, List.flatten_cons, ih, List.range_succ_eq_map, List.foldr_cons, List.foldr_map]
def cFd (_ j : Int) : Bool := decide (0 < j) && decide (j.natAbs.log2 < 9000)
def pFd : D → D → Hm → Re D := pInt cFd fun i j => i / j
theorem prim_fd : Prim2 G (rI CDivW fun i j => .int (i / j)) pFd := prim_int fun i j e => by
  unfold cFd at e
  rw [Bool.and_eq_true] at e
  exact ⟨of_decide_eq_true e.1, of_decide_eq_true e.2⟩
def pMd : D → D → Hm → Re D := pInt (fun _ j => decide (0 < j)) fun i j => i % j
theorem prim_md : Prim2 G (rI (fun _ j => 0 < j) fun i j => .int (i % j)) pMd := prim_int fun _ _ e => of_decide_eq_true e
def cPw (i j : Int) : Bool := decide (0 ≤ j) && decide (j ≤ 1000000) && decide (i.natAbs < 2 ^ 64)
def pPw : D → D → Hm → Re D := pInt cPw fun i j => i ^ j.toNat
theorem prim_pw : Prim2 G (rI CPow fun i j => .int (i ^ j.toNat)) pPw := prim_int fun i j e => by
  unfold cPw at e
  rw [Bool.and_eq_true, Bool.and_eq_true] at e
  exact ⟨of_decide_eq_true e.1.1, of_decide_eq_true e.1.2, of_decide_eq_true e.2⟩
def pCmp (f : Int → Int → Bool) (a b : D) (h : Hm) : Re D := match a, b with
  | .int i, .int j => .ok (.bl (f i j)) h
  | _, _ => .no
theorem prim_cmp {f : Int → Int → Bool} : Prim2 G (rI0 fun i j => .bl (f i j)) (pCmp f) := by
  intro W r H h a b x y Q s ra rb p
  cases ra with
  | int i =>
    cases rb with
    | int j => exact ⟨i, j, rfl, rfl, p (.bl _) H r Gr.refl s (.bl _)⟩
    | _ => exact p.elim
  | _ => exact p.elim
abbrev pLt := pCmp fun i j => decide (i < j)
abbrev pLe := pCmp fun i j => decide (i ≤ j)
abbrev pGt := pCmp fun i j => decide (j < i)
abbrev pGe := pCmp fun i j => decide (j ≤ i)
/-! ### is None, is True, is False -/
def isNon : D → Bool
  | .non => true
  | _ => false
def pIs (neg : Bool) (a b : D) (h : Hm) : Re D := match b with
  | .non => .ok (.bl (if neg then !isNon a else isNon a)) h
  | .bl y => match a with
    | .bl x => .ok (.bl (if neg then !(x == y) else x == y)) h
    | _ => .no
  | _ => .no
def rIsAll (neg : Bool) : R2 := fun x y H Q => (y = .non ∧ Q (.bl (if neg then !decide (x = .non) else decide (x = .non))) H) ∨ (∃ a b, x = .bl a ∧ y = .bl b ∧ Q (.bl (if neg then !decide (a = b) else decide (a = b))) H)
theorem op_isAll : OpR X (compareOp .Is) (rIsAll false) := OpR.or op_isN op_is_bl
theorem op_isNotAll : OpR X (compareOp .IsNot) (rIsAll true) := OpR.or op_notN op_isnot_bl
theorem prim_is {neg : Bool} : Prim2 G (rIsAll neg) (pIs neg) := by
  intro W r H h a b x y Q s ra rb p
  cases rb with
  | non =>
    left
    refine ⟨rfl, ?_⟩
    have e : decide (x = V.non) = isNon a := by cases ra <;> simp [isNon]
    rw [e]
    exact p (.bl _) H r Gr.refl s (.bl _)
  | bl y =>
    right
    cases ra with
    | bl x =>
      refine ⟨x, y, rfl, rfl, ?_⟩
      have e : decide (x = y) = (x == y) := by cases x <;> cases y <;> rfl
      rw [e]
      exact p (.bl _) H r Gr.refl s (.bl _)
    | _ => exact p.elim
  | _ => exact p.elim
end
end L2.Lv
end
section
set_option maxRecDepth 100000
set_option maxHeartbeats 4000000
set_option autoImplicit false
namespace L2.Lv
open PySem PySem.Spec PyProof.Rows

/-! ### an index -/
def atD {α : Type} (xs : List α) (i : Int) : Option α := if 0 ≤ i then xs[i.toNat]? else if -(xs.length : Int) ≤ i then xs[(i + xs.length).toNat]? else none
theorem atD_atI {α : Type} {xs : List α} {i : Int} {x : α} (h : atD xs i = some x) : atI xs i = some x := by
  unfold atD at h
  unfold atI ixN
  by_cases c : 0 ≤ i
  · rw [if_pos c] at h ⊢
    have l := (List.getElem?_eq_some_iff.mp h).1
    rw [if_pos (show i < (xs.length : Int) by omega)]
    exact h
  · rw [if_neg c] at h ⊢
    by_cases c2 : -(xs.length : Int) ≤ i
    · rw [if_pos c2] at h ⊢
      exact h
    · rw [if_neg c2] at h
      cases h
def pIdx (a b : D) (h : Hm) : Re D := match b with
  | .int i => match a with
    | .tup xs => match atD xs i with
      | some d => .ok d h
      | none => .no
    | .str s => if s.length ≤ big then match atD s i with
        | some c => .ok (.str [c]) h
        | none => .no
      else .no
    | .ref n => match itemsOf h n with
      | some xs => match atD xs i with
        | some d => .ok d h
        | none => .no
      | none => .no
    | _ => .no
  | _ => .no
section
variable {G : Gx} {X : Cx} {W : WX} {x y z : Expr} {xs : List Expr} {ma mb mc : ME} {mt mu : MT} {ms : MA} {pos : Pos} {r : List Addr} {H : Hp} {h : Hm}
theorem atD_rep {ds : List D} {vs : List V} {i : Int} {d : D} (q : Reps G r H ds vs) (e : atD ds i = some d) : ∃ v, atI vs i = some v ∧ Rep G r H d v := by
  have l := q.length
  unfold atD at e
  by_cases c : 0 ≤ i
  · rw [if_pos c] at e
    obtain ⟨v, h1, h2⟩ := q.get e
    exact ⟨v, atD_atI (by unfold atD; rw [if_pos c]; exact h1), h2⟩
  · rw [if_neg c] at e
    by_cases c2 : -(ds.length : Int) ≤ i
    · rw [if_pos c2] at e
      obtain ⟨v, h1, h2⟩ := q.get e
      exact ⟨v, atD_atI (by unfold atD; rw [if_neg c, if_pos (by rw [← l]; exact c2), ← l]; exact h1), h2⟩
    · rw [if_neg c2] at e
      cases e
theorem prim_idx : Prim2 G (rIx G.K) pIdx := by
  intro W r H h a b x y Q s ra rb p
  cases rb with
  | int i =>
    cases ra with
    | tup h1 h2 =>
      rename_i ta va da
      simp only [pIdx] at p
      split at p
      · rename_i d e
        obtain ⟨v, e1, e2⟩ := atD_rep h2 e
        exact .inr (.inl ⟨_, _, _, v, rfl, rfl, h1, e1, p v H r Gr.refl s e2⟩)
      · exact p.elim
    | str t =>
      simp only [pIdx] at p
      split at p
      · rename_i c
        split at p
        · rename_i d e
          refine .inr (.inr ⟨_, i, d, rfl, rfl, by simpa [Str.length] using big_le c, ?_, ?_⟩)
          · simpa using atD_atI e
          · exact p _ H r Gr.refl s (.str [d])
        · exact p.elim
      · exact p.elim
    | ref hn =>
      simp only [pIdx] at p
      split at p
      · rename_i xs e0
        split at p
        · rename_i d e
          obtain ⟨vs, q1, q2⟩ := items_seq s hn e0
          obtain ⟨v, e1, e2⟩ := atD_rep q2 e
          exact .inl ⟨_, _, _, v, rfl, rfl, q1, e1, p v H r Gr.refl s e2⟩
        · exact p.elim
      · exact p.elim
    | _ => exact p.elim
  | _ => exact p.elim
theorem se_ix {rr : R2} {p : D → D → Hm → Re D} (ho : IxR X rr) (hp : Prim2 G rr p) (ha : SE G X W x ma) (hb : SE G X W y mb) (hs : PlainIx y) : SE G X W (.Subscript x y pos) (mBin p ma mb) :=
  ⟨pe_imp (pe_ix ho ha.pe hb.pe hs) fun _ _ _ u => tOp_of hp u⟩

/-! ### calls of built-in functions -/
def mApp (p : List D → Hm → Re D) (a : MA) : ME := fun e h => (a e h).bind p
def PrimC (G : Gx) (rr : List V → Hp → VK → Prop) (p : List D → Hm → Re D) : Prop := ∀ (W : XK) (r : List Addr) (H : Hp) (h : Hm) (as : List D) (xs : List V) (Q : VK), Sim G r H h → Reps G r H as xs → Post G W (RD G) r H (p as h) Q → rr xs H Q
theorem tCB_of {rr : List V → Hp → VK → Prop} {p : List D → Hm → Re D} (hp : PrimC G rr p) {σ : L2.St} {H : Hp} {Q : VK} (u : uE G W (mApp p ms) σ H Q) : tCB rr (uA G W ms) σ H Q := by
  obtain ⟨r, h, e, s, en, q⟩ := u
  refine uG_weak (stepP s en q) ?_
  rintro v H1 ⟨r1, h1, a, g1, s1, en1, ra, p1⟩
  exact hp _ r1 H1 h1 a v Q s1 ra p1
section
variable {n : Str} {id T : String} {rr : List V → Hp → VK → Prop} {p : List D → Hm → Re D} {np : Pos}
theorem se_callB (hc : CallR X (.builtin id) rr) (hp : PrimC G rr p) (hm : X.mg n = none) (hv : bootBuiltins n = some (.builtin id)) (ha : SA G X W (x :: xs) ms) (hg : Gl X n := by rfl) (hn : n ≠ "__name__" := by decide) (hdb : (n == ("__debug__" : Str)) = false := by decide)
    (he : starEach (x :: xs) X.env = (false, eval x X.env) :: starEach xs X.env := by rfl) (hpl : (backTo pos (starEach xs X.env)).any (·.1) = false := by rfl) : SE G X W (.Call (.Name n np) (x :: xs) [] pos) (mApp p ms) :=
  ⟨pe_imp (pe_callB hc hg hm hv ha.pa hn hdb he hpl) fun _ _ _ u => tCB_of hp u⟩
theorem se_callTy (hc : CallR X (.type T) rr) (hp : PrimC G rr p) (hm : X.mg n = none) (hv : bootBuiltins n = some (.type T)) (ha : SA G X W (x :: xs) ms) (hg : Gl X n := by rfl) (hn : n ≠ "__name__" := by decide) (hdb : (n == ("__debug__" : Str)) = false := by decide)
    (he : starEach (x :: xs) X.env = (false, eval x X.env) :: starEach xs X.env := by rfl) (hpl : (backTo pos (starEach xs X.env)).any (·.1) = false := by rfl) : SE G X W (.Call (.Name n np) (x :: xs) [] pos) (mApp p ms) :=
  ⟨pe_imp (pe_callTy hc hg hm hv ha.pa hn hdb he hpl) fun _ _ _ u => tCB_of hp u⟩
end
def pLen (as : List D) (h : Hm) : Re D := match as with
  | [.tup xs] => .ok (.int xs.length) h
  | [.str s] => if s.length ≤ big then .ok (.int s.length) h else .no
  | [.ref n] => match itemsOf h n with
    | some xs => .ok (.int xs.length) h
    | none => .no
  | _ => .no
def rLenAll (K : PySem.W.Frag) : List V → Hp → VK → Prop := fun xs H Q => (∃ p ys, xs = [.ref p] ∧ (SqL K H p ys ∨ SqT K H p ys) ∧ Q (.int ys.length) H) ∨ ∃ z, xs = [.str z] ∧ z.length ≤ sizeLine ∧ Q (.int z.length) H
theorem call_lenAll : CallR X (.builtin "len") (rLenAll X.K) := CallR.or call_len_seq call_len_str
theorem primC_len : PrimC G (rLenAll G.K) pLen := by
  intro W r H h as xs Q s ra p
  cases ra with
  | nil => exact p.elim
  | cons q t =>
    cases t with
    | cons _ _ => unfold pLen at p; split at p <;> first | (rename_i e; cases e) | exact p.elim
    | nil =>
      cases q with
      | tup h1 h2 => exact .inl ⟨_, _, rfl, .inr h1, by rw [← h2.length]; exact p (.int _) H r Gr.refl s (.int _)⟩
      | str t =>
        simp only [pLen] at p
        split at p
        · rename_i c
          have e : (⟨t.toArray⟩ : Str).length = t.length := by simp [Str.length]
          exact .inr ⟨_, rfl, by rw [e]; exact big_le c, by rw [e]; exact p (.int _) H r Gr.refl s (.int _)⟩
        · exact p.elim
      | ref hn =>
        simp only [pLen] at p
        split at p
        · rename_i xs e
          obtain ⟨vs, q1, q2⟩ := items_seq s hn e
          exact .inl ⟨_, _, rfl, .inl q1, by rw [← q2.length]; exact p (.int _) H r Gr.refl s (.int _)⟩
        · exact p.elim
      | _ => exact p.elim
def seqOf (h : Hm) : D → Option (List D)
  | .tup xs => some xs
  | .ref n => itemsOf h n
  | _ => none
theorem seq_rep {d : D} {v : V} {xs : List D} (s : Sim G r H h) (q : Rep G r H d v) (e : seqOf h d = some xs) : ∃ p vs, v = .ref p ∧ (SqL G.K H p vs ∨ SqT G.K H p vs) ∧ Reps G r H xs vs := by
  cases q with
  | tup h1 h2 => cases e; exact ⟨_, _, rfl, .inr h1, h2⟩
  | ref hn =>
    obtain ⟨vs, q1, q2⟩ := items_seq s hn e
    exact ⟨_, vs, rfl, .inl q1, q2⟩
  | _ => cases e
def pList (as : List D) (h : Hm) : Re D := match as with
  | [d] => match seqOf h d with
    | some xs => newL xs h
    | none => .no
  | _ => .no
theorem primC_list : PrimC G (fun xs H Q => ∃ p ys, xs = [.ref p] ∧ (SqL G.K H p ys ∨ SqT G.K H p ys) ∧ ∀ l, H l = none → Q (.ref l) (upd H l (.lst ys))) pList := by
  intro W r H h as xs Q s ra p
  cases ra with
  | nil => exact p.elim
  | cons q t =>
    cases t with
    | cons _ _ => exact p.elim
    | nil =>
      simp only [pList] at p
      split at p
      · rename_i ds e
        obtain ⟨a, vs, rfl, e1, e2⟩ := seq_rep s q e
        exact ⟨a, vs, rfl, e1, (post_newL s e2 p).2⟩
      · exact p.elim
def pTuple (as : List D) (h : Hm) : Re D := match as with
  | [.tup xs] => .ok (.tup xs) h
  | [.ref n] => match itemsOf h n with
    | some xs => if xs.length ≤ big then .ok (.tup xs) h else .no
    | none => .no
  | _ => .no
theorem primC_tuple : PrimC G (fun xs H Q => ∃ p ys, xs = [.ref p] ∧ ((SqL G.K H p ys ∧ ∀ l, H l = none → Q (.ref l) (upd H l (.tup ys))) ∨ (SqT G.K H p ys ∧ Q (.ref p) H))) pTuple := by
  intro W r H h as xs Q s ra p
  cases ra with
  | nil => exact p.elim
  | cons q t =>
    cases t with
    | cons _ _ => unfold pTuple at p; split at p <;> first | (rename_i e; cases e) | exact p.elim
    | nil =>
      cases q with
      | tup h1 h2 => exact ⟨_, _, rfl, .inr ⟨h1, p _ H r Gr.refl s (.tup h1 h2)⟩⟩
      | ref hn =>
        simp only [pTuple] at p
        split at p
        · rename_i ds e
          obtain ⟨vs, q1, q2⟩ := items_seq s hn e
          exact ⟨_, _, rfl, .inl ⟨q1, (post_newT s q2 p).2⟩⟩
        · exact p.elim
      | _ => exact p.elim
/-- ints of a list -/
def intsD : List D → Option (List Int)
  | [] => some []
  | .int i :: r => match intsD r with
    | some l => some (i :: l)
    | none => none
  | _ :: _ => none
theorem ints_rep : ∀ {ds : List D} {vs : List V} {ns : List Int}, Reps G r H ds vs → intsD ds = some ns → vs = ns.map V.int
  | _, _, _, .nil, e => by cases e; rfl
  | _, _, ns, .cons (d := d) (ds := ds) a b, e => by
    cases a with
    | int i =>
      simp only [intsD] at e
      split at e
      · rename_i l el
        cases e
        rw [ints_rep b el]
        rfl
      · cases e
    | _ => cases e
def foldM (f : Int → Int → Int) : List Int → Option Int
  | [] => none
  | i :: r => some (r.foldl f i)
def pInt1 (as : List D) (h : Hm) : Re D := match as with
  | [.int i] => .ok (.int i) h
  | [.bl b] => .ok (.int (if b then 1 else 0)) h
  | _ => .no
theorem primC_int : PrimC G (fun xs H Q => (∃ i, xs = [.int i] ∧ Q (.int i) H) ∨ ∃ k, xs = [.bl k] ∧ Q (.int (if k then 1 else 0)) H) pInt1 := by
  intro W r H h as xs Q s ra p
  cases ra with
  | nil => exact p.elim
  | cons q t =>
    cases t with
    | cons _ _ => unfold pInt1 at p; split at p <;> first | (rename_i e; cases e) | exact p.elim
    | nil =>
      cases q with
      | int i => exact .inl ⟨i, rfl, p _ H r Gr.refl s (.int i)⟩
      | bl b => exact .inr ⟨b, rfl, p _ H r Gr.refl s (.int _)⟩
      | _ => exact p.elim
def pMM (f : Int → Int → Int) (as : List D) (h : Hm) : Re D := match as with
  | [.int i, .int j] => .ok (.int (f i j)) h
  | [.ref n] => match itemsOf h n with
    | some xs => match intsD xs with
      | some ns => match foldM f ns with
        | some m => .ok (.int m) h
        | none => .no
      | none => .no
    | none => .no
  | _ => .no
def maxI (i j : Int) : Int := if j > i then j else i
def minI (i j : Int) : Int := if j < i then j else i
theorem fold_max : ∀ (ns : List Int) (m : Int), (ns.foldl maxI m ∈ m :: ns ∧ ∀ y ∈ m :: ns, y ≤ ns.foldl maxI m)
  | [], m => by simp
  | n :: ns, m => by
    obtain ⟨h1, h2⟩ := fold_max ns (maxI m n)
    refine ⟨?_, fun y hy => ?_⟩
    · rw [List.foldl_cons]
      rcases List.mem_cons.mp h1 with e | e
      · rw [e]
        unfold maxI
        split
        · simp
        · simp
      · exact List.mem_cons_of_mem _ (List.mem_cons_of_mem _ e)
    · rw [List.foldl_cons]
      have hm : maxI m n ≤ ns.foldl maxI (maxI m n) := h2 _ List.mem_cons_self
      have a1 : m ≤ maxI m n := by unfold maxI; split <;> omega
      have a2 : n ≤ maxI m n := by unfold maxI; split <;> omega
      rcases List.mem_cons.mp hy with e | e
      · omega
      · rcases List.mem_cons.mp e with e | e
        · omega
        · exact h2 y (List.mem_cons_of_mem _ e)
theorem fold_min : ∀ (ns : List Int) (m : Int), (ns.foldl minI m ∈ m :: ns ∧ ∀ y ∈ m :: ns, ns.foldl minI m ≤ y)
  | [], m => by simp
  | n :: ns, m => by
    obtain ⟨h1, h2⟩ := fold_min ns (minI m n)
    refine ⟨?_, fun y hy => ?_⟩
    · rw [List.foldl_cons]
      rcases List.mem_cons.mp h1 with e | e
      · rw [e]
        unfold minI
        split
        · simp
        · simp
      · exact List.mem_cons_of_mem _ (List.mem_cons_of_mem _ e)
    · rw [List.foldl_cons]
      have hm : ns.foldl minI (minI m n) ≤ minI m n := h2 _ List.mem_cons_self
      have a1 : minI m n ≤ m := by unfold minI; split <;> omega
      have a2 : minI m n ≤ n := by unfold minI; split <;> omega
      rcases List.mem_cons.mp hy with e | e
      · omega
      · rcases List.mem_cons.mp e with e | e
        · omega
        · exact h2 y (List.mem_cons_of_mem _ e)
def rMaxAll (K : PySem.W.Frag) : List V → Hp → VK → Prop := fun xs H Q => (∃ i j, xs = [.int i, .int j] ∧ Q (.int (if j > i then j else i)) H) ∨ rMax K xs H Q
def rMinAll (K : PySem.W.Frag) : List V → Hp → VK → Prop := fun xs H Q => (∃ i j, xs = [.int i, .int j] ∧ Q (.int (if j < i then j else i)) H) ∨ rMin K xs H Q
theorem call_maxAll (hc : X.calm = true) : CallR X (.builtin "max") (rMaxAll X.K) := CallR.or (call_max2 hc) (cr_max hc)
theorem call_minAll (hc : X.calm = true) : CallR X (.builtin "min") (rMinAll X.K) := CallR.or (call_min2 hc) (cr_min hc)
theorem le_antisymm_of {m k : Int} {ns : List Int} (h1 : m ∈ ns) (h2 : ∀ y ∈ ns, y ≤ m) (g1 : k ∈ ns) (g2 : ∀ y ∈ ns, y ≤ k) : m = k := by
  have := h2 k g1
  have := g2 m h1
  omega
theorem ge_antisymm_of {m k : Int} {ns : List Int} (h1 : m ∈ ns) (h2 : ∀ y ∈ ns, m ≤ y) (g1 : k ∈ ns) (g2 : ∀ y ∈ ns, k ≤ y) : m = k := by
  have := h2 k g1
  have := g2 m h1
  omega
theorem primC_max : PrimC G (rMaxAll G.K) (pMM maxI) := by
  intro W r H h as xs Q s ra p
  unfold pMM at p
  split at p
  · rename_i i j
    cases ra with
    | cons q1 t1 =>
      cases t1 with
      | cons q2 t2 =>
        cases t2
        cases q1
        cases q2
        exact .inl ⟨i, j, rfl, p (.int _) H r Gr.refl s (.int _)⟩
  · rename_i n
    cases ra with
    | cons q1 t1 =>
      cases t1
      cases q1 with
      | ref hn =>
        split at p
        · rename_i xs e
          split at p
          · rename_i ns e2
            split at p
            · rename_i m e3
              obtain ⟨vs, q1, q2⟩ := items_seq s hn e
              have ev := ints_rep q2 e2
              subst ev
              cases ns with
              | nil => cases e3
              | cons k ns =>
                have e3 : ns.foldl maxI k = m := Option.some.inj e3
                obtain ⟨f1, f2⟩ := fold_max ns k
                refine .inr ⟨_, _, rfl, q1, Nat.succ_pos _, fun m' h1 h2 => ?_⟩
                rw [le_antisymm_of h1 h2 f1 f2, e3]
                exact p (.int _) H r Gr.refl s (.int _)
            · exact p.elim
          · exact p.elim
        · exact p.elim
  · exact p.elim
theorem primC_min : PrimC G (rMinAll G.K) (pMM minI) := by
  intro W r H h as xs Q s ra p
  unfold pMM at p
  split at p
  · rename_i i j
    cases ra with
    | cons q1 t1 =>
      cases t1 with
      | cons q2 t2 =>
        cases t2
        cases q1
        cases q2
        exact .inl ⟨i, j, rfl, p (.int _) H r Gr.refl s (.int _)⟩
  · rename_i n
    cases ra with
    | cons q1 t1 =>
      cases t1
      cases q1 with
      | ref hn =>
        split at p
        · rename_i xs e
          split at p
          · rename_i ns e2
            split at p
            · rename_i m e3
              obtain ⟨vs, q1, q2⟩ := items_seq s hn e
              have ev := ints_rep q2 e2
              subst ev
              cases ns with
              | nil => cases e3
              | cons k ns =>
                have e3 : ns.foldl minI k = m := Option.some.inj e3
                obtain ⟨f1, f2⟩ := fold_min ns k
                refine .inr ⟨_, _, rfl, q1, Nat.succ_pos _, fun m' h1 h2 => ?_⟩
                rw [ge_antisymm_of h1 h2 f1 f2, e3]
                exact p (.int _) H r Gr.refl s (.int _)
            · exact p.elim
          · exact p.elim
        · exact p.elim
  · exact p.elim
def blsD : List D → Option (List Bool)
  | [] => some []
  | .bl i :: r => match blsD r with
    | some l => some (i :: l)
    | none => none
  | _ :: _ => none
theorem bls_rep : ∀ {ds : List D} {vs : List V} {ns : List Bool}, Reps G r H ds vs → blsD ds = some ns → vs = ns.map V.bl
  | _, _, _, .nil, e => by cases e; rfl
  | _, _, ns, .cons (d := d) (ds := ds) a b, e => by
    cases a with
    | bl i =>
      simp only [blsD] at e
      split at e
      · rename_i l el
        cases e
        rw [bls_rep b el]
        rfl
      · cases e
    | _ => cases e
def pAA (f : List Bool → Bool) (as : List D) (h : Hm) : Re D := match as with
  | [.ref n] => match itemsOf h n with
    | some xs => match blsD xs with
      | some bs => .ok (.bl (f bs)) h
      | none => .no
    | none => .no
  | _ => .no
theorem primC_aa {f : List Bool → Bool} : PrimC G (fun vs H Q => ∃ (a : Addr) (bs : List Bool), vs = [V.ref a] ∧ SqL G.K H a (bs.map V.bl) ∧ Q (.bl (f bs)) H) (pAA f) := by
  intro W r H h as xs Q s ra p
  unfold pAA at p
  split at p
  · rename_i n
    cases ra with
    | cons q1 t1 =>
      cases t1
      cases q1 with
      | ref hn =>
        split at p
        · rename_i xs e
          split at p
          · rename_i ns e2
            obtain ⟨vs, q1, q2⟩ := items_seq s hn e
            have ev := bls_rep q2 e2
            subst ev
            exact ⟨_, ns, rfl, q1, p (.bl _) H r Gr.refl s (.bl _)⟩
          · exact p.elim
        · exact p.elim
  · exact p.elim

/-! ### methods of built-in kinds -/
def mMeth (p : D → List D → Hm → Re D) (o : ME) (a : MA) : ME := fun e h => (o e h).bind fun x h1 => (a e h1).bind fun xs h2 => p x xs h2
def PrimM (G : Gx) (T : String) (rr : V → List V → Hp → VK → Prop) (p : D → List D → Hm → Re D) : Prop :=
  ∀ (W : XK) (r : List Addr) (H : Hp) (h : Hm) (a : D) (as : List D) (x : V) (xs : List V) (Q : VK), Sim G r H h → Rep G r H a x → Reps G r H as xs → Post G W (RD G) r H (p a as h) Q → rr x xs H Q
def isLst (h : Hm) : D → Bool
  | .ref n => match itemsOf h n with
    | some _ => true
    | none => false
  | _ => false
def isStr : D → Bool
  | .str _ => true
  | _ => false
theorem lst_ty {d : D} {v : V} (s : Sim G r H h) (q : Rep G r H d v) (e : isLst h d = true) : tyV G.K "list" v H := by
  cases q with
  | ref hn =>
    simp only [isLst] at e
    split at e
    · rename_i xs e1
      obtain ⟨vs, q1, q2⟩ := items_seq s hn e1
      exact .inl ⟨rfl, vs, q1⟩
    · cases e
  | _ => cases e
/-- a list's method: the kind is looked at ahead of the arguments -/
def mMethL (p : D → List D → Hm → Re D) (o : ME) (a : MA) : ME := fun e h => (o e h).bind fun x h1 => if isLst h1 x = true then (a e h1).bind fun xs h2 => p x xs h2 else .no
theorem tBM_of (hK : X.K = G.K) {rr : V → List V → Hp → VK → Prop} {p : D → List D → Hm → Re D} (hp : PrimM G "list" rr p) {σ : L2.St} {H : Hp} {Q : VK} (u : uE G W (mMethL p ma ms) σ H Q) : tBM X.K "list" rr (uE G W ma) (uA G W ms) σ H Q := by
  obtain ⟨r, h, e, s, en, q⟩ := u
  refine uG_weak (stepP s en q) ?_
  rintro v H1 ⟨r1, h1, a, g1, s1, en1, ra, p1⟩
  split at p1
  · rename_i c
    refine ⟨by rw [hK]; exact lst_ty s1 ra c, ?_⟩
    refine uG_weak (stepP s1 en1 p1) ?_
    rintro vs H2 ⟨r2, h2, as, g2, s2, en2, rs, p2⟩
    exact hp _ r2 H2 h2 a as v vs Q s2 (ra.mono g2) rs p2
  · exact p1.elim
def pAppend (a : D) (as : List D) (h : Hm) : Re D := match a, as with
  | .ref n, [d] => match h[n]? with
    | some (.lst xs) => if xs.length < big then .ok .non (h.set n (.lst (xs ++ [d]))) else .no
    | _ => .no
  | _, _ => .no
theorem primM_append : PrimM G "list" rAppend pAppend := by
  intro W r H h a as x xs Q s ra rs p
  unfold pAppend at p
  split at p
  · rename_i n d
    cases rs with
    | cons q t =>
      cases t
      cases ra with
      | ref hn =>
        obtain ⟨ob, e1, o⟩ := s.get hn
        rw [e1] at p
        cases ob with
        | lst ys =>
          simp only at p
          split at p
          · rename_i c
            obtain ⟨vs, h1, h2⟩ := o
            refine ⟨_, vs, _, rfl, rfl, h1, by rw [← h2.length]; exact Nat.lt_of_lt_of_le c (big_le (Nat.le_refl _)), ?_⟩
            obtain ⟨s', g⟩ := s.put (ob := .lst (ys ++ [d])) (o := .lst (vs ++ [_])) hn fun g => ⟨_, upd_same, (h2.mono g).append (.cons (q.mono g) .nil)⟩
            exact p .non _ r g s' .non
          · exact p.elim
        | _ => exact p.elim
  · exact p.elim
def pExtend (a : D) (as : List D) (h : Hm) : Re D := match a, as with
  | .ref n, [.ref m] => match h[n]?, h[m]? with
    | some (.lst xs), some (.lst ys) => if xs.length + ys.length ≤ big then .ok .non (h.set n (.lst (xs ++ ys))) else .no
    | _, _ => .no
  | _, _ => .no
theorem primM_extend : PrimM G "list" rExtend pExtend := by
  intro W r H h a as x xs Q s ra rs p
  unfold pExtend at p
  split at p
  · rename_i n m
    cases rs with
    | cons q t =>
      cases t
      cases q with
      | ref hm =>
        cases ra with
        | ref hn =>
          obtain ⟨ob, e1, o⟩ := s.get hn
          obtain ⟨ob2, e2, o2⟩ := s.get hm
          rw [e1, e2] at p
          cases ob with
          | lst ys =>
            cases ob2 with
            | lst zs =>
              simp only at p
              split at p
              · rename_i c
                obtain ⟨vs, h1, h2⟩ := o
                obtain ⟨ws, k1, k2⟩ := o2
                refine ⟨_, _, vs, ws, rfl, rfl, h1, k1, by rw [← h2.length, ← k2.length]; exact big_le c, ?_⟩
                obtain ⟨s', g⟩ := s.put (ob := .lst (ys ++ zs)) (o := .lst (vs ++ ws)) hn fun g => ⟨_, upd_same, (h2.mono g).append (k2.mono g)⟩
                exact p .non _ r g s' .non
              · exact p.elim
            | _ => exact p.elim
          | _ => exact p.elim
  · exact p.elim
def pPop (a : D) (as : List D) (h : Hm) : Re D := match a, as with
  | .ref n, [] => match h[n]? with
    | some (.lst xs) => match xs[xs.length - 1]? with
      | some d => .ok d (h.set n (.lst xs.dropLast))
      | none => .no
    | _ => .no
  | _, _ => .no
theorem primM_pop : PrimM G "list" rPop pPop := by
  intro W r H h a as x xs Q s ra rs p
  unfold pPop at p
  split at p
  · rename_i n
    cases rs with
    | nil =>
      cases ra with
      | ref hn =>
        obtain ⟨ob, e1, o⟩ := s.get hn
        rw [e1] at p
        cases ob with
        | lst ys =>
          simp only at p
          split at p
          · rename_i d e
            obtain ⟨vs, h1, h2⟩ := o
            obtain ⟨v, e2, q⟩ := h2.get e
            refine ⟨_, vs, v, rfl, rfl, h1, by rw [← h2.length]; exact e2, ?_⟩
            obtain ⟨s', g⟩ := s.put (ob := .lst ys.dropLast) (o := .lst vs.dropLast) hn fun g => ⟨_, upd_same, (h2.mono g).dropLast⟩
            exact p v _ r g s' (q.mono g)
          · exact p.elim
        | _ => exact p.elim
  · exact p.elim
def mMethL0 (p : D → List D → Hm → Re D) (o : ME) : ME := fun e h => (o e h).bind fun x h1 => if isLst h1 x = true then p x [] h1 else .no
section
variable {name : Str} {id : String} {rr : V → List V → Hp → VK → Prop} {p : D → List D → Hm → Re D} {apos : Pos}
theorem se_methL (slot : Slot "list" name id) (hty : typeOf (.builtin id) = pure (.type "method_descriptor")) (hm : MtR X id rr) (hp : PrimM G "list" rr p) (hK : X.K = G.K) (ho : SE G X W z ma) (ha : SA G X W (x :: xs) ms)
    (hbase : attributeBase z name X.env (eval z X.env) = eval z X.env := by rfl)
    (hfew : ((backTo pos (starEach (x :: xs) X.env)).all (fun x => !x.1) && (backToKw pos (keywordEach [] X.env)).all (fun x => x.1.isSome)
      && decide ((x :: xs).length + ([] : List Keyword).length + (if ([] : List Keyword).isEmpty then 0 else 1) < 30)) = true := by rfl)
    (hline : (apos.endLine == pos.line) = true := by rfl) (hs : starEach (x :: xs) X.env = (false, eval x X.env) :: starEach xs X.env := by rfl) (hplain : (backTo pos (starEach xs X.env)).any (·.1) = false := by rfl) :
    SE G X W (.Call (.Attribute z name apos) (x :: xs) [] pos) (mMethL p ma ms) :=
  ⟨pe_imp (pe_bm PySem.F.plainAttrs_list slot hty hm ho.pe ha.pa hbase hfew hline hs hplain) fun _ _ _ u => tBM_of hK hp u⟩
theorem se_methL0 (slot : Slot "list" name id) (hty : typeOf (.builtin id) = pure (.type "method_descriptor")) (hm : MtR X id rr) (hp : PrimM G "list" rr p) (hK : X.K = G.K) (ho : SE G X W z ma)
    (hbase : attributeBase z name X.env (eval z X.env) = eval z X.env := by rfl) (hline : (apos.endLine == pos.line) = true := by rfl) :
    SE G X W (.Call (.Attribute z name apos) [] [] pos) (mMethL0 p ma) := by
  refine ⟨pe_imp (pe_bm0 PySem.F.plainAttrs_list slot hty hm ho.pe hbase hline) fun σ H Q u => ?_⟩
  obtain ⟨r, h, e, s, en, q⟩ := u
  refine uG_weak (stepP s en q) ?_
  rintro v H1 ⟨r1, h1, a, g1, s1, en1, ra, p1⟩
  split at p1
  · rename_i c
    exact ⟨by rw [hK]; exact lst_ty s1 ra c, hp _ r1 H1 h1 a [] v [] Q s1 ra .nil p1⟩
  · exact p1.elim
end
end
end L2.Lv
end
section
set_option maxRecDepth 100000
set_option maxHeartbeats 4000000
set_option autoImplicit false
namespace L2.Lv
open PySem PySem.Spec PyProof.Rows

/-! ### statements -/
def PostS (G : Gx) (W : WX) (Z : Ends) (r : List Addr) (H : Hp) (x : Rs) : Prop := match x with
  | .nx e' h' => ∀ σ' H' r', Gr G r H r' H' → Sim G r' H' h' → EnR G r' H' e' σ' → Z.nx σ' H'
  | .rt d h' => ∀ v H' r', Gr G r H r' H' → Sim G r' H' h' → Rep G r' H' d v → Z.rt v H'
  | .bk e' h' => ∀ σ' H' r', Gr G r H r' H' → Sim G r' H' h' → EnR G r' H' e' σ' → Z.bk σ' H'
  | .ct e' h' => ∀ σ' H' r', Gr G r H r' H' → Sim G r' H' h' → EnR G r' H' e' σ' → Z.ct σ' H'
  | .ex c d e' h' => ∀ v σ' H' r' dd, Gr G r H r' H' → Sim G r' H' h' → EnR G r' H' e' σ' → Rep G r' H' d v → H' dd = some (.xd [(G.xf c, v)]) → W (.ref (G.ga c)) (some dd) σ' H'
  | .no => False
theorem PostS.mono {G : Gx} {W : WX} {Z : Ends} {r r' : List Addr} {H H' : Hp} {x : Rs} (g : Gr G r H r' H') (p : PostS G W Z r H x) : PostS G W Z r' H' x := by
  cases x with
  | nx e h => exact fun σ H2 r2 g2 => p σ H2 r2 (g.trans g2)
  | rt d h => exact fun σ H2 r2 g2 => p σ H2 r2 (g.trans g2)
  | bk e h => exact fun σ H2 r2 g2 => p σ H2 r2 (g.trans g2)
  | ct e h => exact fun σ H2 r2 g2 => p σ H2 r2 (g.trans g2)
  | ex c d e h => exact fun v σ H2 r2 dd g2 => p v σ H2 r2 dd (g.trans g2)
  | no => exact p
def uS (G : Gx) (W : WX) (m : MS) : TS := fun Z σ H => ∃ r h e, Sim G r H h ∧ EnR G r H e σ ∧ PostS G W Z r H (m e h)
structure SS (G : Gx) (X : Cx) (W : WX) (x : Stmt) (m : MS) : Prop where
  ps : PS X x (uS G W m)
structure SSs (G : Gx) (X : Cx) (W : WX) (xs : List Stmt) (m : MS) : Prop where
  pss : PSs X xs (uS G W m)
def Re.bs {α : Type} (r : Re α) (e : En) (k : α → Hm → Rs) : Rs := match r with
  | .ok a h => k a h
  | .ex c v h => .ex c v e h
  | .no => .no
theorem ps_imp {X : Cx} {x : Stmt} {t t' : TS} (h : PS X x t) (w : ∀ Z σ H, t' Z σ H → t Z σ H) : PS X x t' := ⟨fun pins s σ H Z I q => h.run pins s σ H Z I (w Z σ H q)⟩
theorem pss_imp {X : Cx} {x : List Stmt} {t t' : TS} (h : PSs X x t) (w : ∀ Z σ H, t' Z σ H → t Z σ H) : PSs X x t' := ⟨fun pins s σ H Z I q => h.run pins s σ H Z I (w Z σ H q)⟩
section
variable {α β : Type} {G : Gx} {W : WX} {R : List Addr → Hp → α → β → Prop} {r : List Addr} {H : Hp} {σ : L2.St} {h : Hm} {e : En} {Z : Ends}
theorem stepS {m : En → Hm → Re α} {k : α → Hm → Rs} (s : Sim G r H h) (en : EnR G r H e σ) (p : PostS G W Z r H ((m e h).bs e k)) :
    uG G W R m σ H fun b H1 => ∃ (r1 : List Addr) (h1 : Hm) (a : α), Gr G r H r1 H1 ∧ Sim G r1 H1 h1 ∧ EnR G r1 H1 e σ ∧ R r1 H1 a b ∧ PostS G W Z r1 H1 (k a h1) := by
  refine ⟨r, h, e, s, en, ?_⟩
  cases q : m e h with
  | ok a h' =>
    rw [q] at p
    exact fun b H' r' g s' ra => ⟨r', h', a, g, s', en.mono g, ra, PostS.mono g p⟩
  | ex c d h' =>
    rw [q] at p
    exact fun v H' r' dd g s' ra hd => p v σ H' r' dd g s' (en.mono g) ra hd
  | no => rw [q] at p; exact p
end
def mSeq (a b : MS) : MS := fun e h => match a e h with
  | .nx e' h' => b e' h'
  | x => x
theorem seqP {G : Gx} {W : WX} {Z : Ends} {r : List Addr} {H : Hp} {h : Hm} {e : En} {σ : L2.St} {a b : MS} (s : Sim G r H h) (en : EnR G r H e σ) (p : PostS G W Z r H (mSeq a b e h)) : uS G W a { Z with nx := uS G W b Z } σ H := by
  refine ⟨r, h, e, s, en, ?_⟩
  unfold mSeq at p
  cases q : a e h with
  | nx e' h' =>
    simp only [q] at p
    exact fun σ' H' r' g s' en' => ⟨r', h', e', s', en', PostS.mono g p⟩
  | rt d h' => simp only [q] at p; exact p
  | bk e' h' => simp only [q] at p; exact p
  | ct e' h' => simp only [q] at p; exact p
  | ex c d e' h' => simp only [q] at p; exact p
  | no => simp only [q] at p; exact p
def mPass : MS := fun e h => .nx e h
section
variable {G : Gx} {X : Cx} {W : WX} {x y z : Expr} {xs : List Expr} {ma mb mc : ME} {mt mu : MT} {ms : MA} {pos : Pos} {st : Stmt} {sts : List Stmt} {a b : MS}
theorem sss_nil : SSs G X W [] mPass := by
  refine ⟨pss_imp pss_nil fun Z σ H u => ?_⟩
  obtain ⟨r, h, e, s, en, p⟩ := u
  exact p σ H r Gr.refl s en
theorem sss_cons (h1 : SS G X W st a) (h2 : SSs G X W sts b) : SSs G X W (st :: sts) (mSeq a b) := by
  refine ⟨pss_imp (pss_cons h1.ps h2.pss) fun Z σ H u => ?_⟩
  obtain ⟨r, h, e, s, en, p⟩ := u
  exact seqP s en p
theorem sss_one (h1 : SS G X W st a) : SSs G X W [st] a := ⟨pss_one h1.ps⟩
theorem ss_pass : SS G X W (.Pass pos) mPass := by
  refine ⟨ps_imp ps_pass fun Z σ H u => ?_⟩
  obtain ⟨r, h, e, s, en, p⟩ := u
  exact p σ H r Gr.refl s en
def mBreak : MS := fun e h => .bk e h
def mCont : MS := fun e h => .ct e h
theorem ss_break : SS G X W (.Break pos) mBreak := by
  refine ⟨ps_imp ps_break fun Z σ H u => ?_⟩
  obtain ⟨r, h, e, s, en, p⟩ := u
  exact p σ H r Gr.refl s en
theorem ss_cont : SS G X W (.Continue pos) mCont := by
  refine ⟨ps_imp ps_continue fun Z σ H u => ?_⟩
  obtain ⟨r, h, e, s, en, p⟩ := u
  exact p σ H r Gr.refl s en
def mDrop (a : ME) : MS := fun e h => (a e h).bs e fun _ h1 => .nx e h1
theorem ss_expr (ha : SE G X W x ma) (hs : swapsWith x none pos.line X.env = pure false := by rfl) : SS G X W (.Expr x pos) (mDrop ma) := by
  refine ⟨ps_imp (ps_expr ha.pe hs) fun Z σ H u => ?_⟩
  obtain ⟨r, h, e, s, en, p⟩ := u
  refine uG_weak (stepS s en p) ?_
  rintro v H1 ⟨r1, h1, a, g1, s1, en1, ra, p1⟩
  exact p1 σ H1 r1 Gr.refl s1 en1
def mRet (a : ME) : MS := fun e h => (a e h).bs e fun d h1 => .rt d h1
theorem ss_ret (ha : SE G X W x ma) : SS G X W (.Return (some x) pos) (mRet ma) := by
  refine ⟨ps_imp (ps_ret ha.pe) fun Z σ H u => ?_⟩
  obtain ⟨r, h, e, s, en, p⟩ := u
  refine uG_weak (stepS s en p) ?_
  rintro v H1 ⟨r1, h1, a, g1, s1, en1, ra, p1⟩
  exact p1 v H1 r1 Gr.refl s1 ra
def mRetN : MS := fun _ h => .rt .non h
theorem ss_retN : SS G X W (.Return none pos) mRetN := by
  refine ⟨ps_imp ps_retN fun Z σ H u => ?_⟩
  obtain ⟨r, h, e, s, en, p⟩ := u
  exact p .non H r Gr.refl s .non
def mIfS (t : MT) (a b : MS) : MS := fun e h => (t e h).bs e fun c h1 => if c = true then a e h1 else b e h1
theorem ss_if {s1 s2 : List Stmt} (ht : ST G X W x mt) (ha : SSs G X W s1 a) (hb : SSs G X W s2 b) : SS G X W (.If x s1 s2 pos) (mIfS mt a b) := by
  refine ⟨ps_imp (ps_if ht.pt ha.pss hb.pss) fun Z σ H u => ?_⟩
  obtain ⟨r, h, e, s, en, p⟩ := u
  refine uG_weak (stepS s en p) ?_
  rintro v H1 ⟨r1, h1, c, g1, s1, en1, ra, p1⟩
  have ra : c = v := ra
  subst ra
  cases c with
  | true => exact ⟨r1, h1, e, s1, en1, p1⟩
  | false => exact ⟨r1, h1, e, s1, en1, p1⟩

/-! ### targets -/
abbrev MG := D → En → Hm → Option En
/-- the slots but those are as they were -/
def Chg (vs : List Nat) (σ σ' : L2.St) : Prop := σ'.length = σ.length ∧ ∀ j, j ∉ vs → σ'[j]? = σ[j]?
theorem Chg.refl {vs : List Nat} {σ : L2.St} : Chg vs σ σ := ⟨rfl, fun _ _ => rfl⟩
theorem Chg.trans {vs : List Nat} {σ σ' σ2 : L2.St} (a : Chg vs σ σ') (b : Chg vs σ' σ2) : Chg vs σ σ2 := ⟨b.1.trans a.1, fun j h => (b.2 j h).trans (a.2 j h)⟩
theorem Chg.mono {vs ws : List Nat} {σ σ' : L2.St} (a : Chg vs σ σ') (h : ∀ i ∈ vs, i ∈ ws) : Chg ws σ σ' := ⟨a.1, fun j hj => a.2 j fun z => hj (h j z)⟩
theorem wipe_at (σ : L2.St) : ∀ (vs : List Nat) (j : Nat), (wipe σ vs)[j]? = if j ∈ vs then (if j < σ.length then some none else none) else σ[j]?
  | [], j => by simp [wipe]
  | v :: vs, j => by
    unfold wipe
    have ih := wipe_at σ vs j
    by_cases c : v = j
    · subst c
      rw [if_pos List.mem_cons_self]
      by_cases l : v < σ.length
      · rw [if_pos l, List.getElem?_set_self (by rw [wipe_length]; exact l)]
      · rw [if_neg l]
        exact List.getElem?_eq_none (by rw [List.length_set, wipe_length]; omega)
    · rw [List.getElem?_set_ne c, ih]
      by_cases m : j ∈ vs
      · rw [if_pos m, if_pos (List.mem_cons_of_mem _ m)]
      · rw [if_neg m, if_neg (by rw [List.mem_cons]; rintro (z | z); exact c z.symm; exact m z)]
theorem Chg.wipe {vs : List Nat} {σ σ' : L2.St} (a : Chg vs σ σ') : wipe σ' vs = wipe σ vs := by
  apply List.ext_getElem?
  intro j
  rw [wipe_at, wipe_at, a.1]
  split
  · rfl
  · rename_i h
    exact a.2 j h
theorem chg_set {i : Nat} {σ : L2.St} {o : Option V} : Chg [i] σ (σ.set i o) := ⟨List.length_set, fun j h => List.getElem?_set_ne fun z => h (by simp [z])⟩
def uGt (G : Gx) (m : MG) (vs : List Nat) : TG := fun v σ H Q => ∃ r h e d e', Sim G r H h ∧ EnR G r H e σ ∧ Rep G r H d v ∧ m d e h = some e' ∧ ∀ σ', EnR G r H e' σ' → Chg vs σ σ' → Q σ' H
structure SG (G : Gx) (X : Cx) (x : Expr) (m : MG) (vs : List Nat) : Prop where
  pg : PG X x (uGt G m vs)
theorem pg_imp {X : Cx} {x : Expr} {t t' : TG} (h : PG X x t) (w : ∀ v σ H Q, t' v σ H Q → t v σ H Q) : PG X x t' := ⟨fun pins s σ H v u Q I r q => h.run pins s σ H v u Q I r (w v σ H Q q)⟩
theorem pgs_imp {X : Cx} {x : List Expr} {t t' : TGs} (h : PGs X x t) (w : ∀ v σ H Q, t' v σ H Q → t v σ H Q) : PGs X x t' := ⟨fun pins s σ H v u Q I r q => h.run pins s σ H v u Q I r (w v σ H Q q)⟩
def gSet (i : Nat) : MG := fun d e _ => some (e.set i (some d))
theorem sg_name (i : Nat) {n : Str} (hN : X.N.Nodup) (hi : X.N[i]? = some n := by rfl) (hx : Loc X.env.scope n := by first | exact Or.inl rfl | exact Or.inr rfl)
    (hf : X.fn n = true ∨ X.env.scope.names.lookup n = some .local := by first | exact .inl rfl | exact .inr rfl) : SG G X (.Name n pos) (gSet i) [i] :=
  ⟨pg_imp (pg_name hN hi hx hf) fun v σ H Q ⟨r, h, e, d, e', s, en, rd, em, k⟩ => k _ (by cases em; exact en.set rd) chg_set⟩
def gSets : List MG → List D → En → Hm → Option En
  | [], [], e, _ => some e
  | g :: gs, d :: ds, e, h => match g d e h with
    | some e' => gSets gs ds e' h
    | none => none
  | _, _, _, _ => none
def uGts (G : Gx) (m : List MG) (vs : List Nat) : TGs := fun us σ H Q => ∃ r h e ds e', Sim G r H h ∧ EnR G r H e σ ∧ Reps G r H ds us ∧ gSets m ds e h = some e' ∧ ∀ σ', EnR G r H e' σ' → Chg vs σ σ' → Q σ' H
structure SGs (G : Gx) (X : Cx) (xs : List Expr) (m : List MG) (vs : List Nat) : Prop where
  pgs : PGs X xs (uGts G m vs)
theorem sgs_nil : SGs G X [] [] [] := ⟨pgs_imp pgs_nil fun us σ H Q ⟨r, h, e, ds, e', s, en, rd, em, k⟩ => by
  cases rd with
  | nil => cases em; exact ⟨rfl, k σ en Chg.refl⟩
  | cons _ _ => cases em⟩
theorem sgs_cons {g : MG} {gs : List MG} {vs ws : List Nat} (h1 : SG G X x g vs) (h2 : SGs G X xs gs ws) (hs : (assignEach (x :: xs) X.env).map (·.2) = assign x X.env :: (assignEach xs X.env).map (·.2) := by rfl) : SGs G X (x :: xs) (g :: gs) (vs ++ ws) := by
  refine ⟨pgs_imp (pgs_cons h1.pg h2.pgs hs) fun us σ H Q ⟨r, h, e, ds, e', s, en, rd, em, k⟩ => ?_⟩
  cases rd with
  | nil => cases em
  | @cons d v ds us a b =>
    simp only [gSets] at em
    cases q : g d e h with
    | none => rw [q] at em; cases em
    | some e1 =>
      rw [q] at em
      exact ⟨v, us, rfl, r, h, e, d, e1, s, en, a, q, fun σ1 en1 c1 => ⟨r, h, e1, ds, e', s, en1, b, em, fun σ2 en2 c2 => k σ2 en2 ((c1.mono fun i hi => List.mem_append_left _ hi).trans (c2.mono fun i hi => List.mem_append_right _ hi))⟩⟩
/-- a tuple, or a list, of just as many -/
def gTupM (gs : List MG) : MG := fun d e h => match seqOf h d with
  | some ds => if ds.length = gs.length then gSets gs ds e h else none
  | none => none
theorem pg_or {t t' : TG} (h : PG X x t) (h' : PG X x t') : PG X x (fun v σ H Q => t v σ H Q ∨ t' v σ H Q) := ⟨fun pins s σ H v u Q I r q => by
  rcases q with q | q
  · exact h.run pins s σ H v u Q I r q
  · exact h'.run pins s σ H v u Q I r q⟩
theorem sg_tup {gs : List MG} {vs : List Nat} {k : Nat} (hc : X.calm = true) (hK : X.K = G.K) (h : SGs G X xs gs vs) (hn : (assignEach xs X.env).length = gs.length := by rfl) (hst : (assignEach xs X.env).findIdx? (·.1) = none := by rfl) : SG G X (.Tuple xs k pos) (gTupM gs) vs := by
  refine ⟨pg_imp (pg_or (pg_tup hc h.pgs hn hst) (pg_lst hc h.pgs hn hst)) fun v σ H Q ⟨r, h, e, d, e', s, en, rd, em, k⟩ => ?_⟩
  unfold gTupM at em
  split at em
  · rename_i ds e1
    split at em
    · rename_i c
      obtain ⟨a, us, rfl, e2, e3⟩ := seq_rep s rd e1
      rcases e2 with e2 | e2
      · exact .inr ⟨a, us, rfl, by rw [hK]; exact e2, by rw [← e3.length]; exact c, r, h, e, ds, e', s, en, e3, em, k⟩
      · exact .inl ⟨a, us, rfl, by rw [hK]; exact e2, by rw [← e3.length]; exact c, r, h, e, ds, e', s, en, e3, em, k⟩
    · cases em
  · cases em

/-! ### assignments -/
def mSet (i : Nat) (a : ME) : MS := fun e h => (a e h).bs e fun d h1 => .nx (e.set i (some d)) h1
theorem ss_set (i : Nat) {n : Str} {pos' : Pos} (hN : X.N.Nodup) (ha : SE G X W x ma) (hi : X.N[i]? = some n := by rfl) (hx : Loc X.env.scope n := by first | exact Or.inl rfl | exact Or.inr rfl)
    (hs : swapsWith x (some (.Name n pos')) pos.line X.env = pure false := by rfl) (hf : X.fn n = true ∨ X.env.scope.names.lookup n = some .local := by first | exact .inl rfl | exact .inr rfl) : SS G X W (.Assign [.Name n pos'] x pos) (mSet i ma) := by
  refine ⟨ps_imp (ps_set hN hi hx ha.pe hs hf) fun Z σ H u => ?_⟩
  obtain ⟨r, h, e, s, en, p⟩ := u
  refine uG_weak (stepS s en p) ?_
  rintro v H1 ⟨r1, h1, a, g1, s1, en1, ra, p1⟩
  exact p1 _ H1 r1 Gr.refl s1 (en1.set ra)
/-- any target -/
def mAsg (g : MG) (a : ME) : MS := fun e h => (a e h).bs e fun d h1 => match g d e h1 with
  | some e' => .nx e' h1
  | none => .no
theorem ss_asg {tg : Expr} {g : MG} {vs : List Nat} (ha : SE G X W x ma) (hg : SG G X tg g vs) (hs : swapsWithSole [tg] x pos.line X.env = pure false := by rfl) (hw : swappedStores [tg] x X.env = pure none := by rfl)
    (h1 : (assignEach [tg] X.env).map (·.2) = [assign tg X.env] := by rfl) : SS G X W (.Assign [tg] x pos) (mAsg g ma) := by
  refine ⟨ps_imp (ps_asg ha.pe hg.pg hs hw h1) fun Z σ H u => ?_⟩
  obtain ⟨r, h, e, s, en, p0⟩ := u
  refine uG_weak (stepS s en p0) ?_
  rintro v H1 ⟨r1, h1, a, g1, s1, en1, ra, p1⟩
  cases em : g a e h1 with
  | none => simp only [em] at p1; exact p1.elim
  | some e' =>
    simp only [em] at p1
    exact ⟨r1, h1, e, a, e', s1, en1, ra, em, fun σ' en' _ => p1 σ' H1 r1 Gr.refl s1 en'⟩
/-- a, b = x, y: plain names -/
def mPar (i j : Nat) (a : MA) : MS := fun e h => (a e h).bs e fun ds h1 => match ds with
  | [d, d'] => .nx ((e.set i (some d)).set j (some d')) h1
  | _ => .no
theorem ss_par (i j : Nat) {n m : Str} {px py pt : Pos} {kt k2 : Nat} {pt2 : Pos} (hc : X.calm = true) (hN : X.N.Nodup) (ha : SA G X W [x, y] ms) (hi : X.N[i]? = some n := by rfl) (hj : X.N[j]? = some m := by rfl) (hij : i ≠ j := by decide)
    (hx : X.env.scope.names.lookup n = some .local := by rfl) (hy : X.env.scope.names.lookup m = some .local := by rfl)
    (hw : swappedStores [.Tuple [.Name n px, .Name m py] kt pt] (.Tuple [x, y] k2 pt2) X.env = pure (some [n, m]) := by rfl)
    (hs : swapsWithSole [.Tuple [.Name n px, .Name m py] kt pt] (.Tuple [x, y] k2 pt2) pos.line X.env = pure false := by rfl) :
    SS G X W (.Assign [.Tuple [.Name n px, .Name m py] kt pt] (.Tuple [x, y] k2 pt2) pos) (mPar i j ms) := by
  refine ⟨ps_imp (ps_par hc hN hi hj hij hx hy ha.pa hw hs) fun Z σ H u => ?_⟩
  obtain ⟨r, h, e, s, en, p⟩ := u
  refine uG_weak (stepS s en p) ?_
  rintro vs H1 ⟨r1, h1, a, g1, s1, en1, ra, p1⟩
  cases ra with
  | nil => exact p1.elim
  | cons q1 t1 =>
    cases t1 with
    | nil => exact p1.elim
    | cons q2 t2 =>
      cases t2 with
      | cons _ _ => exact p1.elim
      | nil => exact ⟨_, _, rfl, p1 _ H1 r1 Gr.refl s1 ((en1.set q1).set q2)⟩
/-- name += e -/
def mAug (i : Nat) (p : D → D → Hm → Re D) (a : ME) : MS := fun e h => match e[i]? with
  | some (some d) => (a e h).bs e fun d' h1 => (p d d' h1).bs e fun d2 h2 => .nx (e.set i (some d2)) h2
  | _ => .no
theorem ss_aug (i : Nat) {n : Str} {op : Operator} {ti : TIp} {p : D → D → Hm → Re D} {pos' : Pos} (hN : X.N.Nodup) (ha : SE G X W x ma) (ho : PIp X op ti)
    (hp : Prim2 G ti p) (hi : X.N[i]? = some n := by rfl) (hx : Loc X.env.scope n := by first | exact Or.inl rfl | exact Or.inr rfl)
    (hf : X.fn n = true ∨ X.env.scope.names.lookup n = some .local := by first | exact .inl rfl | exact .inr rfl) : SS G X W (.AugAssign (.Name n pos') op x pos) (mAug i p ma) := by
  refine ⟨ps_imp (ps_aug hN hi hx ha.pe ho hf) fun Z σ H u => ?_⟩
  obtain ⟨r, h, e, s, en, q⟩ := u
  unfold mAug at q
  split at q
  · rename_i d ed
    obtain ⟨v, e1, e2⟩ := en.at_ i d ed
    refine ⟨v, e1, ?_⟩
    refine uG_weak (stepS s en q) ?_
    rintro w H1 ⟨r1, h1, b, g1, s1, en1, rb, p1⟩
    refine hp (fun c d H' => W c d σ H') r1 H1 h1 d b v w _ s1 (e2.mono g1) rb ?_
    cases eo : p d b h1 with
    | ok d2 h2 =>
      rw [eo] at p1
      exact fun v2 H2 r2 g2 s2 q2 => p1 _ H2 r2 g2 s2 ((en1.mono g2).set q2)
    | ex c dx h2 =>
      rw [eo] at p1
      exact fun v2 H2 r2 dd g2 s2 q2 hd => p1 v2 σ H2 r2 dd g2 s2 (en1.mono g2) q2 hd
    | no => rw [eo] at p1; exact p1.elim
  · exact q.elim
theorem prim_ipadd : Prim2 G (ipI fun i j => i + j) (pInt (fun _ _ => true) fun i j => i + j) := by
  intro W r H h a b x y Q s ra rb p
  obtain ⟨i, j, h1, h2, _, h3⟩ := prim_int (G := G) (C := fun _ _ => True) (c := fun _ _ => true) (f := fun i j => i + j) (fun _ _ _ => trivial) W r H h a b x y Q s ra rb p
  exact ⟨i, j, h1, h2, h3⟩
theorem prim_ipsub : Prim2 G (ipI fun i j => i - j) (pInt (fun _ _ => true) fun i j => i - j) := by
  intro W r H h a b x y Q s ra rb p
  obtain ⟨i, j, h1, h2, _, h3⟩ := prim_int (G := G) (C := fun _ _ => True) (c := fun _ _ => true) (f := fun i j => i - j) (fun _ _ _ => trivial) W r H h a b x y Q s ra rb p
  exact ⟨i, j, h1, h2, h3⟩
/-- xs[i] = e on a list -/
def mSub (o i v : ME) : MS := fun e h => (v e h).bs e fun d h1 => (o e h1).bs e fun x h2 => (i e h2).bs e fun k h3 => match x, k with
  | .ref n, .int j => match h3[n]? with
    | some (.lst xs) => if 0 ≤ j ∧ j < xs.length then .nx e (h3.set n (.lst (xs.set j.toNat d))) else .no
    | _ => .no
  | _, _ => .no
theorem ss_sub {pt : Pos} (hv : SE G X W z mc) (ho : SE G X W x ma) (hi : SE G X W y mb)
    (has : ∀ v, assign (.Subscript x y pt) X.env v = (do
      let ov ← holding [v] (eval x X.env)
      let iv ← holding [v, ov] (eval y X.env)
      standAt pt
      holding [v, ov, iv] (setItem ov iv v)
      release [v, ov, iv] []) := by intro _; rfl)
    (hs : swapsWithSole [.Subscript x y pt] z pos.line X.env = pure false := by rfl) (hw : swappedStores [.Subscript x y pt] z X.env = pure none := by rfl)
    (h1 : (assignEach [.Subscript x y pt] X.env).map (·.2) = [assign (.Subscript x y pt) X.env] := by rfl) : SS G X W (.Assign [.Subscript x y pt] z pos) (mSub ma mb mc) := by
  refine ⟨ps_imp (ps_asg hv.pe (pg_sub ho.pe hi.pe set_list has) hs hw h1) fun Z σ H u => ?_⟩
  obtain ⟨r, h, e, s, en, p⟩ := u
  refine uG_weak (stepS s en p) ?_
  rintro v H1 ⟨r1, h1, d, g1, s1, en1, rd, p1⟩
  refine uG_weak (stepS s1 en1 p1) ?_
  rintro o H2 ⟨r2, h2, x, g2, s2, en2, rx, p2⟩
  refine uG_weak (stepS s2 en2 p2) ?_
  rintro w H3 ⟨r3, h3, k, g3, s3, en3, rk, p3⟩
  have rx3 := rx.mono g3
  split at p3
  · rename_i n j
    cases rx3 with
    | ref hn =>
      cases rk with
      | int _ =>
        obtain ⟨ob, e1, oo⟩ := s3.get hn
        rw [e1] at p3
        cases ob with
        | lst xs =>
          simp only at p3
          split at p3
          · rename_i c
            obtain ⟨vs, q1, q2⟩ := oo
            have hl := q2.length
            refine ⟨_, vs, j, j.toNat, rfl, rfl, q1, ?_, ?_⟩
            · unfold ixN
              rw [if_pos c.1, if_pos (by omega)]
            · obtain ⟨s4, g4⟩ := s3.put (ob := .lst (xs.set j.toNat d)) (o := .lst (vs.set j.toNat v)) hn fun g => ⟨_, upd_same, (q2.mono g).set (((rd.mono g2).mono g3).mono g) _⟩
              exact p3 σ _ r3 g4 s4 (en3.mono g4)
          · exact p3.elim
        | _ => exact p3.elim
  · exact p3.elim

/-! ### fields -/
theorem fs_lookup {r : List Addr} {H : Hp} (nd : G.fn.Nodup) {i : Nat} {f : Str} (hf : G.fn[i]? = some f) : ∀ {fs : List (Nat × D)} {vs : List (Str × V)} {d : D}, FsR G r H fs vs → fs.lookup i = some d → ∃ v, vs.lookup f = some v ∧ Rep G r H d v
  | _, _, _, .nil, e => by cases e
  | _, _, _, .cons (i := j) (x := x) (fs := fs) hx q t, e => by
    rw [List.lookup_cons] at e ⊢
    by_cases c : i = j
    · subst c
      rw [hf] at hx
      cases hx
      simp only [beq_self_eq_true] at e ⊢
      cases e
      exact ⟨_, rfl, q⟩
    · have c1 : (i == j) = false := beq_eq_false_iff_ne.mpr c
      have c2 : (f == x) = false := beq_eq_false_iff_ne.mpr fun z => c (nodup_ix nd hf (z ▸ hx))
      rw [c1] at e
      rw [c2]
      exact fs_lookup nd hf t e
theorem fs_none {r : List Addr} {H : Hp} {f : Str} (hf : f ∉ G.fn) : ∀ {fs : List (Nat × D)} {vs : List (Str × V)}, FsR G r H fs vs → vs.lookup f = none
  | _, _, .nil => rfl
  | _, _, .cons (x := x) hx q t => by
    rw [List.lookup_cons]
    have c2 : (f == x) = false := beq_eq_false_iff_ne.mpr fun z => hf (z ▸ List.mem_of_getElem? hx)
    rw [c2]
    exact fs_none hf t
/-- what is asked of a class whose fields are read and stored -/
structure ClsF (G : Gx) (c : Nat) (f : Str) : Prop where
  cl : Cls G.K (G.ga c)
  no : NoAttr G.K (G.ga c) f
def mFld (cs : List Nat) (i : Nat) (a : ME) : ME := fun e h => (a e h).bind fun x h1 => match x with
  | .ref n => match h1[n]? with
    | some (.ins c fs) => if cs.contains c = true then match fs.lookup i with
        | some d => .ok d h1
        | none => .no
      else .no
    | _ => .no
  | _ => .no
theorem se_fld {cs : List Nat} (i : Nat) {f : Str} (hK : X.K = G.K) (nd : G.fn.Nodup) (hf : G.fn[i]? = some f) (hc : ∀ c ∈ cs, ClsF G c f) (ha : SE G X W x ma) (hb : attributeBase x f X.env (eval x X.env) = eval x X.env := by rfl) : SE G X W (.Attribute x f pos) (mFld cs i ma) := by
  refine ⟨pe_imp (pe_fld ha.pe hb) fun σ H Q u => ?_⟩
  obtain ⟨r, h, e, s, en, p⟩ := u
  refine uG_weak (stepP s en p) ?_
  rintro v H1 ⟨r1, h1, x, g1, s1, en1, rx, p1⟩
  cases rx with
  | ref hn =>
    obtain ⟨ob, e1, oo⟩ := s1.get hn
    simp only [e1] at p1
    cases ob with
    | ins c fs =>
      simp only at p1
      split at p1
      · rename_i cc
        have hcc := hc c (List.contains_iff_mem.mp cc)
        split at p1
        · rename_i d ed
          obtain ⟨dx, vs, q1, q2⟩ := oo
          obtain ⟨w, l1, l2⟩ := fs_lookup nd hf q2 ed
          exact ⟨_, _, dx, vs, w, rfl, q1, by rw [hK]; exact hcc.cl, by rw [hK]; exact hcc.no, l1, p1 w H1 r1 Gr.refl s1 l2⟩
        · exact p1.elim
      · exact p1.elim
    | _ => exact p1.elim
  | _ => exact p1.elim
def putD (i : Nat) (d : D) : List (Nat × D) → List (Nat × D)
  | [] => [(i, d)]
  | (j, x) :: r => if j = i then (j, d) :: r else (j, x) :: putD i d r
theorem fs_put {r : List Addr} {H : Hp} (nd : G.fn.Nodup) {i : Nat} {f : Str} (hf : G.fn[i]? = some f) {d : D} {v : V} (hd : Rep G r H d v) : ∀ {fs : List (Nat × D)} {vs : List (Str × V)}, FsR G r H fs vs → FsR G r H (putD i d fs) (putF f v vs)
  | _, _, .nil => .cons hf hd .nil
  | _, _, .cons (i := j) (x := x) hx q t => by
    unfold putD putF
    by_cases c : j = i
    · subst c
      rw [hf] at hx
      cases hx
      rw [if_pos rfl, if_pos rfl]
      exact .cons hf hd t
    · have c2 : x ≠ f := fun z => c (nodup_ix nd (z ▸ hx) hf)
      rw [if_neg c, if_neg c2]
      exact .cons hx q (fs_put nd hf hd t)
theorem fs_len {r : List Addr} {H : Hp} : ∀ {fs : List (Nat × D)} {vs : List (Str × V)}, FsR G r H fs vs → fs.length = vs.length
  | _, _, .nil => rfl
  | _, _, .cons _ _ t => congrArg (· + 1) (fs_len t)
def mPutF (cs : List Nat) (i : Nat) (a v : ME) : MS := fun e h => (v e h).bs e fun d h1 => (a e h1).bs e fun x h2 => match x with
  | .ref n => match h2[n]? with
    | some (.ins c fs) => if cs.contains c = true ∧ fs.length < 900 then .nx e (h2.set n (.ins c (putD i d fs))) else .no
    | _ => .no
  | _ => .no
theorem ss_fld {cs : List Nat} (i : Nat) {f : Str} {pos' : Pos} (hK : X.K = G.K) (nd : G.fn.Nodup) (hf : G.fn[i]? = some f) (hc : ∀ c ∈ cs, ClsF G c f) (ha : SE G X W x ma) (hv : SE G X W y mb)
    (hs : swapsWith y (some (.Attribute x f pos')) pos.line X.env = pure false := by rfl) : SS G X W (.Assign [.Attribute x f pos'] y pos) (mPutF cs i ma mb) := by
  refine ⟨ps_imp (ps_fld ha.pe hv.pe hs) fun Z σ H u => ?_⟩
  obtain ⟨r, h, e, s, en, p⟩ := u
  refine uG_weak (stepS s en p) ?_
  rintro v H1 ⟨r1, h1, d, g1, s1, en1, rd, p1⟩
  refine uG_weak (stepS s1 en1 p1) ?_
  rintro o H2 ⟨r2, h2, x, g2, s2, en2, rx, p2⟩
  cases rx with
  | ref hn =>
    obtain ⟨ob, e1, oo⟩ := s2.get hn
    simp only [e1] at p2
    cases ob with
    | ins c fs =>
      simp only at p2
      split at p2
      · rename_i cc
        have hcc := hc c (List.contains_iff_mem.mp cc.1)
        obtain ⟨dx, vs, q1, q2⟩ := oo
        have hl := fs_len q2
        refine ⟨_, _, dx, vs, rfl, q1, by rw [hK]; exact hcc.cl, by rw [hK]; exact hcc.no, by omega, ?_⟩
        obtain ⟨s4, g4⟩ := s2.put (ob := .ins c (putD i d fs)) (o := .ins (G.ga c) dx (putF f v vs)) hn fun g => ⟨dx, _, upd_same, fs_put nd hf ((rd.mono g2).mono g) (q2.mono g)⟩
        exact p2 σ _ r2 g4 s4 (en2.mono g4)
      · exact p2.elim
    | _ => exact p2.elim
  | _ => exact p2.elim
end
end L2.Lv
end
section
set_option maxRecDepth 100000
set_option maxHeartbeats 4000000
set_option autoImplicit false
namespace L2.Lv
open PySem PySem.Spec PyProof.Rows

/-! ### what is walked -/
inductive Src where
  | live (n : Nat) | fix (xs : List D) | enm (n : Nat) | zp (n m : Nat) | dky (n : Nat)
def nxt : Src → Nat → Hm → Option (Option D)
  | .live n, i, h => match itemsOf h n with
    | some xs => some xs[i]?
    | none => none
  | .fix xs, i, _ => some xs[i]?
  | .enm n, i, h => match itemsOf h n with
    | some xs => match xs[i]? with
      | some d => some (some (.tup [.int (i : Nat), d]))
      | none => some none
    | none => none
  | .zp n m, i, h => match itemsOf h n, itemsOf h m with
    | some xs, some ys => match xs[i]?, ys[i]? with
      | some x, some y => some (some (.tup [x, y]))
      | _, _ => some none
    | _, _ => none
  | .dky n, i, h => match h[n]? with
    | some (.fdk kvs) => match kvs[i]? with
      | some (k, _) => some (some (match k with | .inl j => .int j | .inr s => .str s))
      | none => some none
    | _ => none
def JR (G : Gx) (r0 : List Addr) (H0 : Hp) (src : Src) (J : It) : Prop := ∀ (r : List Addr) (H : Hp) (h : Hm) (i : Nat), Gr G r0 H0 r H → Sim G r H h →
  (∀ d, nxt src i h = some (some d) → J.go i H ∧ ∀ x H', J.yld i H x H' → Gr G r H r H' ∧ Sim G r H' h ∧ Rep G r H' d x) ∧ (nxt src i h = some none → J.stop i H)
abbrev MI := En → Hm → Re Src
structure SI (G : Gx) (X : Cx) (W : WX) (tg iter : Expr) (m : MI) : Prop where
  pi : PI X tg iter (uG G W (JR G) m)
theorem pi_imp {X : Cx} {tg x : Expr} {t t' : TI} (h : PI X tg x t) (w : ∀ σ H Q, t' σ H Q → t σ H Q) : PI X tg x t' := ⟨fun pins s σ H R I q => h.run pins s σ H R I (w σ H R q)⟩
theorem pi_or {X : Cx} {tg x : Expr} {t t' : TI} (h : PI X tg x t) (h' : PI X tg x t') : PI X tg x (fun σ H Q => t σ H Q ∨ t' σ H Q) := ⟨fun pins s σ H R I q => by
  rcases q with q | q
  · exact h.run pins s σ H R I q
  · exact h'.run pins s σ H R I q⟩
section
variable {G : Gx} {X : Cx} {W : WX} {x y z tg : Expr} {xs : List Expr} {ma mb mc : ME} {mt mu : MT} {ms : MA} {pos : Pos} {st : Stmt} {sts : List Stmt} {a b : MS} {r : List Addr} {H : Hp} {h : Hm}
theorem jr_live {n : Nat} {p : Addr} (e : r[n]? = some p) : JR G r H (.live n) (Itl G.K p) := by
  intro r1 H1 h1 i g s
  have e1 := g.pre n p e
  refine ⟨fun d q => ?_, fun q => ?_⟩
  · simp only [nxt] at q
    split at q
    · rename_i xs e2
      obtain ⟨vs, q1, q2⟩ := items_seq s e1 e2
      obtain ⟨v, q3, q4⟩ := q2.get (Option.some.inj q)
      exact ⟨⟨vs, v, q1, q3⟩, fun x H' ⟨eh, hx⟩ => by
        subst eh
        have ex := hx vs q1
        rw [q3] at ex
        cases ex
        exact ⟨Gr.refl, s, q4⟩⟩
    · cases q
  · simp only [nxt] at q
    split at q
    · rename_i xs e2
      obtain ⟨vs, q1, q2⟩ := items_seq s e1 e2
      exact ⟨vs, q1, by rw [← q2.length]; exact List.getElem?_eq_none_iff.mp (Option.some.inj q)⟩
    · cases q
theorem jr_tup {p : Addr} {ds : List D} {vs : List V} (e : SqT G.K H p vs) (q0 : Reps G r H ds vs) : JR G r H (.fix ds) (Itt G.K p) := by
  intro r1 H1 h1 i g s
  have e1 := g.tup _ _ e
  have q2 := q0.mono g
  refine ⟨fun d q => ?_, fun q => ?_⟩
  · obtain ⟨v, q3, q4⟩ := q2.get (Option.some.inj q)
    exact ⟨⟨vs, v, e1, q3⟩, fun x H' ⟨eh, hx⟩ => by
      subst eh
      have ex := hx vs e1
      rw [q3] at ex
      cases ex
      exact ⟨Gr.refl, s, q4⟩⟩
  · exact ⟨vs, e1, by rw [← q2.length]; exact List.getElem?_eq_none_iff.mp (Option.some.inj q)⟩
def intsR (lo : Int) (n : Nat) : List D := (List.range n).map fun (i : Nat) => D.int (lo + (i : Int))
theorem jr_range {lo : Int} {n : Nat} : JR G r H (.fix (intsR lo n)) (Itr lo n) := by
  intro r1 H1 h1 i g s
  refine ⟨fun d q => ?_, fun q => ?_⟩
  · have q : (intsR lo n)[i]? = some d := Option.some.inj q
    have hl : i < n := by
      have := (List.getElem?_eq_some_iff.mp q).1
      unfold intsR at this
      rwa [List.length_map, List.length_range] at this
    have ed : d = .int (lo + (i : Int)) := by
      unfold intsR at q
      rw [List.getElem?_map, List.getElem?_range hl] at q
      exact (Option.some.inj q).symm
    subst ed
    exact ⟨hl, fun x H' ⟨eh, hx⟩ => by
      subst eh
      subst hx
      exact ⟨Gr.refl, s, .int _⟩⟩
  · have q : (intsR lo n)[i]? = none := Option.some.inj q
    have := List.getElem?_eq_none_iff.mp q
    unfold intsR at this
    rw [List.length_map, List.length_range] at this
    exact this
theorem jr_enum {n : Nat} {p : Addr} (e : r[n]? = some p) : JR G r H (.enm n) (Ite G.K p) := by
  intro r1 H1 h1 i g s
  have e1 := g.pre n p e
  refine ⟨fun d q => ?_, fun q => ?_⟩
  · simp only [nxt] at q
    split at q
    · rename_i xs e2
      obtain ⟨vs, q1, q2⟩ := items_seq s e1 e2
      split at q
      · rename_i d0 e3
        cases q
        obtain ⟨v, q3, q4⟩ := q2.get e3
        exact ⟨⟨vs, v, q1, q3⟩, fun x H' ⟨T, w, ev, hT, eh, hx⟩ => by
          subst ev
          subst eh
          have ex := hx vs q1
          rw [q3] at ex
          cases ex
          exact ⟨gr_fresh hT, s.fresh hT, .tup (SqT.of upd_same) (.cons (.int _) (.cons (q4.mono (gr_fresh hT)) .nil))⟩⟩
      · cases q
    · cases q
  · simp only [nxt] at q
    split at q
    · rename_i xs e2
      obtain ⟨vs, q1, q2⟩ := items_seq s e1 e2
      split at q
      · cases q
      · rename_i e3
        exact ⟨vs, q1, by rw [← q2.length]; exact List.getElem?_eq_none_iff.mp e3⟩
    · cases q
theorem jr_zip {n m : Nat} {p p' : Addr} (e : r[n]? = some p) (e' : r[m]? = some p') : JR G r H (.zp n m) (Itz G.K p p') := by
  intro r1 H1 h1 i g s
  have e1 := g.pre n p e
  have e1' := g.pre m p' e'
  refine ⟨fun d q => ?_, fun q => ?_⟩
  · simp only [nxt] at q
    split at q
    · rename_i xs ys e2 e2'
      obtain ⟨vs, q1, q2⟩ := items_seq s e1 e2
      obtain ⟨ws, k1, k2⟩ := items_seq s e1' e2'
      split at q
      · rename_i d0 d1 e3 e4
        cases q
        obtain ⟨v, q3, q4⟩ := q2.get e3
        obtain ⟨w, k3, k4⟩ := k2.get e4
        exact ⟨⟨vs, ws, v, w, q1, k1, q3, k3⟩, fun x H' ⟨T, u, u', ev, hT, eh, hx, hy⟩ => by
          subst ev
          subst eh
          have ex := hx vs q1
          rw [q3] at ex
          cases ex
          have ey := hy ws k1
          rw [k3] at ey
          cases ey
          exact ⟨gr_fresh hT, s.fresh hT, .tup (SqT.of upd_same) (.cons (q4.mono (gr_fresh hT)) (.cons (k4.mono (gr_fresh hT)) .nil))⟩⟩
      · cases q
    · cases q
  · simp only [nxt] at q
    split at q
    · rename_i xs ys e2 e2'
      obtain ⟨vs, q1, q2⟩ := items_seq s e1 e2
      obtain ⟨ws, k1, k2⟩ := items_seq s e1' e2'
      split at q
      · cases q
      · rename_i e3
        refine ⟨vs, ws, q1, k1, ?_⟩
        have l1 := q2.length
        have l2 := k2.length
        cases c1 : xs[i]? with
        | none => exact .inl (by rw [← l1]; exact List.getElem?_eq_none_iff.mp c1)
        | some a =>
          cases c2 : ys[i]? with
          | none => exact .inr (by rw [← l2]; exact List.getElem?_eq_none_iff.mp c2)
          | some b => exact (e3 a b c1 c2).elim
    · cases q
/-- a list or a tuple -/
def mSrc (a : ME) : MI := fun e h => (a e h).bind fun d h1 => match d with
  | .tup xs => .ok (.fix xs) h1
  | .ref n => match itemsOf h1 n with
    | some _ => .ok (.live n) h1
    | none => .no
  | _ => .no
theorem si_seq (hK : X.K = G.K) (ha : SE G X W x ma) : SI G X W tg x (mSrc ma) := by
  refine ⟨pi_imp (pi_or (pi_list ha.pe) (pi_tup ha.pe)) fun σ H R u => ?_⟩
  obtain ⟨r, h, e, s, en, p⟩ := u
  cases q : ma e h with
  | no => simp only [mSrc, q, Re.bind] at p; exact p.elim
  | ex c d h' =>
    simp only [mSrc, q, Re.bind] at p
    exact .inl ⟨r, h, e, s, en, by rw [q]; exact p⟩
  | ok d h' =>
    simp only [mSrc, q, Re.bind] at p
    cases d with
    | tup xs =>
      refine .inr ⟨r, h, e, s, en, ?_⟩
      rw [q]
      intro v H' r' g s' rv
      cases rv with
      | tup h1 h2 => exact ⟨_, rfl, ⟨_, by rw [hK]; exact h1⟩, p _ H' r' g s' (by rw [hK]; exact jr_tup h1 h2)⟩
    | ref n =>
      refine .inl ⟨r, h, e, s, en, ?_⟩
      rw [q]
      intro v H' r' g s' rv
      cases rv with
      | ref hn =>
        cases c : itemsOf h' n with
        | none => simp only [c] at p; exact p.elim
        | some xs =>
          simp only [c] at p
          obtain ⟨vs, q1, q2⟩ := items_seq s' hn c
          exact ⟨_, rfl, ⟨vs, by rw [hK]; exact q1⟩, p _ H' r' g s' (by rw [hK]; exact jr_live hn)⟩
    | _ => exact p.elim
def smallI (j : Int) : Bool := decide (-(2 ^ 62) ≤ j) && decide (j < 2 ^ 62)
theorem smallI_is {j : Int} (h : smallI j = true) : -(2 ^ 62) ≤ j ∧ j < 2 ^ 62 := by
  unfold smallI at h
  rw [Bool.and_eq_true] at h
  exact ⟨of_decide_eq_true h.1, of_decide_eq_true h.2⟩
def mRng1 (a : MA) : MI := fun e h => (a e h).bind fun ds h1 => match ds with
  | [.int j] => if smallI j = true then .ok (.fix (intsR 0 j.toNat)) h1 else .no
  | _ => .no
def mRng2 (a : MA) : MI := fun e h => (a e h).bind fun ds h1 => match ds with
  | [.int i, .int j] => if smallI i = true ∧ smallI j = true then .ok (.fix (intsR i (j - i).toNat)) h1 else .no
  | _ => .no
theorem si_range1 {np : Pos} (hm : X.mg "range" = none) (ha : SA G X W [x] ms) (hg : Gl X "range" := by rfl) (hs : starEach [x] X.env = [(false, eval x X.env)] := by rfl) : SI G X W tg (.Call (.Name "range" np) [x] [] pos) (mRng1 ms) := by
  refine ⟨pi_imp (pi_range1 hg hm ha.pa hs) fun σ H R u => ?_⟩
  obtain ⟨r, h, e, s, en, p⟩ := u
  refine uG_weak (stepP s en p) ?_
  rintro vs H1 ⟨r1, h1, as, g1, s1, en1, ra, p1⟩
  split at p1
  · rename_i j
    cases ra with
    | cons q t =>
      cases t
      cases q
      split at p1
      · rename_i c
        obtain ⟨c1, c2⟩ := smallI_is c
        exact ⟨j, rfl, c1, c2, p1 _ H1 r1 Gr.refl s1 jr_range⟩
      · exact p1.elim
  · exact p1.elim
theorem si_range2 {np : Pos} (hm : X.mg "range" = none) (ha : SA G X W [x, y] ms) (hg : Gl X "range" := by rfl) (hs : starEach [x, y] X.env = [(false, eval x X.env), (false, eval y X.env)] := by rfl) (hs2 : starEach [y] X.env = [(false, eval y X.env)] := by rfl) :
    SI G X W tg (.Call (.Name "range" np) [x, y] [] pos) (mRng2 ms) := by
  refine ⟨pi_imp (pi_range2 hg hm ha.pa hs hs2) fun σ H R u => ?_⟩
  obtain ⟨r, h, e, s, en, p⟩ := u
  refine uG_weak (stepP s en p) ?_
  rintro vs H1 ⟨r1, h1, as, g1, s1, en1, ra, p1⟩
  split at p1
  · rename_i i j
    cases ra with
    | cons q t =>
      cases t with
      | cons q2 t2 =>
        cases t2
        cases q
        cases q2
        split at p1
        · rename_i c
          obtain ⟨c1, c2⟩ := smallI_is c.1
          obtain ⟨c3, c4⟩ := smallI_is c.2
          exact ⟨i, j, rfl, ⟨c1, c2, c3, c4⟩, p1 _ H1 r1 Gr.refl s1 jr_range⟩
        · exact p1.elim
  · exact p1.elim
def mEnum (a : MA) : MI := fun e h => (a e h).bind fun ds h1 => match ds with
  | [.ref n] => match itemsOf h1 n with
    | some _ => .ok (.enm n) h1
    | none => .no
  | _ => .no
theorem si_enum {elts : List Expr} {kk : Nat} {tpos np : Pos} (hK : X.K = G.K) (hm : X.mg "enumerate" = none) (ha : SA G X W [x] ms) (hg : Gl X "enumerate" := by rfl) (hs : starEach [x] X.env = [(false, eval x X.env)] := by rfl) :
    SI G X W (.Tuple elts kk tpos) (.Call (.Name "enumerate" np) [x] [] pos) (mEnum ms) := by
  refine ⟨pi_imp (pi_enum hg hm ha.pa hs) fun σ H R u => ?_⟩
  obtain ⟨r, h, e, s, en, p⟩ := u
  refine uG_weak (stepP s en p) ?_
  rintro vs H1 ⟨r1, h1, as, g1, s1, en1, ra, p1⟩
  split at p1
  · rename_i n
    cases ra with
    | cons q t =>
      cases t
      cases q with
      | ref hn =>
        cases c : itemsOf h1 n with
        | none => simp only [c] at p1; exact p1.elim
        | some xs =>
          simp only [c] at p1
          obtain ⟨vs, q1, q2⟩ := items_seq s1 hn c
          exact ⟨_, vs, rfl, by rw [hK]; exact q1, p1 _ H1 r1 Gr.refl s1 (by rw [hK]; exact jr_enum hn)⟩
  · exact p1.elim
def mZip (a : MA) : MI := fun e h => (a e h).bind fun ds h1 => match ds with
  | [.ref n, .ref m] => match itemsOf h1 n, itemsOf h1 m with
    | some _, some _ => .ok (.zp n m) h1
    | _, _ => .no
  | _ => .no
theorem si_zip {elts : List Expr} {kk : Nat} {tpos np : Pos} (hK : X.K = G.K) (hm : X.mg "zip" = none) (ha : SA G X W [x, y] ms) (hg : Gl X "zip" := by rfl) (hs : starEach [x, y] X.env = (false, eval x X.env) :: starEach [y] X.env := by rfl)
    (hpl : (backTo pos (starEach [y] X.env)).any (·.1) = false := by rfl) : SI G X W (.Tuple elts kk tpos) (.Call (.Name "zip" np) [x, y] [] pos) (mZip ms) := by
  refine ⟨pi_imp (pi_zip hg hm ha.pa hs hpl) fun σ H R u => ?_⟩
  obtain ⟨r, h, e, s, en, p⟩ := u
  refine uG_weak (stepP s en p) ?_
  rintro vs H1 ⟨r1, h1, as, g1, s1, en1, ra, p1⟩
  split at p1
  · rename_i n m
    cases ra with
    | cons q t =>
      cases t with
      | cons q' t' =>
        cases t'
        cases q with
        | ref hn =>
          cases q' with
          | ref hm' =>
            cases c : itemsOf h1 n with
            | none => simp only [c] at p1; exact p1.elim
            | some xs =>
              cases c' : itemsOf h1 m with
              | none => simp only [c, c'] at p1; exact p1.elim
              | some ys =>
                simp only [c, c'] at p1
                obtain ⟨vs, q1, q2⟩ := items_seq s1 hn c
                obtain ⟨ws, k1, k2⟩ := items_seq s1 hm' c'
                exact ⟨_, _, vs, ws, rfl, by rw [hK]; exact q1, by rw [hK]; exact k1, p1 _ H1 r1 Gr.refl s1 (by rw [hK]; exact jr_zip hn hm')⟩
  · exact p1.elim

/-! ### loops -/
def lots : Nat := 100000
def mLoop (src : Src) (g : MG) (b : MS) : Nat → Nat → MS
  | 0, _ => fun _ _ => .no
  | f + 1, i => fun e h => match nxt src i h with
    | some (some d) => match g d e h with
      | some e1 => match b e1 h with
        | .nx e' h' => mLoop src g b f (i + 1) e' h'
        | .ct e' h' => mLoop src g b f (i + 1) e' h'
        | .bk e' h' => .nx e' h'
        | x => x
      | none => .no
    | some none => .nx e h
    | none => .no
def mFor (it : MI) (g : MG) (b : MS) : MS := fun e h => (it e h).bs e fun src h1 => mLoop src g b lots 0 e h1
theorem ss_for {g : MG} {vs : List Nat} {it : MI} (hc : X.calm = true) (hp : PassesOwn (model X.prog X.w) X.A X.env X.xe) (hi : SI G X W tg x it) (hg : SG G X tg g vs) (hb : SSs G X W sts b)
    (hs : ∀ y, foldedSetIterable x X.env y = pure y := by intro _; rfl) : SS G X W (.For tg x sts [] pos) (mFor it g b) := by
  refine ⟨ps_imp (ps_for hp hc hi.pi hg.pg hb.pss hs) fun Z σ H u => ?_⟩
  obtain ⟨r, h, e, s, en, p⟩ := u
  refine uG_weak (stepS s en p) ?_
  rintro J H1 ⟨r1, h1, src, g1, s1, en1, jr, p1⟩
  refine ⟨fun i m σ H => ∃ (r' : List Addr) (h : Hm) (e : En), Gr G r1 H1 r' H ∧ Sim G r' H h ∧ EnR G r' H e σ ∧ PostS G W Z r' H (mLoop src g b m i e h), ⟨lots, r1, h1, e, Gr.refl, s1, en1, p1⟩, ?_⟩
  rintro i m σ2 H2 ⟨r2, h2, e2, g2, s2, en2, p2⟩
  cases m with
  | zero => exact p2.elim
  | succ m =>
    simp only [mLoop] at p2
    obtain ⟨j1, j2⟩ := jr r2 H2 h2 i g2 s2
    cases q : nxt src i h2 with
    | none => simp only [q] at p2; exact p2.elim
    | some o =>
      cases o with
      | none =>
        simp only [q] at p2
        exact .inl ⟨j2 q, p2 σ2 H2 r2 Gr.refl s2 en2⟩
      | some d =>
        simp only [q] at p2
        obtain ⟨go, yld⟩ := j1 d q
        refine .inr ⟨go, _, fun σ' H' n => ⟨m, Nat.lt_succ_self m, n⟩, fun x H3 hy => ?_⟩
        obtain ⟨g3, s3, rx⟩ := yld x H3 hy
        cases em : g d e2 h2 with
        | none => simp only [em] at p2; exact p2.elim
        | some e3 =>
          simp only [em] at p2
          refine ⟨r2, h2, e2, d, e3, s3, en2.mono g3, rx, em, fun σ4 en4 _ => ⟨r2, h2, e3, s3, en4, ?_⟩⟩
          have p3 := PostS.mono g3 p2
          cases eb : b e3 h2 with
          | nx e' h' =>
            simp only [eb] at p3
            exact fun σ' H' r' g s' en' => ⟨r', h', e', ((g2.trans g3).trans g), s', en', PostS.mono g p3⟩
          | ct e' h' =>
            simp only [eb] at p3
            exact fun σ' H' r' g s' en' => ⟨r', h', e', ((g2.trans g3).trans g), s', en', PostS.mono g p3⟩
          | bk e' h' => simp only [eb] at p3; exact p3
          | rt d h' => simp only [eb] at p3; exact p3
          | ex c d e' h' => simp only [eb] at p3; exact p3
          | no => simp only [eb] at p3; exact p3
def mWhileN (t : MT) (b : MS) : Nat → MS
  | 0 => fun _ _ => .no
  | f + 1 => fun e h => (t e h).bs e fun c h1 => if c = true then match b e h1 with
      | .nx e' h' => mWhileN t b f e' h'
      | .ct e' h' => mWhileN t b f e' h'
      | .bk e' h' => .nx e' h'
      | x => x
    else .nx e h1
def mWhile (t : MT) (b : MS) : MS := mWhileN t b lots
theorem ss_while (hp : PassesOwn (model X.prog X.w) X.A X.env X.xe) (ht : ST G X W x mt) (hb : SSs G X W sts b) : SS G X W (.While x sts [] pos) (mWhile mt b) := by
  refine ⟨ps_imp (ps_while hp ht.pt hb.pss) fun Z σ H u => ?_⟩
  obtain ⟨r, h, e, s, en, p⟩ := u
  refine ⟨fun m σ H => ∃ (r' : List Addr) (h : Hm) (e : En), Sim G r' H h ∧ EnR G r' H e σ ∧ PostS G W Z r' H (mWhileN mt b m e h), ⟨lots, r, h, e, s, en, p⟩, ?_⟩
  rintro m σ2 H2 ⟨r2, h2, e2, s2, en2, p2⟩
  cases m with
  | zero => exact p2.elim
  | succ m =>
    simp only [mWhileN] at p2
    refine uG_weak (stepS s2 en2 p2) ?_
    rintro v H3 ⟨r3, h3, c, g3, s3, en3, rc, p3⟩
    have rc : c = v := rc
    subst rc
    cases c with
    | false => exact p3 σ2 H3 r3 Gr.refl s3 en3
    | true =>
      refine ⟨_, fun σ' H' n => ⟨m, Nat.lt_succ_self m, n⟩, r3, h3, e2, s3, en3, ?_⟩
      cases eb : b e2 h3 with
      | nx e' h' =>
        simp only [eb, if_true] at p3
        exact fun σ' H' r' g s' en' => ⟨r', h', e', s', en', PostS.mono g p3⟩
      | ct e' h' =>
        simp only [eb, if_true] at p3
        exact fun σ' H' r' g s' en' => ⟨r', h', e', s', en', PostS.mono g p3⟩
      | bk e' h' => simp only [eb, if_true] at p3; exact p3
      | rt d h' => simp only [eb, if_true] at p3; exact p3
      | ex c d e' h' => simp only [eb, if_true] at p3; exact p3
      | no => simp only [eb, if_true] at p3; exact p3

/-! ### list comprehensions -/
def wipeE (e : En) : List Nat → En
  | [] => e
  | v :: vs => (wipeE e vs).set v none
theorem en_wipe {e : En} {σ : L2.St} (en : EnR G r H e σ) : ∀ vs : List Nat, EnR G r H (wipeE e vs) (wipe σ vs)
  | [] => en
  | v :: vs => by
    have ih := en_wipe en vs
    refine ⟨by simp only [wipeE, wipe, List.length_set]; exact ih.len, fun j d q => ?_⟩
    simp only [wipeE, wipe] at q ⊢
    by_cases c : v = j
    · subst c
      have l := (List.getElem?_eq_some_iff.mp q).1
      rw [List.length_set] at l
      rw [List.getElem?_set_self l] at q
      cases q
    · rw [List.getElem?_set_ne c] at q ⊢
      exact ih.at_ j d q
def mTests : List MT → MT
  | [] => fun _ h => .ok true h
  | [t] => t
  | t :: ts => fun e h => (t e h).bind fun c h1 => if c = true then mTests ts e h1 else .ok false h1
def mCLoop (src : Src) (g : MG) (t : MT) (el : ME) (e0 : En) (n : Nat) : Nat → Nat → Hm → Re D
  | 0, _, _ => .no
  | f + 1, i, h => match nxt src i h with
    | some none => .ok (.ref n) h
    | some (some d) => match g d e0 h with
      | some e1 => match t e1 h with
        | .ok true h2 => match el e1 h2 with
          | .ok y h3 => match h3[n]? with
            | some (.lst acc) => if acc.length < big then mCLoop src g t el e0 n f (i + 1) (h3.set n (.lst (acc ++ [y]))) else .no
            | _ => .no
          | _ => .no
        | .ok false h2 => mCLoop src g t el e0 n f (i + 1) h2
        | _ => .no
      | none => .no
    | none => .no
def mComp (it : MI) (g : MG) (t : MT) (el : ME) (vs : List Nat) : ME := fun e h => (it e h).bind fun src h1 => mCLoop src g t el (wipeE e vs) h1.length lots 0 (h1 ++ [.lst []])
abbrev W0 : WX := fun _ _ _ _ => False
structure STs (G : Gx) (X : Cx) (W : WX) (xs : List Expr) (m : MT) : Prop where
  pts : PTs X xs (uT G W m)
def mYes : MT := fun _ h => .ok true h
theorem sts_nil : STs G X W [] mYes := ⟨⟨fun pins s σ H Q I u => by
  obtain ⟨r, h, e, s, en, p⟩ := u
  exact pts_nil.run pins _ σ H Q I (p true H r Gr.refl s rfl)⟩⟩
theorem sts_one (ht : ST G X W x mt) : STs G X W [x] mt := ⟨pts_one ht.pt⟩
theorem comp_of {it : MI} {g : MG} {vs : List Nat} {σ : L2.St} {H : Hp} {Q : VK} (u : uE G W (mComp it g mt ma vs) σ H Q) :
    tLc (uG G W (JR G) it) (uGt G g vs) (uT G W0 mt) (uE G W0 ma) vs σ H Q := by
  obtain ⟨r, h, e, s, en, p⟩ := u
  refine uG_weak (stepP s en p) ?_
  rintro J H1 ⟨r1, h1, src, g1, s1, en1, jr, p1⟩
  intro A hA
  have gA : Gr G r1 H1 (r1 ++ [A]) (upd H1 A (.lst [])) := gr_new hA
  refine ⟨fun i m H => ∃ (r' : List Addr) (h : Hm), Gr G (r1 ++ [A]) (upd H1 A (.lst [])) r' H ∧ Sim G r' H h ∧ Post G (fun c d H' => W c d σ H') (RD G) r' H (mCLoop src g mt ma (wipeE e vs) h1.length m i h) Q,
    ⟨lots, r1 ++ [A], h1 ++ [.lst []], Gr.refl, s1.new (ob := .lst []) hA ⟨[], upd_same, .nil⟩, Post.mono gA p1⟩, ?_⟩
  rintro i m H2 ⟨r2, h2, g2, s2, p2⟩
  have eA : r2[h1.length]? = some A := g2.pre _ _ (new_at s1 A)
  have enw : EnR G r2 H2 (wipeE e vs) (wipe σ vs) := (en_wipe en1 vs).mono (gA.trans g2)
  cases m with
  | zero => exact p2.elim
  | succ m =>
    simp only [mCLoop] at p2
    obtain ⟨j1, j2⟩ := jr r2 H2 h2 i (gA.trans g2) s2
    cases q : nxt src i h2 with
    | none => simp only [q] at p2; exact p2.elim
    | some o =>
      cases o with
      | none =>
        simp only [q] at p2
        exact .inl ⟨j2 q, p2 _ H2 r2 Gr.refl s2 (.ref eA)⟩
      | some d =>
        simp only [q] at p2
        obtain ⟨go, yld⟩ := j1 d q
        refine .inr ⟨go, _, fun H' n => ⟨m, Nat.lt_succ_self m, n⟩, fun x H3 hy => ?_⟩
        obtain ⟨g3, s3, rx⟩ := yld x H3 hy
        cases em : g d (wipeE e vs) h2 with
        | none => simp only [em] at p2; exact p2.elim
        | some e3 =>
          simp only [em] at p2
          refine ⟨r2, h2, wipeE e vs, d, e3, s3, enw.mono g3, rx, em, fun σ4 en4 ch => ⟨?_, r2, h2, e3, s3, en4, ?_⟩⟩
          · rw [ch.wipe]
            apply List.ext_getElem?
            intro j
            rw [wipe_at, wipe_at, wipe_length]
            split <;> rfl
          · have p3 := Post.mono g3 p2
            cases et : mt e3 h2 with
            | no => simp only [et] at p3; exact p3.elim
            | ex c d' h' => simp only [et] at p3; exact p3.elim
            | ok c h4 =>
              simp only [et] at p3
              intro b H4 r4 g4 s4 hb
              have hb : c = b := hb
              subst hb
              cases c with
              | false => exact ⟨r4, h4, (g2.trans g3).trans g4, s4, Post.mono g4 p3⟩
              | true =>
                refine ⟨r4, h4, e3, s4, en4.mono g4, ?_⟩
                have p4 := Post.mono g4 p3
                cases ee : ma e3 h4 with
                | no => simp only [ee] at p4; exact p4.elim
                | ex c d' h' => simp only [ee] at p4; exact p4.elim
                | ok y h5 =>
                  simp only [ee] at p4
                  intro v H5 r5 g5 s5 rv
                  have eA5 : r5[h1.length]? = some A := g5.pre _ _ (g4.pre _ _ eA)
                  obtain ⟨ob, eo, oo⟩ := s5.get eA5
                  simp only [eo] at p4
                  cases ob with
                  | lst acc =>
                    simp only at p4
                    split at p4
                    · rename_i cl
                      obtain ⟨as, q1, q2⟩ := oo
                      obtain ⟨s6, g6⟩ := s5.put (ob := .lst (acc ++ [y])) (o := .lst (as ++ [v])) eA5 fun g => ⟨_, upd_same, (q2.mono g).append (.cons (rv.mono g) .nil)⟩
                      exact ⟨as, q1, by rw [← q2.length]; exact Nat.lt_of_lt_of_le cl (big_le (Nat.le_refl _)), r5, _, (((g2.trans g3).trans g4).trans g5).trans g6, s6, Post.mono g6 (Post.mono g5 p4)⟩
                    · exact p4.elim
                  | _ => exact p4.elim
section
variable {it : MI} {g : MG} {vs : List Nat} {scope : Scope} {own : List (Str × Nat)} {ifs : List Expr}
theorem se_comp (own : List (Str × Nat)) (hc : X.calm = true) (hN : X.N.Nodup) (hi : SI G X W tg x it) (ok : BlkOk X.N X.env.scope scope own)
    (hg : ∀ (s : Shared) (H : Hp) (C : Addr) (cl : List (Str × Addr)) (fp : List Addr), SG G (X.blk s H scope (compEnvC scope cl C X.env) fp) tg g (own.map (·.2)))
    (ht : ∀ (s : Shared) (H : Hp) (C : Addr) (cl : List (Str × Addr)) (fp : List Addr), STs G (X.blk s H scope (compEnvC scope cl C X.env) fp) W0 ifs mt)
    (he : ∀ (s : Shared) (H : Hp) (C : Addr) (cl : List (Str × Addr)) (fp : List Addr), SE G (X.blk s H scope (compEnvC scope cl C X.env) fp) W0 y ma) (hs : ∀ z, foldedSetIterable x X.env z = pure z := by intro _; rfl) :
    SE G X W (.ListComp y [⟨tg, x, ifs, 0⟩] scope pos) (mComp it g mt ma (own.map (·.2))) :=
  ⟨pe_imp (pe_lc hc hN hi.pi ok (fun s H C cl fp => (hg s H C cl fp).pg) (fun s H C cl fp => (ht s H C cl fp).pts) (fun s H C cl fp => (he s H C cl fp).pe) hs) fun _ _ _ u => comp_of u⟩
theorem ss_setComp (i : Nat) {n : Str} {py spos : Pos} (own : List (Str × Nat)) (hc : X.calm = true) (hN : X.N.Nodup) (hi : SI G X W tg x it) (ok : BlkOk X.N X.env.scope scope own)
    (hg : ∀ (s : Shared) (H : Hp) (C : Addr) (cl : List (Str × Addr)) (fp : List Addr), SG G (X.blk s H scope (compEnvC scope cl C X.env) fp) tg g (own.map (·.2)))
    (ht : ∀ (s : Shared) (H : Hp) (C : Addr) (cl : List (Str × Addr)) (fp : List Addr), STs G (X.blk s H scope (compEnvC scope cl C X.env) fp) W0 ifs mt)
    (he : ∀ (s : Shared) (H : Hp) (C : Addr) (cl : List (Str × Addr)) (fp : List Addr), SE G (X.blk s H scope (compEnvC scope cl C X.env) fp) W0 y ma)
    (hy : X.N[i]? = some n := by rfl) (hyl : X.env.scope.names.lookup n = some .local := by rfl) (hsw : swapsWith (.ListComp y [⟨tg, x, ifs, 0⟩] scope pos) (some (.Name n py)) spos.line X.env = pure true := by exact sw_true rfl rfl rfl (by decide +kernel))
    (hs : ∀ z, foldedSetIterable x X.env z = pure z := by intro _; rfl) :
    SS G X W (.Assign [.Name n py] (.ListComp y [⟨tg, x, ifs, 0⟩] scope pos) spos) (mSet i (mComp it g mt ma (own.map (·.2)))) := by
  refine ⟨ps_imp (ps_setLc hc hN hy hyl hsw hi.pi ok (fun s H C cl fp => (hg s H C cl fp).pg) (fun s H C cl fp => (ht s H C cl fp).pts) (fun s H C cl fp => (he s H C cl fp).pe) hs) fun Z σ H u => ?_⟩
  obtain ⟨r, h, e, s, en, p⟩ := u
  have z : uE G W (mComp it g mt ma (own.map (·.2))) σ H (fun x H1 => gName i x σ H1 Z.nx) := by
    refine uG_weak (stepS s en p) ?_
    rintro v H1 ⟨r1, h1, a, g1, s1, en1, ra, p1⟩
    exact p1 _ H1 r1 Gr.refl s1 (en1.set ra)
  exact comp_of z
end
end
end L2.Lv
end
section
set_option maxRecDepth 100000
set_option maxHeartbeats 4000000
set_option autoImplicit false
namespace L2.Lv
open PySem PySem.Spec PyProof.Rows

/-! ### defs -/
def startE (n : Nat) (ds : List D) : En := ds.map some ++ List.replicate (n - ds.length) none
def mRun (n : Nat) (b : MS) (ds : List D) (h : Hm) : Re D := match b (startE n ds) h with
  | .nx _ h' => .ok .non h'
  | .rt d h' => .ok d h'
  | .ex c v _ h' => .ex c v h'
  | _ => .no
def mBody (ar n : Nat) (b : MS) : List D → Hm → Re D := fun ds h => if ds.length = ar then mRun n b ds h else .no
def spM (G : Gx) (m : List D → Hm → Re D) : Sp := fun vs H Q E => ∃ r h ds, Sim G r H h ∧ Reps G r H ds vs ∧ Post G E (RD G) r H (m ds h) Q
theorem start_en {G : Gx} {r : List Addr} {H : Hp} : ∀ {ds : List D} {vs : List V}, Reps G r H ds vs → ∀ (k : Nat), EnR G r H (ds.map some ++ List.replicate k none) (vs.map some ++ List.replicate k none)
  | _, _, .nil, k => ⟨by simp, fun i d e => by
      simp only [List.map_nil, List.nil_append] at e
      rw [List.getElem?_replicate] at e
      split at e <;> cases e⟩
  | _, _, .cons (d := d0) (v := v0) (ds := ds) (vs := vs) a b, k => by
    have ih := start_en b k
    refine ⟨by simp only [List.map_cons, List.cons_append, List.length_cons]; exact congrArg (· + 1) ih.len, fun i d e => ?_⟩
    cases i with
    | zero =>
      simp only [List.map_cons, List.cons_append, List.getElem?_cons_zero, Option.some.injEq] at e
      cases e
      exact ⟨v0, by simp, a⟩
    | succ i =>
      simp only [List.map_cons, List.cons_append, List.getElem?_cons_succ] at e ⊢
      exact ih.at_ i d e
section
variable {P : Program} {w : World} {K : PySem.W.Frag} {mg : Str → Option Value} {base : Heap} {G : Gx}
theorem fn_ok {x qual : Str} {st : Stmt} {f : Addr} {fd : FuncData} {N ps : List Str} {k : Nat} {b : MS} (F : Fun K x qual st f fd) (S : FnScope N ps (defScope st))
    (hb : ∀ (cdv : Value) (A : Around) (outer : List Env) (s : Shared) (H : Hp) (E : XK), Room k (A.deeper (envOfC qual (defScope st) s.heap.objs.size f cdv)) →
      SSs G (cxOf (L2.CX P w) P w K mg base N qual (defScope st) f cdv A outer s H E) (fun c d _ H' => E c d H') (defBody st) b) : FnOk P w K mg base (L2.CX P w) (k + 1) f fd ps (spM G (mBody ps.length N.length b)) := by
  refine F.okX S (fun vs H Q E h => ?_) fun cdv A outer s H vs Q E hr h => ⟨_, (hb cdv A outer s H E hr).pss, ?_⟩
  · obtain ⟨r, hm, ds, sm, rp, p⟩ := h
    unfold mBody at p
    split at p
    · rename_i c
      rw [← rp.length]
      exact c
    · exact p.elim
  obtain ⟨r, hm, ds, sm, rp, p⟩ := h
  refine ⟨r, hm, startE N.length ds, sm, ?_, ?_⟩
  · have l := rp.length
    unfold startE start
    rw [l]
    exact start_en rp _
  · unfold mBody at p
    split at p
    · unfold mRun at p
      cases q : b (startE N.length ds) hm with
      | nx e' h' => rw [q] at p; exact fun σ' H' r' g s' _ => p .non H' r' g s' .non
      | rt d h' => rw [q] at p; exact p
      | ex c d e' h' => rw [q] at p; exact fun v σ' H' r' dd g s' _ rv hd => p v H' r' dd g s' rv hd
      | bk e' h' => rw [q] at p; exact p.elim
      | ct e' h' => rw [q] at p; exact p.elim
      | no => rw [q] at p; exact p.elim
    · exact p.elim
theorem fn_imp {k : Nat} {f : Addr} {fd : FuncData} {ps : List Str} {m m' : List D → Hm → Re D} (F : FnOk P w K mg base (L2.CX P w) k f fd ps (spM G m)) (e : ∀ ds h, m' ds h = m ds h ∨ m' ds h = .no) : FnOk P w K mg base (L2.CX P w) k f fd ps (spM G m') :=
  F.imp fun vs H Q E ⟨r, h, ds, s, rp, p⟩ => ⟨r, h, ds, s, rp, by
    rcases e ds h with q | q
    · rw [← q]; exact p
    · rw [q] at p; exact p.elim⟩
/-- nothing is promised -/
theorem fn_no {k : Nat} {f : Addr} {fd : FuncData} {ps : List Str} : FnOk P w K mg base (L2.CX P w) k f fd ps (spM G (fun _ _ => .no)) :=
  ⟨fun vs H Q E ⟨_, _, _, _, _, p⟩ => p.elim, fun A outer s H args us vs Q E _ _ _ _ ⟨_, _, _, _, _, p⟩ => p.elim⟩
end

section
variable {G : Gx} {X : Cx} {W : WX} {x y z tg : Expr} {xs : List Expr} {ma mb mc : ME} {mt mu : MT} {ms : MA} {pos : Pos} {st : Stmt} {sts : List Stmt} {a b : MS} {r : List Addr} {H : Hp} {h : Hm}
variable {k : Nat} {f C : Addr} {fd : FuncData} {ps : List Str} {n : Str} {np apos : Pos} {m : List D → Hm → Re D}
/-! ### f(..) -/
def mCall (m : List D → Hm → Re D) (a : MA) : ME := mApp m a
theorem callS_of {σ : L2.St} {H : Hp} {Q : VK} (u : uE G W (mCall m ms) σ H Q) : tCallS (spM G m) (WE W) (uA G W ms) σ H Q := by
  obtain ⟨r, h, e, s, en, p⟩ := u
  refine uG_weak (stepP s en p) ?_
  rintro vs H1 ⟨r1, h1, as, g1, s1, en1, rs, p1⟩
  exact ⟨r1, h1, as, s1, rs, p1⟩
theorem se_call (F : FnOk X.prog X.w X.K X.mg X.base (L2.CX X.prog X.w) k f fd ps (spM G m)) (hr : Room k X.A) (tk : Takes X W) (hm : X.mg n = some (.ref f)) (hk : PySem.W.keepIn X.K (.ref f) = true) (hb : Binds X.K fd ps []) (ha : SA G X W (x :: xs) ms)
    (hg : Gl X n := by rfl) (hdb : (n == ("__debug__" : Str)) = false := by decide) (he : starEach (x :: xs) X.env = (false, eval x X.env) :: starEach xs X.env := by rfl) (hpl : (backTo pos (starEach xs X.env)).any (·.1) = false := by rfl) :
    SE G X W (.Call (.Name n np) (x :: xs) [] pos) (mCall m ms) :=
  ⟨pe_imp (pe_callS F hr hg hm hk hb (fun σ => passAt tk σ) ha.pa hdb he hpl) fun _ _ _ u => callS_of u⟩
theorem se_call0 (F : FnOk X.prog X.w X.K X.mg X.base (L2.CX X.prog X.w) k f fd ps (spM G m)) (hr : Room k X.A) (tk : Takes X W) (hm : X.mg n = some (.ref f)) (hk : PySem.W.keepIn X.K (.ref f) = true) (hb : Binds X.K fd ps [])
    (hg : Gl X n := by rfl) (hdb : (n == ("__debug__" : Str)) = false := by decide) : SE G X W (.Call (.Name n np) [] [] pos) (mCall m mNil) := by
  refine ⟨⟨fun pins s σ H Q I u => ?_⟩⟩
  refine wpAny_Call_Name_kw (ld_glob I hg hm ?_ hdb)
  refine PySem.W.callWith_K0 I.kIn hk ?_
  obtain ⟨r, h, e, sm, en, p⟩ := u
  exact run_fnS (E := WE W) F hr hb (passAt tk σ) I .nil ⟨r, h, [], sm, .nil, p⟩
/-! ### o.m(..): a method of an own class -/
structure ClsM (G : Gx) (c : Nat) (mn : Str) (f : Addr) : Prop where
  cl : Cls G.K (G.ga c)
  me : Meth G.K (G.ga c) mn f
def isIns (c : Nat) (h : Hm) : D → Bool
  | .ref n => match h[n]? with
    | some (.ins c' _) => decide (c' = c)
    | _ => false
  | _ => false
def mOwn (c : Nat) (m : List D → Hm → Re D) (o : ME) (a : MA) : ME := fun e h => (o e h).bind fun x h1 => if isIns c h1 x = true then (a e h1).bind fun ds h2 => m (x :: ds) h2 else .no
theorem ins_at {c : Nat} {d : D} {v : V} (s : Sim G r H h) (q : Rep G r H d v) (e : isIns c h d = true) : ∃ a dx vs fs, v = .ref a ∧ H a = some (.ins (G.ga c) dx vs) ∧ FsR G r H fs vs := by
  cases q with
  | ref hn =>
    obtain ⟨ob, e1, o⟩ := s.get hn
    simp only [isIns, e1] at e
    cases ob with
    | ins c' fs =>
      have e := of_decide_eq_true e
      subst e
      obtain ⟨dx, vs, q1, q2⟩ := o
      exact ⟨_, dx, vs, fs, rfl, q1, q2⟩
    | _ => cases e
  | _ => cases e
theorem se_own {c : Nat} {mn : Str} {pl : Sem Bool} (hK : X.K = G.K) (T : ClsM G c mn f) (hnf : mn ∉ G.fn) (F : FnOk X.prog X.w X.K X.mg X.base (L2.CX X.prog X.w) k f fd ps (spM G m)) (hr : Room k X.A) (tk : Takes X W) (hb : Binds X.K fd ps []) (ho : SE G X W z ma) (ha : SA G X W (x :: xs) ms)
    (hst : starEach (x :: xs) X.env = (false, eval x X.env) :: starEach xs X.env := by rfl) (hpl : (backTo pos (starEach xs X.env)).any (·.1) = false := by rfl)
    (ht : eval (.Call (.Attribute z mn apos) (x :: xs) [] pos) X.env = (do
      let ov ← eval z X.env
      standAt apos.atName
      let (f, first) ← holding [ov] (getMethod ov mn pl)
      callWith pos f first (backTo pos (starEach (x :: xs) X.env)) (backToKw pos (keywordEach [] X.env))) := by rfl) :
    SE G X W (.Call (.Attribute z mn apos) (x :: xs) [] pos) (mOwn c m ma ms) := by
  refine ⟨⟨fun pins s σ H Q I u => ?_⟩⟩
  obtain ⟨r, h, e, sm, en, p⟩ := u
  have u1 := stepP (G := G) (W := W) (R := RD G) sm en p
  refine PySem.W.methodCall_KW (pl := pl) (thn (ho.pe.run pins s σ H _ I u1) fun u s1 ⟨v, H1, I1, rx, r1, h1, d, g1, sm1, en1, rd, p1⟩ => ?_) ht
  split at p1
  · rename_i ci
    obtain ⟨a, dx, vs, fs, ev, ea, fr⟩ := ins_at sm1 rd ci
    subst ev
    obtain rfl : u = Value.ref a := rx
    refine getmeth_ok I1 ea (by rw [hK]; exact T.cl) (by rw [hK]; exact T.me) (fs_none hnf fr) ?_
    refine PySem.W.callWith_K (first := [.ref a]) (h₀ := X.base) I.ok.mod.kin (by rw [hK]; exact T.me.kp) (thn (ha.pa.run pos pins s1 σ H1 _ I1 (stepP (G := G) (W := W) (R := RL G) sm1 en1 p1)) fun us s2 ⟨vs', H2, I2, r', r2, h2, ds, g2, sm2, en2, rs, p2⟩ => ⟨I2.kIn, ?_⟩) hst hpl
    exact run_fnS (E := WE W) (us := .ref a :: us) (vs := .ref a :: vs') F hr hb (passAt tk σ) I2 (.cons rfl r') ⟨r2, h2, d :: ds, sm2, .cons (rd.mono g2) rs, p2⟩
  · exact p1.elim
theorem se_own0 {c : Nat} {mn : Str} {pl : Sem Bool} (hK : X.K = G.K) (T : ClsM G c mn f) (hnf : mn ∉ G.fn) (F : FnOk X.prog X.w X.K X.mg X.base (L2.CX X.prog X.w) k f fd ps (spM G m)) (hr : Room k X.A) (tk : Takes X W) (hb : Binds X.K fd ps []) (ho : SE G X W z ma)
    (ht : eval (.Call (.Attribute z mn apos) [] [] pos) X.env = (do
      let ov ← eval z X.env
      standAt apos.atName
      let (f, first) ← holding [ov] (getMethod ov mn pl)
      callWith pos f first (backTo pos (starEach [] X.env)) (backToKw pos (keywordEach [] X.env))) := by rfl) :
    SE G X W (.Call (.Attribute z mn apos) [] [] pos) (mOwn c m ma mNil) := by
  refine ⟨⟨fun pins s σ H Q I u => ?_⟩⟩
  obtain ⟨r, h, e, sm, en, p⟩ := u
  have u1 := stepP (G := G) (W := W) (R := RD G) sm en p
  refine PySem.W.methodCall_KW (pl := pl) (thn (ho.pe.run pins s σ H _ I u1) fun u s1 ⟨v, H1, I1, rx, r1, h1, d, g1, sm1, en1, rd, p1⟩ => ?_) ht
  split at p1
  · rename_i ci
    obtain ⟨a, dx, vs, fs, ev, ea, fr⟩ := ins_at sm1 rd ci
    subst ev
    obtain rfl : u = Value.ref a := rx
    refine getmeth_ok I1 ea (by rw [hK]; exact T.cl) (by rw [hK]; exact T.me) (fs_none hnf fr) ?_
    exact PySem.W.callWith_K0 (first := [.ref a]) I1.kIn (by rw [hK]; exact T.me.kp) (run_fnS (E := WE W) (us := [.ref a]) (vs := [.ref a]) F hr hb (passAt tk σ) I1 (.cons rfl .nil) ⟨r1, h1, [d], sm1, .cons rd .nil, p1⟩)
  · exact p1.elim
/-! ### C(..): an own class is called -/
def mMake (c : Nat) (m : List D → Hm → Re D) (a : MA) : ME := fun e h => (a e h).bind fun ds h1 => (m (.ref h1.length :: ds) (h1 ++ [.ins c []])).bind fun d h2 => match d with
  | .non => .ok (.ref h1.length) h2
  | _ => .no
theorem run_makeS {pins : List (Addr × Obj)} {σ : L2.St} {H : Hp} {s : Shared} {Q : VK} {us : List Value} {vs : List V} {CX : CXT} {sp : Sp} {E : XK} (M : Mk X.K C f) (F : FnOk X.prog X.w X.K X.mg X.base CX k f fd ps sp) (hr : Room (k + 1) X.A) (hb : Binds X.K fd ps [])
    (hx : PassesAt CX X σ E) (I : Inv X pins σ H s) (r : Vals vs us)
    (h : ∀ x dx, H x = none → H dx = none → dx ≠ x → sp (.ref x :: vs) (upd (upd H dx (.own x)) x (.ins C dx [])) (fun v H2 => v = .non ∧ Q (.ref x) H2) E) :
    wpAny (model X.prog X.w) X.A (call (.ref C) us) (EP X pins σ Q) X.xe s := by
  have hq := h (s.heap.objs.size + 1) s.heap.objs.size (I.hok.fresh (Nat.le_succ _)) (I.hok.fresh (Nat.le_refl _)) (Nat.ne_of_lt (Nat.lt_succ_self _))
  have I2 := Inv.made (C := C) I
  have r2 : Vals (V.ref (s.heap.objs.size + 1) :: vs) (Value.ref (s.heap.objs.size + 1) :: us) := .cons rfl r
  have hl : ((Value.ref (s.heap.objs.size + 1) :: us) ++ []).length = ps.length := by
    have e := r2.length
    rw [F.len _ _ _ _ hq] at e
    rw [List.append_nil]
    exact e.symm
  have hb2 := hb _ (Value.ref (s.heap.objs.size + 1) :: us) I2.kIn hl
  rw [List.append_nil] at hb2
  refine wpAny_call (make_map (f := f) I.kIn M.makes M.init (beq_iff_eq.mp M.fn) (codeAny_mono (F.run _ X.stack _ _ ⟨Value.ref (s.heap.objs.size + 1) :: us, []⟩ (Value.ref (s.heap.objs.size + 1) :: us) _ _ E (hr.make C us [])
    (I2.env0.make C us []) hb2 r2 hq) fun r s' hq' => ?_))
  cases r with
  | error e => exact hx pins _ _ e s' I2 hq'
  | ok fl =>
    cases fl with
    | ret u =>
      obtain ⟨v, H', I3, rv, ev, q3⟩ := I2.after hq'
      subst ev
      exact ⟨rv, ⟨V.ref (s.heap.objs.size + 1), H', I3, rfl, q3⟩⟩
    | next => exact False.elim hq'
    | brk => exact False.elim hq'
    | cont => exact False.elim hq'
theorem make_of {c : Nat} {W' : XK} {Q : VK} {ds : List D} {vs : List V} (hC : C = G.ga c) (s : Sim G r H h) (rs : Reps G r H ds vs) (p : Post G W' (RD G) r H ((m (.ref h.length :: ds) (h ++ [.ins c []])).bind fun d h2 => match d with
  | .non => .ok (.ref h.length) h2
  | _ => .no) Q) : ∀ x dx, H x = none → H dx = none → dx ≠ x → spM G m (.ref x :: vs) (upd (upd H dx (.own x)) x (.ins C dx [])) (fun v H2 => v = .non ∧ Q (.ref x) H2) W' := by
  intro x dx hx hdx hne
  subst hC
  have hx' : upd H dx (.own x) x = none := by rw [upd_ne (Ne.symm hne)]; exact hx
  have s1 : Sim G r (upd H dx (.own x)) h := s.fresh hdx
  have g1 : Gr G r H r (upd H dx (.own x)) := gr_fresh hdx
  have g2 : Gr G r (upd H dx (.own x)) (r ++ [x]) (upd (upd H dx (.own x)) x (.ins (G.ga c) dx [])) := gr_new hx'
  have s2 : Sim G (r ++ [x]) (upd (upd H dx (.own x)) x (.ins (G.ga c) dx [])) (h ++ [.ins c []]) := s1.new (ob := .ins c []) hx' ⟨dx, [], upd_same, .nil⟩
  refine ⟨r ++ [x], _, _, s2, .cons (.ref (new_at s1 x)) (rs.mono (g1.trans g2)), ?_⟩
  have p2 := Post.mono (g1.trans g2) p
  refine Post.weak (Post.bind (R := RD G) p2) ?_
  rintro v H' ⟨r3, h3, d, g3, s3, rd, p3⟩
  cases rd with
  | non => exact ⟨rfl, p3 (.ref x) H' r3 Gr.refl s3 (.ref (g3.pre _ _ (new_at s1 x)))⟩
  | _ => exact p3.elim
theorem se_make {c : Nat} (M : Mk X.K C f) (hC : C = G.ga c) (F : FnOk X.prog X.w X.K X.mg X.base (L2.CX X.prog X.w) k f fd ps (spM G m)) (hr : Room (k + 1) X.A) (tk : Takes X W) (hm : X.mg n = some (.ref C)) (hb : Binds X.K fd ps []) (ha : SA G X W (x :: xs) ms)
    (hg : Gl X n := by rfl) (hdb : (n == ("__debug__" : Str)) = false := by decide) (he : starEach (x :: xs) X.env = (false, eval x X.env) :: starEach xs X.env := by rfl) (hpl : (backTo pos (starEach xs X.env)).any (·.1) = false := by rfl) :
    SE G X W (.Call (.Name n np) (x :: xs) [] pos) (mMake c m ms) := by
  refine ⟨⟨fun pins s σ H Q I u => ?_⟩⟩
  obtain ⟨r, h, e, sm, en, p⟩ := u
  refine wpAny_Call_Name_kw (ld_glob I hg hm ?_ hdb)
  refine PySem.W.callWith_K (h₀ := X.base) I.ok.mod.kin M.kp (thn (ha.pa.run pos pins s σ H _ I (stepP (G := G) (W := W) (R := RL G) sm en p)) fun us s1 ⟨vs, H1, I1, r', r1, h1, ds, g1, sm1, en1, rs, p1⟩ => ⟨I1.kIn, ?_⟩) he hpl
  exact run_makeS (E := WE W σ) M F hr hb (passAt tk σ) I1 r' (make_of hC sm1 rs p1)
theorem se_make0 {c : Nat} (M : Mk X.K C f) (hC : C = G.ga c) (F : FnOk X.prog X.w X.K X.mg X.base (L2.CX X.prog X.w) k f fd ps (spM G m)) (hr : Room (k + 1) X.A) (tk : Takes X W) (hm : X.mg n = some (.ref C)) (hb : Binds X.K fd ps [])
    (hg : Gl X n := by rfl) (hdb : (n == ("__debug__" : Str)) = false := by decide) : SE G X W (.Call (.Name n np) [] [] pos) (mMake c m mNil) := by
  refine ⟨⟨fun pins s σ H Q I u => ?_⟩⟩
  obtain ⟨r, h, e, sm, en, p⟩ := u
  refine wpAny_Call_Name_kw (ld_glob I hg hm ?_ hdb)
  exact PySem.W.callWith_K0 I.kIn M.kp (run_makeS (E := WE W σ) (us := []) M F hr hb (passAt tk σ) I .nil (make_of hC sm (vs := []) .nil p))
end
end L2.Lv
end
section
set_option maxRecDepth 100000
set_option maxHeartbeats 4000000
set_option autoImplicit false
namespace L2.Lv
open PySem PySem.Spec PyProof.Rows

/-! ### own dunders -/
def noEx {α : Type} : Re α → Re α
  | .ex _ _ _ => .no
  | x => x
def never : XK := fun _ _ _ => False
theorem post_noEx {α β : Type} {G : Gx} {W W' : XK} {R : List Addr → Hp → α → β → Prop} {r : List Addr} {H : Hp} {x : Re α} {Q : β → Hp → Prop} (p : Post G W R r H (noEx x) Q) : Post G W' R r H x Q := by
  cases x with
  | ok a h => exact p
  | ex c v h => exact p.elim
  | no => exact p.elim
section
variable {G : Gx} {X : Cx} {W : WX} {x y z tg : Expr} {xs : List Expr} {ma mb mc : ME} {mt mu : MT} {ms : MA} {pos : Pos} {st : Stmt} {sts : List Stmt} {a b : MS} {r : List Addr} {H : Hp} {h : Hm}
variable {k : Nat} {f C : Addr} {fd : FuncData} {ps : List Str} {n : Str} {np apos : Pos} {m : List D → Hm → Re D}
theorem run_in {A : Around} {pins : List (Addr × Obj)} {σ : L2.St} {H : Hp} {s : Shared} {Q : VK} {us : List Value} {vs : List V} {sp : Sp} (F : FnOk X.prog X.w X.K X.mg X.base (L2.CX X.prog X.w) k f fd ps sp) (hr : Room k A) (e0 : Env0 X.prog X.w X.K X.mg X.base A X.stack s H) (hb : Binds X.K fd ps [])
    (I : Inv X pins σ H s) (r : Vals vs us) (h : sp vs H Q never) : wpAny (model X.prog X.w) A (call (.ref f) us) (EP X pins σ Q) X.xe s := by
  have hl : us.length = ps.length := by rw [← r.length]; exact F.len _ _ _ _ h
  have b := hb s us I.kIn (by rw [List.append_nil]; exact hl)
  rw [List.append_nil] at b
  refine wpAny_call (codeAny_mono (F.run A X.stack s H ⟨us, []⟩ us vs Q never hr e0 b r h) fun r s' hq => ?_)
  cases r with
  | error e => exact (let ⟨_, _, _, _, _, _, _, _, _, _, _, _, w⟩ := hq; w.elim)
  | ok fl =>
    cases fl with
    | ret u => exact I.after hq
    | next => exact False.elim hq
    | brk => exact False.elim hq
    | cont => exact False.elim hq
/-- a special method of an own class -/
structure ClsD (G : Gx) (c : Nat) (mn : Str) (f : Addr) : Prop where
  at_ : PySem.W.findIn G.K (.ref (G.ga c)) mn = some (some (.ref f))
  fn : PySem.W.isFn G.K (.ref f) = true
def pLenO (c : Nat) (m : List D → Hm → Re D) (as : List D) (h : Hm) : Re D := match as with
  | [d] => if isIns c h d = true then (noEx (m [d] h)).bind fun v h1 => match v with
    | .int i => if 0 ≤ i ∧ i < 2 ^ 63 then .ok (.int i) h1 else .no
    | _ => .no
    else .no
  | _ => .no
def rOwnC (G : Gx) (c : Nat) (m : List D → Hm → Re D) (ok : VK → VK) : List V → Hp → VK → Prop := fun xs H Q => ∃ a dx fs, xs = [.ref a] ∧ H a = some (.ins (G.ga c) dx fs) ∧ spM G m [.ref a] H (ok Q) never
theorem call_lenOwn {c : Nat} (hK : X.K = G.K) (T : ClsD G c "__len__" f) (F : FnOk X.prog X.w X.K X.mg X.base (L2.CX X.prog X.w) k f fd ps (spM G m)) (hr : Room (k + 1) X.A) (hb : Binds X.K fd ps []) :
    CallR X (.builtin "len") (rOwnC G c m fun Q v H' => ∃ i, v = .int i ∧ (0 ≤ i ∧ i < 2 ^ 63) ∧ Q (.int i) H') := by
  intro pins s σ H xs us Q I r hq
  obtain ⟨a, dx, fs, rfl, ea, q⟩ := hq
  obtain ⟨u, rfl, ru⟩ := r.one
  cases (show u = Value.ref a from ru)
  obtain ⟨mA, O, _⟩ := ins_get I.hok ea
  obtain ⟨od, J, _⟩ := O.look
  obtain ⟨mf, hF⟩ := I.fr
  refine PySem.W.len_K hF I.ok.mod.kin J (by rw [hK]; exact T.at_) (by rw [hK]; exact T.fn) (wpAny_mono (run_in (us := [.ref a]) (vs := [.ref a]) F hr.in1 I.env0.in1 hb I (.cons rfl .nil) q) (fun w s' z => ?_) fun _ _ x => x)
  obtain ⟨v, H', I', rz, i, ei, bi, qz⟩ := z
  subst ei
  obtain ⟨t, e⟩ := (show ∃ t, w = Value.int i t from rz)
  cases e
  exact ⟨bi, .int i, H', I'.tok _, ⟨_, rfl⟩, qz⟩
theorem primC_lenO {c : Nat} : PrimC G (rOwnC G c m fun Q v H' => ∃ i, v = .int i ∧ (0 ≤ i ∧ i < 2 ^ 63) ∧ Q (.int i) H') (pLenO c m) := by
  intro W r H h as xs Q s ra p
  unfold pLenO at p
  split at p
  · rename_i d
    cases ra with
    | cons q t =>
      cases t
      split at p
      · rename_i ci
        obtain ⟨a, dx, vs, fs, ev, ea, fr⟩ := ins_at s q ci
        subst ev
        refine ⟨a, dx, vs, rfl, ea, r, h, [d], s, .cons q .nil, ?_⟩
        refine post_noEx (Post.weak (Post.bind (R := RD G) p) ?_)
        rintro v H1 ⟨r1, h1, d1, g1, s1, rd1, p1⟩
        cases rd1 with
        | int i =>
          simp only at p1
          split at p1
          · rename_i bi
            exact ⟨i, rfl, bi, p1 _ H1 r1 Gr.refl s1 (.int i)⟩
          · exact p1.elim
        | _ => exact p1.elim
      · exact p.elim
  · exact p.elim

/-! ### kinds -/
def kd (h : Hm) : D → Nat
  | .non => 0
  | .bl _ => 1
  | .int _ => 2
  | .str _ => 3
  | .tup _ => 4
  | .ref i => match h[i]? with
    | some (.lst _) => 5
    | some (.frz _) => 5
    | some (.dk _) => 6
    | some (.fdk _) => 6
    | some (.ins c _) => 7 + c
    | none => 0
def kdV (G : Gx) : Nat → Value
  | 0 => .type "NoneType"
  | 1 => .type "bool"
  | 2 => .type "int"
  | 3 => .type "str"
  | 4 => .type "tuple"
  | 5 => .type "list"
  | 6 => .type "dict"
  | n + 7 => .ref (G.ga n)
structure ClsI (G : Gx) (c : Nat) : Prop where
  cl : Cls G.K (G.ga c)
  ca : PySem.W.findIn G.K (.ref (G.ga c)) "__class__" = some (some (.builtin "object.__class__"))
  ob : PySem.W.mroIn G.K (G.ga c) (.type "object") = some true
structure Kinds (G : Gx) (n : Nat) : Prop where
  cn : PySem.W.specialIn G.K (.builtin "object.__class__") "__get__" = some (some (.builtin "getset_descriptor.__get__"))
  ct : PySem.W.takesIn G.K (.builtin "object.__class__") = some true
  ci : ∀ c, c < n → ClsI G c
theorem tyx_tup {K : PySem.W.Frag} {H : Hp} {a : Addr} {vs : List V} (q : SqT K H a vs) : TyX K H (.ref a) (.type "tuple") := by
  rcases q with (q | ⟨o, q⟩) | ⟨o, its, n, q, q2, _⟩
  · exact .base (.tup q)
  · exact .fTuple q
  · exact .kTuple q q2
theorem tyx_of {nc : Nat} (N : Kinds G nc) {d : D} {v : V} (s : Sim G r H h) (q : Rep G r H d v) (e : kd h d < 7 + nc) : TyX G.K H v (kdV G (kd h d)) := by
  cases q with
  | non => exact .base .non
  | bl b => exact .base (.bl b)
  | int i => exact .base (.int i)
  | str t => exact .base (.str _)
  | tup h1 h2 => exact tyx_tup h1
  | ref hn =>
    obtain ⟨ob, e1, o⟩ := s.get hn
    simp only [kd, e1] at e ⊢
    cases ob with
    | lst xs => obtain ⟨vs, q1, _⟩ := o; exact .base (.lst q1)
    | frz xs => obtain ⟨p, vs, q1, _⟩ := o; exact .base (.frz q1)
    | dk kvs => obtain ⟨vs, q1, _⟩ := o; exact .base (.dK q1)
    | fdk kvs => obtain ⟨oo, vs, q1, _⟩ := o; exact .fDict q1
    | ins c fs =>
      obtain ⟨dx, vs, q1, _⟩ := o
      have hc : c < nc := by
        have e : 7 + c < 7 + nc := e
        omega
      have z := N.ci c hc
      show TyX G.K H _ (kdV G (7 + c))
      rw [Nat.add_comm]
      exact .base (.ins q1 z.cl z.ca N.cn N.ct z.ob)
def pIsi (nc : Nat) (ks : List Nat) (d : D) (h : Hm) : Re D := if kd h d < 7 + nc then .ok (.bl (ks.contains (kd h d))) h else .no
def mUn (p : D → Hm → Re D) (a : ME) : ME := fun e h => (a e h).bind p
/-- isinstance(x, T) -/
theorem se_isi {nc : Nat} {ks : List Nat} {cv : V} {cu : Value} {ip : Pos} (N : Kinds G nc) (hK : X.K = G.K) (ho : PE X y (tC cv)) (hv : ClsV cv cu) (hks : ∀ j, j < 7 + nc → PySem.W.kitOne G.K (kdV G j) cu = some (ks.contains j)) (ha : SE G X W x ma)
    (hg : Gl X "isinstance") (hm : X.mg "isinstance" = none)
    (he : starEach [x, y] X.env = (false, eval x X.env) :: starEach [y] X.env := by rfl) (he2 : starEach [y] X.env = (false, eval y X.env) :: starEach [] X.env := by rfl) (hpl : (backTo pos (starEach [y] X.env)).any (·.1) = false := by rfl) :
    SE G X W (.Call (.Name "isinstance" ip) [x, y] [] pos) (mUn (pIsi nc ks) ma) := by
  refine ⟨pe_imp (pe_callB call_isi hg hm (by decide +kernel) (pa_cons ha.pe (pa_cons ho pa_nil he2) he) (by decide) (by decide) he hpl) fun σ H Q u => ?_⟩
  obtain ⟨r, h, e, s, en, p⟩ := u
  refine uG_weak (stepP s en p) ?_
  rintro v H1 ⟨r1, h1, a, g1, s1, en1, ra, p1⟩
  unfold pIsi at p1
  split at p1
  · rename_i c
    exact ⟨v, cv, _, cu, _, rfl, hv, by rw [hK]; exact tyx_of N s1 ra c, by rw [hK]; exact hks _ c, p1 _ H1 r1 Gr.refl s1 (.bl _)⟩
  · exact p1.elim
/-- written classes -/
structure CA (X : Cx) (es : List Expr) (cs : List V) (us : List Value) : Prop where
  pa : PA X es (fun _ H Q => Q cs H)
  ok : Paired ClsV cs us
theorem ca_nil : CA X [] [] [] := ⟨pa_nil, .nil⟩
theorem ca_cons {cv : V} {cu : Value} {cs : List V} {us : List Value} (ho : PE X y (tC cv)) (hv : ClsV cv cu) (h : CA X xs cs us) (he2 : starEach (y :: xs) X.env = (false, eval y X.env) :: starEach xs X.env := by rfl) : CA X (y :: xs) (cv :: cs) (cu :: us) :=
  ⟨pa_imp (pa_cons ho h.pa he2) fun _ _ _ q => q, .cons hv h.ok⟩
/-- isinstance(x, (T, ..)) -/
theorem se_isiT {nc : Nat} {ks : List Nat} {cs : List V} {us : List Value} {ip tp : Pos} {kt : Nat} (N : Kinds G nc) (hK : X.K = G.K) (ho : CA X xs cs us) (hl : cs.length ≤ 100) (hks : ∀ j, j < 7 + nc → PySem.W.kitAny G.K (kdV G j) us = some (ks.contains j)) (ha : SE G X W x ma)
    (hg : Gl X "isinstance") (hm : X.mg "isinstance" = none)
    (he : starEach [x, .Tuple xs kt tp] X.env = (false, eval x X.env) :: starEach [.Tuple xs kt tp] X.env := by rfl) (he2 : starEach [.Tuple xs kt tp] X.env = (false, eval (.Tuple xs kt tp) X.env) :: starEach [] X.env := by rfl) (hpl : (backTo pos (starEach [.Tuple xs kt tp] X.env)).any (·.1) = false := by rfl) :
    SE G X W (.Call (.Name "isinstance" ip) [x, .Tuple xs kt tp] [] pos) (mUn (pIsi nc ks) ma) := by
  refine ⟨pe_imp (pe_callB call_isiT hg hm (by decide +kernel) (pa_cons ha.pe (pa_cons (pe_tup ho.pa) pa_nil he2) he) (by decide) (by decide) he hpl) fun σ H Q u => ?_⟩
  obtain ⟨r, h, e, s, en, p⟩ := u
  refine uG_weak (stepP s en p) ?_
  rintro v H1 ⟨r1, h1, a, g1, s1, en1, ra, p1⟩
  refine ⟨by rw [sizeLine_eq]; omega, fun q hq => ?_⟩
  unfold pIsi at p1
  split at p1
  · rename_i c
    have s2 : Sim G r1 (upd H1 q (.tup cs)) h1 := s1.fresh hq
    exact ⟨v, q, cs, _, us, _, rfl, upd_same, ho.ok, by rw [hK]; exact tyx_of N s2 (ra.mono (gr_fresh hq)) c, by rw [hK]; exact hks _ c, p1 _ _ r1 (gr_fresh hq) s2 (.bl _)⟩
  · exact p1.elim
/-! ### ==, in, [..] of an own class -/
def pEqO (c nc : Nat) (m : List D → Hm → Re D) (a b : D) (h : Hm) : Re D := if isIns c h a = true ∧ kd h b < 7 + nc then noEx (m [a, b] h) else .no
def rOwn2 (G : Gx) (c nc : Nat) (m : List D → Hm → Re D) : R2 := fun x y H Q => ∃ a dx fs j, x = .ref a ∧ H a = some (.ins (G.ga c) dx fs) ∧ TyX G.K H y (kdV G j) ∧ j < 7 + nc ∧ spM G m [x, y] H Q never
theorem op_eqOwn {c nc : Nat} (hK : X.K = G.K) (T : ClsD G c "__eq__" f) (hn : ∀ j, j < 7 + nc → PySem.W.notFirst G.K (G.ga c) (kdV G j) = true) (F : FnOk X.prog X.w X.K X.mg X.base (L2.CX X.prog X.w) k f fd ps (spM G m)) (hr : Room k X.A) (hb : Binds X.K fd ps []) : OpR X (compareOp .Eq) (rOwn2 G c nc m) := by
  intro pins s σ H x y v u Q I rx ry h
  obtain ⟨a, dx, fs, j, rfl, ea, ty, hj, q⟩ := h
  cases (show v = Value.ref a from rx)
  obtain ⟨mA, O, _⟩ := ins_get I.hok ea
  obtain ⟨od, J, _⟩ := O.look
  obtain ⟨mf, hF⟩ := I.fr
  rw [← hK] at ty
  obtain ⟨P, Z, p, hx⟩ := kit_of I ry ty
  show wpAny _ _ (richCompare .Eq _ _) _ _ _
  refine PySem.W.cmp_K (op := .Eq) hr.units0 hF I.ok.mod.kin J (Z.ty _ _ I.kIn p) (by rw [hK]; exact hn j hj) (by rw [hK]; exact T.at_) (by rw [hK]; exact T.fn) ?_
  refine wpAny_mono (run_in (us := [.ref a, u]) (vs := [.ref a, y]) F hr I.env0 hb I (.cons rfl (.cons ry .nil)) q) (fun w s' z => ?_) fun _ _ x => x
  obtain ⟨z', H', I', rz, qz⟩ := z
  exact SlX.cmpback rz ⟨z', H', I', rz, qz⟩
theorem prim_eqO {c nc : Nat} (N : Kinds G nc) : Prim2 G (rOwn2 G c nc m) (pEqO c nc m) := by
  intro W r H h a b x y Q s ra rb p
  unfold pEqO at p
  split at p
  · rename_i ci
    obtain ⟨ad, dx, vs, fs, ev, ea, fr⟩ := ins_at s ra ci.1
    subst ev
    exact ⟨ad, dx, vs, kd h b, rfl, ea, tyx_of N s rb ci.2, ci.2, r, h, [a, b], s, .cons ra (.cons rb .nil), post_noEx p⟩
  · exact p.elim
/-- x in o -/
def pInO (neg : Bool) (c : Nat) (m : List D → Hm → Re D) (a b : D) (h : Hm) : Re D := if isIns c h b = true then (noEx (m [b, a] h)).bind fun v h1 => match v with
  | .bl t => .ok (.bl (if neg then !t else t)) h1
  | _ => .no
  else .no
def rInO (G : Gx) (c : Nat) (neg : Bool) (m : List D → Hm → Re D) : R2 := fun x y H Q => ∃ a dx fs, y = .ref a ∧ H a = some (.ins (G.ga c) dx fs) ∧ spM G m [y, x] H (fun v H' => ∃ t, v = .bl t ∧ Q (.bl (if neg then !t else t)) H') never
theorem op_inOwn {c : Nat} (hK : X.K = G.K) (T : ClsD G c "__contains__" f) (F : FnOk X.prog X.w X.K X.mg X.base (L2.CX X.prog X.w) k f fd ps (spM G m)) (hr : Room k X.A) (hb : Binds X.K fd ps []) : OpR X (compareOp .In) (rInO G c false m) := by
  intro pins s σ H x y v u Q I rx ry h
  obtain ⟨a, dx, fs, rfl, ea, q⟩ := h
  cases (show u = Value.ref a from ry)
  obtain ⟨mA, O, _⟩ := ins_get I.hok ea
  obtain ⟨od, J, _⟩ := O.look
  obtain ⟨mf, hF⟩ := I.fr
  refine PySem.W.in_K hF I.ok.mod.kin J (by rw [hK]; exact T.at_) (by rw [hK]; exact T.fn) ?_
  refine wpAny_mono (run_in (us := [.ref a, v]) (vs := [.ref a, x]) F hr I.env0 hb I (.cons rfl (.cons rx .nil)) q) (fun w s' z => ?_) fun _ _ x => x
  obtain ⟨z', H', I', rz, t, et, qz⟩ := z
  subst et
  cases (show w = Value.bool t from rz)
  exact wpAny_truthy_bool ⟨.bl t, H', I', rfl, qz⟩
theorem op_notInOwn {c : Nat} (hK : X.K = G.K) (T : ClsD G c "__contains__" f) (F : FnOk X.prog X.w X.K X.mg X.base (L2.CX X.prog X.w) k f fd ps (spM G m)) (hr : Room k X.A) (hb : Binds X.K fd ps []) : OpR X (compareOp .NotIn) (rInO G c true m) := by
  intro pins s σ H x y v u Q I rx ry h
  obtain ⟨a, dx, fs, rfl, ea, q⟩ := h
  cases (show u = Value.ref a from ry)
  obtain ⟨mA, O, _⟩ := ins_get I.hok ea
  obtain ⟨od, J, _⟩ := O.look
  obtain ⟨mf, hF⟩ := I.fr
  refine PySem.W.notIn_K hF I.ok.mod.kin J (by rw [hK]; exact T.at_) (by rw [hK]; exact T.fn) ?_
  refine wpAny_mono (run_in (us := [.ref a, v]) (vs := [.ref a, x]) F hr I.env0 hb I (.cons rfl (.cons rx .nil)) q) (fun w s' z => ?_) fun _ _ x => x
  obtain ⟨z', H', I', rz, t, et, qz⟩ := z
  subst et
  cases (show w = Value.bool t from rz)
  exact wpAny_truthy_bool ⟨.bl (!t), H', I', rfl, qz⟩
theorem prim_inO {c : Nat} {neg : Bool} : Prim2 G (rInO G c neg m) (pInO neg c m) := by
  intro W r H h a b x y Q s ra rb p
  unfold pInO at p
  split at p
  · rename_i ci
    obtain ⟨ad, dx, vs, fs, ev, ea, fr⟩ := ins_at s rb ci
    subst ev
    refine ⟨ad, dx, vs, rfl, ea, r, h, [b, a], s, .cons rb (.cons ra .nil), ?_⟩
    refine post_noEx (Post.weak (Post.bind (R := RD G) p) ?_)
    rintro v H1 ⟨r1, h1, d1, g1, s1, rd1, p1⟩
    cases rd1 with
    | bl t => exact ⟨t, rfl, p1 _ H1 r1 Gr.refl s1 (.bl _)⟩
    | _ => exact p1.elim
  · exact p.elim
/-- o[i]: may raise -/
def pGetO (c : Nat) (m : List D → Hm → Re D) (a b : D) (h : Hm) : Re D := if isIns c h a = true then m [a, b] h else .no
def mGetO (c : Nat) (m : List D → Hm → Re D) (a b : ME) : ME := mBin (pGetO c m) a b
theorem run_inS {A : Around} {pins : List (Addr × Obj)} {σ : L2.St} {H : Hp} {s : Shared} {Q : VK} {us : List Value} {vs : List V} {sp : Sp} (F : FnOk X.prog X.w X.K X.mg X.base (L2.CX X.prog X.w) k f fd ps sp) (hr : Room k A) (e0 : Env0 X.prog X.w X.K X.mg X.base A X.stack s H) (hb : Binds X.K fd ps [])
    (tk : Takes X W) (I : Inv X pins σ H s) (r : Vals vs us) (h : sp vs H Q (WE W σ)) : wpAny (model X.prog X.w) A (call (.ref f) us) (EP X pins σ Q) X.xe s := by
  have hl : us.length = ps.length := by rw [← r.length]; exact F.len _ _ _ _ h
  have b := hb s us I.kIn (by rw [List.append_nil]; exact hl)
  rw [List.append_nil] at b
  refine wpAny_call (codeAny_mono (F.run A X.stack s H ⟨us, []⟩ us vs Q (WE W σ) hr e0 b r h) fun r s' hq => ?_)
  cases r with
  | error e => exact passAt tk σ pins H s e s' I hq
  | ok fl =>
    cases fl with
    | ret u => exact I.after hq
    | next => exact False.elim hq
    | brk => exact False.elim hq
    | cont => exact False.elim hq
theorem se_getO {c : Nat} (hK : X.K = G.K) (T : ClsD G c "__getitem__" f) (hfn : PySem.W.fnIn G.K f = true) (F : FnOk X.prog X.w X.K X.mg X.base (L2.CX X.prog X.w) k f fd ps (spM G m)) (hr : Room (k + 1) X.A) (tk : Takes X W) (hb : Binds X.K fd ps []) (ha : SE G X W x ma) (hb2 : SE G X W y mb)
    (hsl : ∀ o i, subscripted y true o i = runValue (.builtin "lifetime.subscript" ⟨[o, i], []⟩) := by intro _ _; with_unfolding_all rfl) :
    SE G X W (.Subscript x y pos) (mGetO c m ma mb) := by
  refine ⟨⟨fun pins s σ H Q I u => ?_⟩⟩
  obtain ⟨r, h, e, sm, en, p⟩ := u
  refine Subscript_ (thn (ha.pe.run pins s σ H _ I (stepP (G := G) (W := W) (R := RD G) sm en p)) fun u s1 ⟨v, H1, I1, rx, r1, h1, d, g1, sm1, en1, rd, p1⟩ => ?_)
  refine thn (hb2.pe.run pins s1 σ H1 _ I1 (stepP (G := G) (W := W) (R := RD G) sm1 en1 p1)) fun u2 s2 ⟨v2, H2, I2, rx2, r2, h2, d2, g2, sm2, en2, rd2, p2⟩ => ?_
  unfold pGetO at p2
  split at p2
  · rename_i ci
    obtain ⟨a, dx, vs, fs, ev, ea, fr⟩ := ins_at sm2 (rd.mono g2) ci
    subst ev
    cases (show u = Value.ref a from rx)
    obtain ⟨mA, O, _⟩ := ins_get I2.hok ea
    obtain ⟨od, J, _⟩ := O.look
    obtain ⟨mf, hF⟩ := I2.fr
    exact PySem.W.sub_K hF I2.ok.mod.kin J (by rw [hK]; exact T.at_) (by rw [hK]; exact hfn) (by rw [hK]; exact T.fn) (run_inS (us := [.ref a, u2]) (vs := [.ref a, v2]) F hr.in1 I2.env0.in1 hb tk I2 (.cons rfl (.cons rx2 .nil)) ⟨r2, h2, [d, d2], sm2, .cons (rd.mono g2) (.cons rd2 .nil), p2⟩) (hsl _ _)
  · exact p2.elim
/-! ### (*xs, ..) -/
def mStar (a : ME) (r : MA) : MA := fun e h => (a e h).bind fun x h1 => match seqOf h1 x with
  | some xs => (r e h1).bind fun ys h2 => .ok (xs ++ ys) h2
  | none => .no
theorem sa_star {sp : Pos} (hK : X.K = G.K) (ha : SE G X W x ma) (hr : SA G X W xs ms) (hs : starEach (.Starred x sp :: xs) X.env = (true, eval x X.env) :: starEach xs X.env := by rfl) : SA G X W (.Starred x sp :: xs) (mStar ma ms) := by
  refine ⟨pa_imp (StX.pa_star ha.pe hr.pa hs) fun σ H Q u => ?_⟩
  obtain ⟨r, h, e, s, en, p⟩ := u
  refine uG_weak (stepP s en p) ?_
  rintro v H1 ⟨r1, h1, a, g1, s1, en1, ra, p1⟩
  split at p1
  · rename_i ds ed
    obtain ⟨ad, us, rfl, e2, e3⟩ := seq_rep s1 ra ed
    refine ⟨ad, us, rfl, by rw [hK]; exact e2.symm, ?_⟩
    refine uG_weak (stepP s1 en1 p1) ?_
    rintro vs H2 ⟨r2, h2, as, g2, s2, en2, rs, p2⟩
    exact p2 _ H2 r2 Gr.refl s2 ((e3.mono g2).append rs)
  · exact p1.elim
end
end L2.Lv
end
section
set_option maxRecDepth 100000
set_option maxHeartbeats 4000000
set_option autoImplicit false
namespace L2.Lv
open PySem PySem.Spec PyProof.Rows

/-! ### t[::-1] -/
section
variable {prog : Program} {w : World} {A : Around} {E : Value → Shared → Prop} {s : Shared}
theorem fm_congr {α β : Type} {f g : α → Option β} : ∀ {l : List α}, (∀ x ∈ l, f x = g x) → l.filterMap f = l.filterMap g
  | [], _ => rfl
  | a :: l, h => by
    have h1 := h a List.mem_cons_self
    have h2 := fm_congr (l := l) fun x hx => h x (List.mem_cons_of_mem _ hx)
    rw [List.filterMap_cons, List.filterMap_cons, h1, h2]
theorem rev_pick (xs : Array Value) : ((List.range xs.size).filterMap fun (k : Nat) => xs[(((xs.size : Int) - 1) + (k : Int) * (-1)).toNat]?).toArray = xs.toList.reverse.toArray := by
  have h := PySem.W.krv_pick xs
  unfold slicePick at h
  rw [PySem.W.krv_bounds] at h
  dsimp only at h
  rw [PySem.W.krv_sliceRange, List.filterMap_map] at h
  rw [← h]
  congr 1
  apply fm_congr
  intro k hk
  have hk := List.mem_range.mp hk
  show xs[(((xs.size : Int) - 1) + (k : Int) * (-1)).toNat]? = xs[xs.size - 1 - k]?
  congr 1
  omega
theorem places_rev (n : Nat) : Builtin.Slice.slicePlaces ((n : Int) - 1) (-1) (-1) = n := by
  unfold Builtin.Slice.slicePlaces
  have h1 : ¬ ((-1 : Int) > 0) := by decide
  simp only [h1, if_false]
  split
  · rw [show (- -1 : Int) = 1 by decide, Int.ediv_one]
    omega
  · omega
theorem sliceApplied_rev {sl : Addr} {vs : Value} {n : Nat} {Q : Int × Int × Nat → Shared → Prop} (hs : s.heap.IsSliceOf sl .none .none vs) (ps : IsPart vs (some (-1)))
    (h : Q ((n : Int) - 1, -1, n) s) : wpAny (model prog w) A (Builtin.Slice.sliceApplied (.ref sl) (pure (n : Int))) Q E s := by
  obtain ⟨os, hos, hcs, hds⟩ := id hs
  unfold Builtin.Slice.sliceApplied Builtin.Slice.sliceFields
  refine wpAny_bind (wpAny_bind (wpAny_field hos hds (x := .none) rfl (wpAny_bind (wpAny_field hos hds (x := .none) rfl (wpAny_bind (wpAny_field hos hds (x := vs) rfl (wpAny_pure ?_)))))))
  refine wpAny_bind (HT.slicePart_ ps ?_)
  show wpAny _ _ (if ((-1 : Int) == 0) = true then _ else _) _ _ s
  rw [if_neg (by decide)]
  refine wpAny_bind (HT.slicePart_ .none (wpAny_bind (HT.slicePart_ .none (wpAny_bind (wpAny_pure ?_)))))
  show wpAny _ _ (match Builtin.Slice.sliceAdjust none none (-1) (n : Int) with | (lo, hi) => pure (lo, (-1 : Int), Builtin.Slice.slicePlaces lo hi (-1))) _ _ s
  show wpAny _ _ (pure ((n : Int) - 1, (-1 : Int), Builtin.Slice.slicePlaces ((n : Int) - 1) (-1) (-1))) _ _ s
  rw [places_rev]
  exact wpAny_pure h
theorem getItem_tuple_rev {t sl : Addr} {items : Array Value} {vs : Value} {Q : Value → Shared → Prop} (ht : IsTup s.heap t items) (hs : s.heap.IsSliceOf sl .none .none vs) (ps : IsPart vs (some (-1)))
    (h : Q (.ref s.heap.objs.size) { s with heap := s.heap.push { cls := .type "tuple", data := .seq items.toList.reverse.toArray } })
    (hsz : items.size ≤ sizeLine) : wpAny (model prog w) A (getItem (.ref t) (.ref sl)) Q E s := by
  have htake : sizeOk (.seq items.toList.reverse.toArray) := by
    show items.toList.reverse.toArray.size ≤ sizeLine
    rw [List.size_toArray, List.length_reverse, Array.length_toList]
    exact hsz
  obtain ⟨os, hos, hcs, hds⟩ := id hs
  have hTs : s.TypeIs (.ref sl) "slice" := ⟨os, hos, hcs⟩
  unfold getItem
  try with_reducible refine wpAny_holding ?_
  first | refine wpAny_bind (wpAny_pure ?_) | skip
  refine wpAny_bind (wpAny_sequenceKey ht.typeIs (by decide) ?_)
  refine wpAny_bind (wpAny_callSpecial?_slot (name := Str.ofString "__getitem__") ht.typeIs PyProof.Rows.slot_tuple_getitem
    (wpAny_call_entry PyProof.Rows.slot_tuple_getitem ht.typeIs entry_tuple_getitem ?_ (args_tuple_getitem _ _)))
  show wpAny _ _ (Builtin.Tuple.tupleItemsOf (.ref t) >>= _) _ _ s
  refine wpAny_bind (PyProof.Rows.tupleItemsOf_ ht ?_)
  refine wpAny_bind (wpAny_typeOf hTs ?_)
  rw [if_pos (by decide)]
  refine wpAny_bind (sliceApplied_rev hs ps ?_)
  have hno : ¬ ((((items.size : Int) - 1) == 0 && (-1 : Int) == 1 && items.size == items.size) = true) := by
    intro q
    rw [Bool.and_eq_true, Bool.and_eq_true] at q
    exact absurd q.1.2 (by decide)
  show wpAny _ _ (if (((items.size : Int) - 1) == 0 && (-1 : Int) == 1 && items.size == items.size) = true then _ else _) _ _ s
  rw [if_neg hno, rev_pick]
  first
    | exact wpAny_bind (m := Builtin.Tuple.tupleExact _) (wpAny_newObj_type (wpAny_pure ⟨_, rfl, wpAny_pure h⟩) htake)
    | exact wpAny_bind (m := Builtin.Tuple.tupleExact _) (wpAny_newObj_type (wpAny_bind (wpAny_pure (wpAny_pure ⟨_, rfl, wpAny_pure h⟩))) htake)
    | exact wpAny_bind (wpAny_bind (m := Builtin.Tuple.tupleExact _) (wpAny_newObj_type (wpAny_pure (wpAny_pure ⟨_, rfl, wpAny_pure h⟩)) htake))
    | exact wpAny_bind (wpAny_bind (m := Builtin.Tuple.tupleExact _) (wpAny_newObj_type (wpAny_pure ⟨_, rfl, wpAny_pure h⟩) htake))
end
def tRevT (K : PySem.W.Frag) (te : TE) : TE := fun σ H Q => te σ H fun x H1 => ∃ a xs, x = .ref a ∧ SqT K H1 a xs ∧ ∀ p, H1 p = none → Q (.ref p) (upd H1 p (.tup xs.reverse))
theorem pe_revT {X : Cx} {e : Expr} {te : TE} {k : Nat} {p1 p2 p3 pos : Pos} (he : PE X e te) : PE X (.Subscript e (.Slice none none (some (.UnaryOp .USub (.Constant (.int 1) k p1) p2)) p3) pos) (tRevT X.K te) := by
  refine ⟨fun pins s σ H Q I h => ?_⟩
  refine Subscript_ (thn (he.run pins s σ H _ I h) fun v s1 ⟨x, H1, I1, r1, q1⟩ => ?_)
  obtain ⟨a, xs, ex, hx, q⟩ := q1
  subst ex
  cases r1
  have hst : PO X (some (.UnaryOp .USub (.Constant (.int 1) k p1) p2)) (tPart (tUn (rU fun i => .int (-i)) (tC (.int 1)))) := po_some (pe_un un_neg pe_int)
  refine wpAny_Slice (thn (po_none.run pins s1 σ H1 (fun o H2 => o = none ∧ H2 = H1) I1 ⟨rfl, rfl⟩) fun vl s2 ⟨l, H2, I2, pl, el, e2⟩ => ?_)
  subst el e2
  refine thn (po_none.run pins s2 σ H2 (fun o H3 => o = none ∧ H3 = H2) I2 ⟨rfl, rfl⟩) fun vu s3 ⟨u, H3, I3, pu, eu, e3⟩ => ?_
  subst eu e3
  refine thn (hst.run pins s3 σ H3 (fun o H4 => o = some (-1) ∧ H4 = H3) I3 ⟨1, rfl, -1, rfl, rfl, rfl⟩) fun vs s4 ⟨o, H4, I4, ps, eo, e4⟩ => ?_
  subst eo e4
  cases pl
  cases pu
  have I5 : Inv X pins σ H4 { s4 with heap := s4.heap.push { cls := .type "slice", data := .fields #[.none, .none, vs] } } := I4.kept (t' := s4.toks) fun b ob q => Heap.get?_push_of_some _ q
  obtain ⟨its, r, ht, hz⟩ := I5.tuple hx
  have hlen := r.length
  show wpAny (model X.prog X.w) X.A (subscriptTail e (.Slice none none (some (.UnaryOp .USub (.Constant (.int 1) k p1) p2)) p3) (.ref a) (.ref s4.heap.objs.size)) (EP X pins σ Q) X.xe { s4 with heap := s4.heap.push { cls := .type "slice", data := .fields #[.none, .none, vs] } }
  refine tail_any (ops := [.ref a, .ref s4.heap.objs.size]) ht.typeIs (PyProof.Rows.slot_tuple_getitem.lookup) ?_ (by with_unfolding_all rfl)
  refine getItem_tuple_rev ht (Heap.IsSliceOf.new _ .none .none vs) ps ?_ (by rw [List.size_toArray]; omega)
  refine ⟨.ref _, _, I5.laid (t' := s4.toks) (o := .tup xs.reverse) (fun b ob q => Heap.get?_push_of_some _ q) (Nat.le_refl _) ?_, rfl, q _ (I5.hok.fresh (Nat.le_refl _))⟩
  exact ⟨by rw [List.length_reverse]; exact hz, _, r.reverse, IsTup.new _ _⟩
section
variable {G : Gx} {X : Cx} {W : WX} {x y z tg : Expr} {xs : List Expr} {ma mb mc : ME} {mt mu : MT} {ms : MA} {pos : Pos} {r : List Addr} {H : Hp} {h : Hm}
/-- x[::-1] of a tuple or a list -/
def pRev (d : D) (h : Hm) : Re D := match d with
  | .tup xs => .ok (.tup xs.reverse) h
  | .ref n => match itemsOf h n with
    | some xs => newL xs.reverse h
    | none => .no
  | _ => .no
theorem pe_or2 {t t' : TE} (h : PE X x t) (h' : PE X x t') : PE X x (fun σ H Q => t σ H Q ∨ t' σ H Q) := ⟨fun pins s σ H Q I q => by
  rcases q with q | q
  · exact h.run pins s σ H Q I q
  · exact h'.run pins s σ H Q I q⟩
/-- known to be a tuple, known to be a list -/
def pRevT (d : D) (h : Hm) : Re D := match d with
  | .tup xs => .ok (.tup xs.reverse) h
  | _ => .no
def pRevL (d : D) (h : Hm) : Re D := match d with
  | .ref n => match itemsOf h n with
    | some xs => newL xs.reverse h
    | none => .no
  | _ => .no
theorem se_revT {k : Nat} {p1 p2 p3 : Pos} (hK : X.K = G.K) (ha : SE G X W x ma) : SE G X W (.Subscript x (.Slice none none (some (.UnaryOp .USub (.Constant (.int 1) k p1) p2)) p3) pos) (mUn pRevT ma) := by
  refine ⟨pe_imp (pe_revT ha.pe) fun σ H Q u => ?_⟩
  obtain ⟨r, h, e, s, en, p⟩ := u
  refine uG_weak (stepP s en p) ?_
  rintro v H1 ⟨r1, h1, a, g1, s1, en1, ra, p1⟩
  cases ra with
  | tup q1 q2 => exact ⟨_, _, rfl, by rw [hK]; exact q1, fun q hq => p1 _ _ r1 (gr_fresh hq) (s1.fresh hq) (.tup (SqT.of upd_same) (q2.reverse.mono (gr_fresh hq)))⟩
  | _ => exact p1.elim
theorem se_revL {k : Nat} {p1 p2 p3 : Pos} (hK : X.K = G.K) (ha : SE G X W x ma) : SE G X W (.Subscript x (.Slice none none (some (.UnaryOp .USub (.Constant (.int 1) k p1) p2)) p3) pos) (mUn pRevL ma) := by
  refine ⟨pe_imp (pe_revL ha.pe) fun σ H Q u => ?_⟩
  obtain ⟨r, h, e, s, en, p⟩ := u
  refine uG_weak (stepP s en p) ?_
  rintro v H1 ⟨r1, h1, a, g1, s1, en1, ra, p1⟩
  cases ra with
  | ref hn =>
    simp only [pRevL] at p1
    split at p1
    · rename_i xs e1
      obtain ⟨vs, q1, q2⟩ := items_seq s1 hn e1
      exact ⟨_, vs, rfl, by rw [hK]; exact q1, (post_newL s1 q2.reverse p1).2⟩
    · exact p1.elim
  | _ => exact p1.elim
end
/-! ### l.extend(t) -/
open Builtin in
set_option maxRecDepth 8000 in
theorem extend_tup (l : Addr) (items : Array Value) (n : Nat) (b : Addr) (items2 : Array Value) (n2 : Nat) (dd : Option Addr) (sl : Array (Option Value)) (hs0 : ¬(!items.isEmpty && Builtin.List.listTooLong (items.size + items2.size)) = true) (hs1 : items.size ≤ sizeLine) (hs2 : items.size + items2.size ≤ sizeLine + 1) :
    Meets (Builtin.«list.extend» ⟨[.ref l, .ref b], []⟩) (fun _ R s => s.heap.get? l = some { cls := .type "list", dict := none, data := .seq items n, slots := #[] } ∧ s.heap.get? b = some { cls := .type "tuple", dict := dd, data := .seq items2 n2, slots := sl } ∧ R (.ok (.ret Value.none)) { s with heap := s.heap.update l (Obj.mapSeq fun x => x ++ items2), toks := s.toks }) :=
  .of_wp fun prog w A R s h => by
    obtain ⟨hp, g, d, tk, os⟩ := s
    obtain ⟨hl, hb, h⟩ := h
    have z1 := AutoSeq1.idx_int
    have z2 := AutoSeq1.sub_tuple_tuple
    have z3 := AutoSeq1.sub_list_list
    have z4 := AutoSeq1.sub_tuple_list
    have z5 := AutoSeq1.sub_list_tuple
    have hz' : (items ++ items2).size ≤ sizeLine + 1 := by rw [Array.size_append]; exact hs2
    wp_walk using (wpAny_updateSeq hl rfl (hz := hs1) (_hz' := hz')), AutoSeq1.wpAny_loadPart' hl, AutoSeq1.wpAny_loadPart' hb; exact ⟨_, rfl, h⟩
def rExtendT (K : PySem.W.Frag) : V → List V → Hp → VK → Prop := fun x vs H Q => ∃ l b xs zs, x = .ref l ∧ vs = [.ref b] ∧ H l = some (.lst xs) ∧ SqT K H b zs ∧ xs.length + zs.length ≤ sizeLine ∧ Q .non (upd H l (.lst (xs ++ zs)))
theorem mt_extendT {X : Cx} : MtR X "list.extend" (rExtendT X.K) := by
  intro pins s σ H x vs v us Q I rx rv h
  obtain ⟨l, b, xs, zs, rfl, rfl, hH, hB, hz, q⟩ := h
  cases rx
  obtain ⟨u, rfl, ru⟩ := rv.one
  cases ru
  obtain ⟨z, its, n, r, hl, e⟩ := I.lstM hH
  obtain ⟨its2, r2, ht, hz2⟩ := I.tuple hB
  obtain ⟨o, e2, hc, n2, hd⟩ := ht
  obtain ⟨c0, dd, da, sl⟩ := o
  dsimp only at hc hd
  subst hc hd
  have hl1 := r.length
  have hl2 := r2.length
  have hsz : its.toArray.size + its2.toArray.size ≤ sizeLine := by rw [List.size_toArray, List.size_toArray]; omega
  have hlong : ¬ (!its.toArray.isEmpty && Builtin.List.listTooLong (its.toArray.size + its2.toArray.size)) = true := by
    rw [notLongL hsz, Bool.and_false]
    exact Bool.false_ne_true
  refine call_meets PySem.F.slot_list_extend ⟨_, e, rfl⟩ PySem.F.entry_list_extend (PySem.F.args_list_extend_2 _ _)
    (extend_tup l its.toArray n b its2.toArray n2 dd sl hlong (by rw [List.size_toArray]; omega) (by omega)) ⟨e, e2, ?_⟩
  refine ⟨.non, _, I.lset (its' := its ++ its2) hH e (by simp) (r.append r2) ?_, rfl, q⟩
  rw [List.length_append]
  omega
end L2.Lv
end
section
set_option maxRecDepth 100000
set_option maxHeartbeats 4000000
set_option autoImplicit false
namespace L2.Lv
open PySem PySem.Spec PyProof.Rows

/-! ### [e for .. in .. for .. in ..] -/
def mCIn (src : Src) (g : MG) (t : MT) (el : ME) (e0 : En) (n : Nat) : Nat → Nat → Hm → Re Unit
  | 0, _, _ => .no
  | f + 1, i, h => match nxt src i h with
    | some none => .ok () h
    | some (some d) => match g d e0 h with
      | some e1 => match t e1 h with
        | .ok true h2 => match el e1 h2 with
          | .ok y h3 => match h3[n]? with
            | some (.lst acc) => if acc.length < big then mCIn src g t el e0 n f (i + 1) (h3.set n (.lst (acc ++ [y]))) else .no
            | _ => .no
          | _ => .no
        | .ok false h2 => mCIn src g t el e0 n f (i + 1) h2
        | _ => .no
      | none => .no
    | none => .no
def mCLoop2 (src : Src) (g : MG) (t : MT) (it1 : MI) (g1 : MG) (t1 : MT) (el : ME) (e0 : En) (vs1 : List Nat) (n : Nat) : Nat → Nat → Hm → Re D
  | 0, _, _ => .no
  | f + 1, i, h => match nxt src i h with
    | some none => .ok (.ref n) h
    | some (some d) => match g d e0 h with
      | some e1 => match t e1 h with
        | .ok true h2 => match it1 e1 h2 with
          | .ok src1 h3 => (mCIn src1 g1 t1 el (wipeE e1 vs1) n lots 0 h3).bind fun _ h4 => mCLoop2 src g t it1 g1 t1 el e0 vs1 n f (i + 1) h4
          | _ => .no
        | .ok false h2 => mCLoop2 src g t it1 g1 t1 el e0 vs1 n f (i + 1) h2
        | _ => .no
      | none => .no
    | none => .no
def mComp2 (it : MI) (g : MG) (t : MT) (it1 : MI) (g1 : MG) (t1 : MT) (el : ME) (vs vs1 : List Nat) : ME :=
  fun e h => (it e h).bind fun src h1 => mCLoop2 src g t it1 g1 t1 el (wipeE e vs) vs1 h1.length lots 0 (h1 ++ [.lst []])
section
variable {G : Gx} {X : Cx} {W : WX} {x y z tg : Expr} {xs : List Expr} {ma mb mc : ME} {mt mu : MT} {ms : MA} {pos : Pos} {st : Stmt} {sts : List Stmt} {a b : MS} {r : List Addr} {H : Hp} {h : Hm}
theorem wipe_idem (σ : L2.St) (vs : List Nat) : wipe (wipe σ vs) vs = wipe σ vs := by
  apply List.ext_getElem?
  intro j
  rw [wipe_at, wipe_at, wipe_length]
  split <;> rfl
theorem comp2_of {it it1 : MI} {g g1 : MG} {vs vs1 : List Nat} {σ : L2.St} {H : Hp} {Q : VK} (hv : ∀ i ∈ vs1, i ∈ vs) (u : uE G W (mComp2 it g mt it1 g1 mu ma vs vs1) σ H Q) :
    tLc2 (uG G W (JR G) it) (uGt G g vs) (uT G W0 mt) (uG G W0 (JR G) it1) (uGt G g1 vs1) (uT G W0 mu) (uE G W0 ma) vs vs1 σ H Q := by
  obtain ⟨r, h, e, s, en, p⟩ := u
  refine uG_weak (stepP s en p) ?_
  rintro J H1 ⟨r1, h1, src, gg1, s1, en1, jr, p1⟩
  intro A hA
  have gA : Gr G r1 H1 (r1 ++ [A]) (upd H1 A (.lst [])) := gr_new hA
  refine ⟨fun i m H => ∃ (r' : List Addr) (h : Hm), Gr G (r1 ++ [A]) (upd H1 A (.lst [])) r' H ∧ Sim G r' H h ∧ Post G (fun c d H' => W c d σ H') (RD G) r' H (mCLoop2 src g mt it1 g1 mu ma (wipeE e vs) vs1 h1.length m i h) Q,
    ⟨lots, r1 ++ [A], h1 ++ [.lst []], Gr.refl, s1.new (ob := .lst []) hA ⟨[], upd_same, .nil⟩, Post.mono gA p1⟩, ?_⟩
  rintro i m H2 ⟨r2, h2, g2, s2, p2⟩
  have eA : r2[h1.length]? = some A := g2.pre _ _ (new_at s1 A)
  have enw : EnR G r2 H2 (wipeE e vs) (wipe σ vs) := (en_wipe en1 vs).mono (gA.trans g2)
  cases m with
  | zero => exact p2.elim
  | succ m =>
    simp only [mCLoop2] at p2
    obtain ⟨j1, j2⟩ := jr r2 H2 h2 i (gA.trans g2) s2
    cases q : nxt src i h2 with
    | none => simp only [q] at p2; exact p2.elim
    | some o =>
      cases o with
      | none =>
        simp only [q] at p2
        exact .inl ⟨j2 q, p2 _ H2 r2 Gr.refl s2 (.ref eA)⟩
      | some d =>
        simp only [q] at p2
        obtain ⟨go, yld⟩ := j1 d q
        refine .inr ⟨go, fun H' => ∃ (r' : List Addr) (h : Hm), Gr G (r1 ++ [A]) (upd H1 A (.lst [])) r' H' ∧ Sim G r' H' h ∧ Post G (fun c d H' => W c d σ H') (RD G) r' H' (mCLoop2 src g mt it1 g1 mu ma (wipeE e vs) vs1 h1.length m (i + 1) h) Q, fun H' n => ⟨m, Nat.lt_succ_self m, n⟩, fun x H3 hy => ?_⟩
        obtain ⟨g3, s3, rx⟩ := yld x H3 hy
        cases em : g d (wipeE e vs) h2 with
        | none => simp only [em] at p2; exact p2.elim
        | some e3 =>
          simp only [em] at p2
          refine ⟨r2, h2, wipeE e vs, d, e3, s3, enw.mono g3, rx, em, fun σ4 en4 ch => ⟨?_, r2, h2, e3, s3, en4, ?_⟩⟩
          · rw [ch.wipe]
            exact wipe_idem σ vs
          · have p3 := Post.mono g3 p2
            cases et : mt e3 h2 with
            | no => simp only [et] at p3; exact p3.elim
            | ex c d' h' => simp only [et] at p3; exact p3.elim
            | ok c h4 =>
              simp only [et] at p3
              intro b H4 r4 g4 s4 hb
              have hb : c = b := hb
              subst hb
              cases c with
              | false => exact ⟨r4, h4, (g2.trans g3).trans g4, s4, Post.mono g4 p3⟩
              | true =>
                refine ⟨r4, h4, e3, s4, en4.mono g4, ?_⟩
                have p4 := Post.mono g4 p3
                cases ei : it1 e3 h4 with
                | no => simp only [ei] at p4; exact p4.elim
                | ex c d' h' => simp only [ei] at p4; exact p4.elim
                | ok src1 h5 =>
                  simp only [ei] at p4
                  intro J1 H5 r5 g5 s5 jr1
                  refine ⟨fun j k H => ∃ (r' : List Addr) (h : Hm), Gr G r5 H5 r' H ∧ Sim G r' H h ∧ Post G (fun c d H' => W c d σ H') (RD G) r' H ((mCIn src1 g1 mu ma (wipeE e3 vs1) h1.length k j h).bind fun _ h4 => mCLoop2 src g mt it1 g1 mu ma (wipeE e vs) vs1 h1.length m (i + 1) h4) Q,
                    ⟨lots, r5, h5, Gr.refl, s5, Post.mono g5 p4⟩, ?_⟩
                  rintro j k H6 ⟨r6, h6, g6, s6, p6⟩
                  have gAll := (((g2.trans g3).trans g4).trans g5).trans g6
                  have eA6 : r6[h1.length]? = some A := ((((g3.trans g4).trans g5).trans g6)).pre _ _ eA
                  have enw6 : EnR G r6 H6 (wipeE e3 vs1) (wipe σ4 vs1) := (en_wipe en4 vs1).mono ((g4.trans g5).trans g6)
                  cases k with
                  | zero => exact p6.elim
                  | succ k =>
                    simp only [mCIn] at p6
                    obtain ⟨l1, l2⟩ := jr1 r6 H6 h6 j g6 s6
                    cases q6 : nxt src1 j h6 with
                    | none => simp only [q6] at p6; exact p6.elim
                    | some o6 =>
                      cases o6 with
                      | none =>
                        simp only [q6] at p6
                        exact .inl ⟨l2 q6, r6, h6, gAll, s6, p6⟩
                      | some d6 =>
                        simp only [q6] at p6
                        obtain ⟨go6, yld6⟩ := l1 d6 q6
                        refine .inr ⟨go6, _, fun H' n => ⟨k, Nat.lt_succ_self k, n⟩, fun x7 H7 hy7 => ?_⟩
                        obtain ⟨g7, s7, rx7⟩ := yld6 x7 H7 hy7
                        cases em7 : g1 d6 (wipeE e3 vs1) h6 with
                        | none => simp only [em7] at p6; exact p6.elim
                        | some e7 =>
                          simp only [em7] at p6
                          refine ⟨r6, h6, wipeE e3 vs1, d6, e7, s7, enw6.mono g7, rx7, em7, fun σ8 en8 ch8 => ⟨?_, r6, h6, e7, s7, en8, ?_⟩⟩
                          · rw [ch8.wipe]
                            exact wipe_idem σ4 vs1
                          · have p8 := Post.mono g7 p6
                            cases et8 : mu e7 h6 with
                            | no => simp only [et8] at p8; exact p8.elim
                            | ex c d' h' => simp only [et8] at p8; exact p8.elim
                            | ok c h9 =>
                              simp only [et8] at p8
                              intro b9 H9 r9 g9 s9 hb9
                              have hb9 : c = b9 := hb9
                              subst hb9
                              cases c with
                              | false => exact ⟨r9, h9, (g6.trans g7).trans g9, s9, Post.mono g9 p8⟩
                              | true =>
                                refine ⟨r9, h9, e7, s9, en8.mono g9, ?_⟩
                                have p9 := Post.mono g9 p8
                                cases ee : ma e7 h9 with
                                | no => simp only [ee] at p9; exact p9.elim
                                | ex c d' h' => simp only [ee] at p9; exact p9.elim
                                | ok y h10 =>
                                  simp only [ee] at p9
                                  intro v H10 r10 g10 s10 rv
                                  have eA10 : r10[h1.length]? = some A := g10.pre _ _ (g9.pre _ _ (g7.pre _ _ eA6))
                                  obtain ⟨ob, eo, oo⟩ := s10.get eA10
                                  simp only [eo] at p9
                                  cases ob with
                                  | lst acc =>
                                    simp only at p9
                                    split at p9
                                    · rename_i cl
                                      obtain ⟨as, q1, q2⟩ := oo
                                      obtain ⟨s11, g11⟩ := s10.put (ob := .lst (acc ++ [y])) (o := .lst (as ++ [v])) eA10 fun g => ⟨_, upd_same, (q2.mono g).append (.cons (rv.mono g) .nil)⟩
                                      exact ⟨as, q1, by rw [← q2.length]; exact Nat.lt_of_lt_of_le cl (big_le (Nat.le_refl _)), r10, _, (((g6.trans g7).trans g9).trans g10).trans g11, s11, Post.mono g11 (Post.mono g10 p9)⟩
                                    · exact p9.elim
                                  | _ => exact p9.elim
section
variable {it it1 : MI} {g g1 : MG} {vs vs1 : List Nat} {scope : Scope} {own : List (Str × Nat)} {ifs ifs1 : List Expr} {tg1 x1 : Expr}
theorem se_comp2 (own : List (Str × Nat)) (vs1 : List Nat) (hc : X.calm = true) (hN : X.N.Nodup) (hi : SI G X W tg x it) (ok : BlkOk X.N X.env.scope scope own) (hv : ∀ i ∈ vs1, i ∈ own.map (·.2))
    (hg : ∀ (s : Shared) (H : Hp) (C : Addr) (cl : List (Str × Addr)) (fp : List Addr), SG G (X.blk s H scope (compEnvC scope cl C X.env) fp) tg g (own.map (·.2)))
    (ht : ∀ (s : Shared) (H : Hp) (C : Addr) (cl : List (Str × Addr)) (fp : List Addr), STs G (X.blk s H scope (compEnvC scope cl C X.env) fp) W0 ifs mt)
    (hi1 : ∀ (s : Shared) (H : Hp) (C : Addr) (cl : List (Str × Addr)) (fp : List Addr), SI G (X.blk s H scope (compEnvC scope cl C X.env) fp) W0 tg1 x1 it1)
    (hg1 : ∀ (s : Shared) (H : Hp) (C : Addr) (cl : List (Str × Addr)) (fp : List Addr), SG G (X.blk s H scope (compEnvC scope cl C X.env) fp) tg1 g1 vs1)
    (ht1 : ∀ (s : Shared) (H : Hp) (C : Addr) (cl : List (Str × Addr)) (fp : List Addr), STs G (X.blk s H scope (compEnvC scope cl C X.env) fp) W0 ifs1 mu)
    (he : ∀ (s : Shared) (H : Hp) (C : Addr) (cl : List (Str × Addr)) (fp : List Addr), SE G (X.blk s H scope (compEnvC scope cl C X.env) fp) W0 y ma)
    (hs : ∀ z, foldedSetIterable x X.env z = pure z := by intro _; rfl) (hs1 : ∀ env z, foldedSetIterable x1 env z = pure z := by intro _ _; rfl) :
    SE G X W (.ListComp y [⟨tg, x, ifs, 0⟩, ⟨tg1, x1, ifs1, 0⟩] scope pos) (mComp2 it g mt it1 g1 mu ma (own.map (·.2)) vs1) :=
  ⟨pe_imp (pe_lc2 hc hN hi.pi ok hv (fun s H C cl fp => (hg s H C cl fp).pg) (fun s H C cl fp => (ht s H C cl fp).pts) (fun s H C cl fp => (hi1 s H C cl fp).pi) (fun s H C cl fp => (hg1 s H C cl fp).pg) (fun s H C cl fp => (ht1 s H C cl fp).pts) (fun s H C cl fp => (he s H C cl fp).pe) hs hs1) fun _ _ _ u => comp2_of hv u⟩
end
end
end L2.Lv
end
section
set_option maxRecDepth 100000
set_option maxHeartbeats 4000000
set_option autoImplicit false
namespace L2.Lv
open PySem PySem.Spec PyProof.Rows

/-! ### a written dict: d.get(key) -/
def litV : Value → Option D
  | .none => some .non
  | .bool b => some (.bl b)
  | .int i _ => some (.int i)
  | .str s _ => some (.str s.cps.toList)
  | _ => none
def litE (e : DictEntry) : Option (List Nat × D) := match e.key, litV e.val with
  | .str s _, some d => some (s.cps.toList, d)
  | _, _ => none
def findD : List (List Nat × D) → List Nat → Option D
  | [], _ => none
  | (k, d) :: r, s => if k = s then some d else findD r s
section
variable {G : Gx} {X : Cx} {W : WX} {x y z tg : Expr} {xs : List Expr} {ma mb mc : ME} {mt mu : MT} {ms : MA} {pos : Pos} {r : List Addr} {H : Hp} {h : Hm}
theorem str_eta (s : Str) : (⟨s.cps.toList.toArray⟩ : Str) = s := by
  cases s with
  | mk c => simp
theorem litV_rel {u : Value} {d : D} (e : litV u = some d) : ∃ v, RelV v u ∧ ∀ r H, Rep G r H d v := by
  unfold litV at e
  split at e <;> cases e
  · exact ⟨.non, rfl, fun _ _ => .non⟩
  · exact ⟨.bl _, rfl, fun _ _ => .bl _⟩
  · exact ⟨.int _, ⟨_, rfl⟩, fun _ _ => .int _⟩
  · refine ⟨.str _, ⟨_, rfl⟩, fun r H => ?_⟩
    have z := Rep.str (G := G) (r := r) (H := H) (Str.cps ‹_›).toList
    rw [str_eta] at z
    exact z
theorem find_lit : ∀ {es : List DictEntry} {kvs : List (List Nat × D)} (s : List Nat), es.map litE = kvs.map some →
    match findD kvs s with
    | some d => ∃ e, es.find? (fun e => Value.isStrOf ⟨s.toArray⟩ e.key) = some e ∧ litV e.val = some d
    | none => es.find? (fun e => Value.isStrOf ⟨s.toArray⟩ e.key) = none
  | [], [], _, _ => rfl
  | [], _ :: _, _, q => by cases q
  | _ :: _, [], _, q => by cases q
  | e :: es, (k, d) :: kvs, s, q => by
    simp only [List.map_cons, List.cons.injEq] at q
    obtain ⟨q1, q2⟩ := q
    have ih := find_lit s q2
    unfold litE at q1
    split at q1
    · rename_i st tk d' ek ev
      cases q1
      unfold findD
      by_cases c : st.cps.toList = s
      · rw [if_pos c]
        refine ⟨e, ?_, ev⟩
        rw [List.find?_cons]
        have : Value.isStrOf ⟨s.toArray⟩ e.key = true := by
          rw [ek]
          show (st == (⟨s.toArray⟩ : Str)) = true
          rw [← c, str_eta]
          simp
        rw [this]
      · rw [if_neg c, List.find?_cons]
        have : Value.isStrOf ⟨s.toArray⟩ e.key = false := by
          rw [ek]
          show (st == (⟨s.toArray⟩ : Str)) = false
          rw [beq_eq_false_iff_ne]
          intro z
          apply c
          rw [z]
        rw [this]
        exact ih
    · cases q1
def pGetK (kvs : List (List Nat × D)) (d : D) (h : Hm) : Re D := match d with
  | .str s => match findD kvs s with
    | some d => .ok d h
    | none => .ok .non h
  | _ => .no
structure LitD (K : PySem.W.Frag) (w : World) (d : Addr) (kvs : List (List Nat × D)) : Prop where
  mk :: (ex : ∃ es n, KDict K w d es n ∧ es.toList.map litE = kvs.map some)
theorem se_getK {n : Str} {np apos : Pos} {d : Addr} {kvs : List (List Nat × D)} (L : LitD X.K X.w d kvs) (hm : X.mg n = some (.ref d)) (ha : SE G X W y ma) (m : M1 X (.Name n np) "get" apos y pos) (hg : Gl X n := by rfl) (hdb : (n == ("__debug__" : Str)) = false := by decide) :
    SE G X W (.Call (.Attribute (.Name n np) "get" apos) [y] [] pos) (mUn (pGetK kvs) ma) := by
  refine ⟨⟨fun pins s σ H Q I u => ?_⟩⟩
  obtain ⟨r, h, e, sm, en, p⟩ := u
  obtain ⟨es, n0, KD, hes⟩ := L.ex
  have ho : PE X (.Name n np) (tC (.ref d)) := pe_glob hg hm (show RelV (.ref d) (.ref d) from rfl) hdb
  refine wpAny_Call_method m.base m.few m.line PySem.F.plainAttrs_dict PySem.F.slot_dict_get PySem.F.type_dict_get (thn (ho.run pins s σ H (fun x H' => x = .ref d ∧ H' = H) I ⟨rfl, rfl⟩) fun u s1 ⟨x, H1, I1, rx, ex, eH⟩ => ?_)
  subst ex eH
  cases (show u = Value.ref d from rx)
  refine ⟨kd_type KD I1, fun b q => ?_, ?_⟩
  · cases q
    exact ⟨_, I1.kIn _ _ KD.at_, rfl⟩
  rw [m.trees]
  refine Calls.callWith_builtin rfl (Calls.evalArgs_plain (Calls.spliced_cons (thn (ha.pe.run pins s1 σ H1 _ I1 (stepP (G := G) (W := W) (R := RD G) sm en p)) fun iv s2 ⟨y, H2, I2, ry, r2, h2, dd, g2, sm2, en2, rd, p2⟩ => Calls.spliced_nil ?_)))
  cases rd with
  | str t =>
    obtain ⟨tk, rfl⟩ := (show ∃ t', iv = Value.str _ t' from ry)
    simp only [pGetK] at p2
    have hf := find_lit t hes
    refine call_meetsIn PySem.F.slot_dict_get (kd_type KD I2) PySem.F.entry_dict_get (PySem.F.args_dict_get_2 _ _) (meets_dict_get (PySem.strKind X.prog X.w) d (PySem.strKind_is X.prog X.w ⟨t.toArray⟩ tk) KD.low) ⟨_, PySem.W.mapOf_K (prog := X.prog) I2.kIn KD.at_ KD.lit, ?_⟩
    show wants _ _ _ _
    have fb : findBy Value.isStrOf es ⟨t.toArray⟩ = (es.toList.find? (fun e => Value.isStrOf ⟨t.toArray⟩ e.key)).map (·.val) := by
      obtain ⟨l⟩ := es
      unfold findBy
      rw [List.find?_toArray]
    rw [fb]
    cases q : findD kvs t with
    | some dv =>
      rw [q] at hf p2
      obtain ⟨e1, f1, f2⟩ := hf
      obtain ⟨v, rv, rp⟩ := litV_rel (G := G) f2
      rw [f1]
      exact ⟨v, H2, I2.tok _, rv, p2 v H2 r2 Gr.refl sm2 (rp _ _)⟩
    | none =>
      rw [q] at hf p2
      rw [hf]
      exact ⟨.non, H2, I2.tok _, rfl, p2 .non H2 r2 Gr.refl sm2 .non⟩
  | _ => exact p2.elim

/-! ### a text's method -/
def pStrT (f : Str → Bool) (d : D) (h : Hm) : Re D := match d with
  | .str s => .ok (.bl (f ⟨s.toArray⟩)) h
  | _ => .no
theorem se_strT {name : Str} {id : String} {apos : Pos} {f : Str → Bool} (slot : Slot "str" name id) (hty : typeOf (.builtin id) = pure (.type "method_descriptor")) (hm : MtR X id (fun x xs H Q => ∃ a, x = .str a ∧ xs = [] ∧ True ∧ Q (.bl (f a)) H)) (ho : SE G X W z ma)
    (hbase : attributeBase z name X.env (eval z X.env) = eval z X.env := by rfl) (hline : (apos.endLine == pos.line) = true := by rfl) :
    SE G X W (.Call (.Attribute z name apos) [] [] pos) (mUn (pStrT f) ma) := by
  refine ⟨pe_imp (pe_bm0 PySem.F.plainAttrs_str slot hty hm ho.pe hbase hline) fun σ H Q u => ?_⟩
  obtain ⟨r, h, e, s, en, p⟩ := u
  refine uG_weak (stepP s en p) ?_
  rintro v H1 ⟨r1, h1, a, g1, s1, en1, ra, p1⟩
  cases ra with
  | str t => exact ⟨rfl, _, rfl, rfl, trivial, p1 _ H1 r1 Gr.refl s1 (.bl _)⟩
  | _ => exact p1.elim

/-! ### {} and lists times numbers -/
def mDict0 : ME := fun _ h => .ok (.ref h.length) (h ++ [.dk []])
theorem se_dict0 : SE G X W (.Dict [] [] pos) mDict0 := by
  refine ⟨pe_imp pe_dnewK fun σ H Q u => ?_⟩
  obtain ⟨r, h, e, s, en, p⟩ := u
  intro q hq
  exact p (.ref q) _ (r ++ [q]) (gr_new hq) (s.new (ob := .dk []) hq ⟨[], upd_same, .nil⟩) (.ref (new_at s q))
theorem reps_rep {ds : List D} {vs : List V} (q : Reps G r H ds vs) : ∀ n : Nat, Reps G r H (List.replicate n ds).flatten (List.replicate n vs).flatten
  | 0 => .nil
  | n + 1 => by
    rw [List.replicate_succ, List.replicate_succ, List.flatten_cons, List.flatten_cons]
    exact q.append (reps_rep q n)
def pRepL (a b : D) (h : Hm) : Re D := match a, b with
  | .ref i, .int k => match h[i]? with
    | some (.lst xs) => if (0 ≤ k ∧ k ≤ 100000) ∧ xs.length * k.toNat ≤ big then .ok (.ref h.length) (h ++ [.lst (List.replicate k.toNat xs).flatten]) else .no
    | _ => .no
  | _, _ => .no
theorem prim_repL : Prim2 G rRep pRepL := by
  intro W r H h a b x y Q s ra rb p
  unfold pRepL at p
  split at p
  · rename_i i k
    cases ra with
    | ref hn =>
      cases rb with
      | int k =>
        obtain ⟨ob, e1, o⟩ := s.get hn
        rw [e1] at p
        cases ob with
        | lst ys =>
          simp only at p
          split at p
          · rename_i c
            obtain ⟨vs, h1, h2⟩ := o
            refine ⟨_, k, vs, rfl, rfl, h1, by omega, by omega, by rw [← h2.length]; exact big_le c.2, fun q hq => ?_⟩
            exact p (.ref q) _ (r ++ [q]) (gr_new hq) (s.new (ob := .lst (List.replicate k.toNat ys).flatten) hq ⟨_, upd_same, (reps_rep h2 k.toNat).mono (gr_new hq)⟩) (.ref (new_at s q))
          · exact p.elim
        | _ => exact p.elim
  · exact p.elim
/-- [..] * n, n * n -/
def pMulA (a b : D) (h : Hm) : Re D := match a with
  | .ref _ => pRepL a b h
  | _ => pMulI a b h
theorem prim_mulA : Prim2 G rMulAll pMulA := by
  intro W r H h a b x y Q s ra rb p
  unfold pMulA at p
  split at p
  · exact .inr (prim_repL W r H h _ b x y Q s ra rb p)
  · exact .inl (prim_mulI W r H h a b x y Q s ra rb p)
/-- l.extend of a list or a tuple -/
def pExtendA (a : D) (as : List D) (h : Hm) : Re D := match a, as with
  | .ref n, [.tup ys] => match h[n]? with
    | some (.lst xs) => if xs.length + ys.length ≤ big then .ok .non (h.set n (.lst (xs ++ ys))) else .no
    | _ => .no
  | a, as => pExtend a as h
def rExtendA (K : PySem.W.Frag) : V → List V → Hp → VK → Prop := fun x vs H Q => rExtendT K x vs H Q ∨ rExtend x vs H Q
theorem mt_extendA : MtR X "list.extend" (rExtendA X.K) := by
  intro pins s σ H x vs v us Q I rx rv h
  rcases h with h | h
  · exact mt_extendT pins s σ H x vs v us Q I rx rv h
  · exact mt_extend pins s σ H x vs v us Q I rx rv h
theorem primM_extendA : PrimM G "list" (rExtendA G.K) pExtendA := by
  intro W r H h a as x xs Q s ra rs p
  unfold pExtendA at p
  split at p
  · rename_i n ys
    cases rs with
    | cons q t =>
      cases t
      cases q with
      | tup q1 q2 =>
        cases ra with
        | ref hn =>
          obtain ⟨ob, e1, o⟩ := s.get hn
          rw [e1] at p
          cases ob with
          | lst zs =>
            simp only at p
            split at p
            · rename_i c
              obtain ⟨vs, h1, h2⟩ := o
              refine .inl ⟨_, _, vs, _, rfl, rfl, h1, q1, by rw [← h2.length, ← q2.length]; exact big_le c, ?_⟩
              obtain ⟨s', g⟩ := s.put (ob := .lst (zs ++ ys)) (o := .lst (vs ++ _)) hn fun g => ⟨_, upd_same, (h2.mono g).append (q2.mono g)⟩
              exact p .non _ r g s' .non
            · exact p.elim
          | _ => exact p.elim
  · exact .inr (primM_extend W r H h a as x xs Q s ra rs p)
end
end L2.Lv
end
section
set_option maxRecDepth 100000
set_option maxHeartbeats 4000000
set_option autoImplicit false
namespace L2.Lv
open PySem PySem.Spec PyProof.Rows

/-! ### repr of data -/
def rRepr (K : PySem.W.Frag) : List V → Hp → VK → Prop := fun xs H Q => ∃ x d, xs = [x] ∧ Dp K H x d ∧ d.canLay0 = true ∧ d.showable = true ∧ d.depth ≤ deep ∧ d.shown.length ≤ sizeLine ∧ Q (.str d.shown) H
def reprD (h : Hm) (d : D) : Option (List Nat) := if okD deep h d = true ∧ (toP deep h d).showable = true ∧ (toP deep h d).shown.length ≤ big then some (toP deep h d).shown.cps.toList else none
def pRepr (as : List D) (h : Hm) : Re D := match as with
  | [d] => match reprD h d with
    | some t => .ok (.str t) h
    | none => .no
  | _ => .no
section
variable {G : Gx} {X : Cx} {W : WX} {x y z tg : Expr} {xs : List Expr} {ma mb mc : ME} {mt mu : MT} {ms : MA} {pos : Pos} {st : Stmt} {sts : List Stmt} {a b : MS} {r : List Addr} {H : Hp} {h : Hm}
theorem call_repr (hg : X.A.guards = some []) (hu : X.A.units + 200 < cLine) : CallR X (.builtin "repr") (rRepr X.K) := by
  intro pins s σ H xs us Q I r q0
  obtain ⟨x, d, rfl, hd, hl, hs, hp, hz, q⟩ := q0
  obtain ⟨u, rfl, ru⟩ := r.one
  obtain ⟨as, rd⟩ := Dp.reads I d x u hd ru
  have hdp : X.A.units + (d.depth + 1) < cLine := by
    have e : deep = 110 := rfl
    omega
  have big_ : ∀ {v : Value}, v = u → (∃ a, v = .ref a) → wpAny (model X.prog X.w) X.A (call (.builtin "repr") [u]) (EP X pins σ Q) X.xe s := by
    rintro _ rfl ⟨a, rfl⟩
    exact repr_of_reads' rd hs (PyData.noDict_hsm (PyData.hasDict_of_canLay d hl)) hg hdp (fun _ _ e => e) (fun h' u tk hk => ⟨.str d.shown, H, I.kept hk, ⟨u, rfl⟩, q⟩) hz
  cases hd with
  | non =>
    cases (show u = Value.none from ru)
    exact P.repr_of_none ⟨.str _, H, I.tok _, ⟨_, rfl⟩, q⟩
  | bl b =>
    cases (show u = Value.bool b from ru)
    refine P.repr_of_bool ⟨.str _, H, I.tok _, ⟨_, rfl⟩, ?_⟩
    cases b <;> exact q
  | int i =>
    obtain ⟨t, e⟩ := (show ∃ t, u = Value.int i t from ru)
    cases e
    refine P.repr_of_int (by simpa [PyData.showable] using hs) ⟨.str _, H, I.tok _, ⟨_, rfl⟩, ?_⟩
    have e : PyData.shown (.int i) = toString i := by simp [PyData.shown]
    rw [← e]
    exact q
  | str t =>
    obtain ⟨tk, e⟩ := (show ∃ tk, u = Value.str t tk from ru)
    cases e
    have e : PyData.shown (.str t) = reprText t := by simp [PyData.shown]
    rw [e] at q hz
    exact P.repr_of_str ⟨.str _, H, I.tok _, ⟨_, rfl⟩, q⟩ hz
  | @lst a vs ds h1 h2 =>
    exact big_ rfl ⟨a, ru⟩
  | @tup a vs ds h1 h2 =>
    exact big_ rfl ⟨a, ru⟩
theorem repr_rep {d : D} {v : V} {t : List Nat} (s : Sim G r H h) (q : Rep G r H d v) (e : reprD h d = some t) : ∃ dd, Dp G.K H v dd ∧ dd.canLay0 = true ∧ dd.showable = true ∧ dd.depth ≤ deep ∧ dd.shown.length ≤ sizeLine ∧ dd.shown = ⟨t.toArray⟩ := by
  unfold reprD at e
  split at e
  · rename_i c
    cases e
    exact ⟨_, dp_of s deep d v c.1 q, lay_of deep d c.1, c.2.1, depth_of deep d, big_le c.2.2, (str_eta _).symm⟩
  · cases e
theorem primC_repr : PrimC G (rRepr G.K) pRepr := by
  intro W r H h as xs Q s ra p
  unfold pRepr at p
  split at p
  · rename_i d
    cases ra with
    | cons q t =>
      cases t
      cases e : reprD h d with
      | none => rw [e] at p; exact p.elim
      | some t =>
        rw [e] at p
        obtain ⟨dd, h1, h2, h3, h4, h5, h6⟩ := repr_rep s q e
        exact ⟨_, dd, rfl, h1, h2, h3, h4, h5, by rw [h6]; exact p (.str ⟨t.toArray⟩) H r Gr.refl s (.str t)⟩
  · exact p.elim

/-! ### never reached -/
def mNo : MS := fun _ _ => .no
theorem ss_no : SS G X W st mNo := ⟨⟨fun pins s σ H Z I u => by
  obtain ⟨r, h, e, sm, en, p⟩ := u
  exact p.elim⟩⟩
def mNoE : ME := fun _ _ => .no
theorem se_no : SE G X W x mNoE := ⟨⟨fun pins s σ H Z I u => by
  obtain ⟨r, h, e, sm, en, p⟩ := u
  exact p.elim⟩⟩
end

/-! ### defs that know of no guard -/
structure FnG (P : Program) (w : World) (K : PySem.W.Frag) (mg : Str → Option Value) (base : Heap) (CX : CXT) (k : Nat) (f : Addr) (fd : FuncData) (ps : List Str) (sp : Sp) : Prop where
  len : ∀ vs H Q E, sp vs H Q E → vs.length = ps.length
  run : ∀ (A : Around) (outer : List Env) (s : Shared) (H : Hp) (args : Args) (us : List Value) (vs : List V) (Q : VK) (E : XK), Room k A → A.guards = some [] → Env0 P w K mg base A outer s H → BindsTo s fd args (ps.zip us) → Vals vs us → sp vs H Q E →
    codeAny (model P w) A (.call (.ref f) args) (CR CX outer P w H s Q E) s
section
variable {P : Program} {w : World} {K : PySem.W.Frag} {mg : Str → Option Value} {base : Heap} {G : Gx}
theorem FnG.of {CX : CXT} {k : Nat} {f : Addr} {fd : FuncData} {ps : List Str} {sp : Sp} (F : FnOk P w K mg base CX k f fd ps sp) : FnG P w K mg base CX k f fd ps sp :=
  ⟨F.len, fun A outer s H args us vs Q E hr _ => F.run A outer s H args us vs Q E hr⟩
theorem FnG.mono {CX : CXT} {j k : Nat} {f : Addr} {fd : FuncData} {ps : List Str} {sp : Sp} (F : FnG P w K mg base CX j f fd ps sp) (h : j ≤ k) : FnG P w K mg base CX k f fd ps sp :=
  ⟨F.len, fun A outer s H args us vs Q E hr => F.run A outer s H args us vs Q E (hr.mono h)⟩
theorem deeper_guards {A : Around} {env : Env} (h : A.guards = some []) : (A.deeper env).guards = some [] := h
theorem fn_okG {x qual : Str} {st : Stmt} {f : Addr} {fd : FuncData} {N ps : List Str} {k : Nat} {b : MS} (F : Fun K x qual st f fd) (S : FnScope N ps (defScope st))
    (hb : ∀ (cdv : Value) (A : Around) (outer : List Env) (s : Shared) (H : Hp) (E : XK), A.guards = some [] → Room k (A.deeper (envOfC qual (defScope st) s.heap.objs.size f cdv)) →
      SSs G (cxOf (L2.CX P w) P w K mg base N qual (defScope st) f cdv A outer s H E) (fun c d _ H' => E c d H') (defBody st) b) : FnG P w K mg base (L2.CX P w) (k + 1) f fd ps (spM G (mBody ps.length N.length b)) := by
  obtain ⟨oc, od, kV, doc, pm, an, cdv, ct, osl, rfl, lk, hcd⟩ := F.ex
  refine ⟨fun vs H Q E h => ?_, fun A outer s H args us vs Q E hr hg e0 hbd rv h => ?_⟩
  · obtain ⟨r, hm, ds, sm, rp, p⟩ := h
    unfold mBody at p
    split at p
    · rename_i c
      rw [← rp.length]
      exact c
    · exact p.elim
  have hl : vs.length = ps.length := by
    obtain ⟨r, hm, ds, sm, rp, p⟩ := h
    unfold mBody at p
    split at p
    · rename_i c
      rw [← rp.length]
      exact c
    · exact p.elim
  refine LamX.run_ofS lk hcd S hr e0 hbd rv hl fun hr' => ⟨_, (hb cdv A outer s H E hg hr').pss, ?_⟩
  obtain ⟨r, hm, ds, sm, rp, p⟩ := h
  refine ⟨r, hm, startE N.length ds, sm, ?_, ?_⟩
  · have l := rp.length
    unfold startE start
    rw [l]
    exact start_en rp _
  · unfold mBody at p
    split at p
    · unfold mRun at p
      cases q : b (startE N.length ds) hm with
      | nx e' h' => rw [q] at p; exact fun σ' H' r' g s' _ => p .non H' r' g s' .non
      | rt d h' => rw [q] at p; exact p
      | ex c d e' h' => rw [q] at p; exact fun v σ' H' r' dd g s' _ rv hd => p v H' r' dd g s' rv hd
      | bk e' h' => rw [q] at p; exact p.elim
      | ct e' h' => rw [q] at p; exact p.elim
      | no => rw [q] at p; exact p.elim
    · exact p.elim
end
section
variable {G : Gx} {X : Cx} {W : WX} {x y z tg : Expr} {xs : List Expr} {ma mb mc : ME} {mt mu : MT} {ms : MA} {pos : Pos} {st : Stmt} {sts : List Stmt} {a b : MS} {r : List Addr} {H : Hp} {h : Hm}
variable {k : Nat} {f C : Addr} {fd : FuncData} {ps : List Str} {n : Str} {np apos : Pos} {m : List D → Hm → Re D}
theorem run_fnG {pins : List (Addr × Obj)} {σ : L2.St} {H : Hp} {s : Shared} {Q : VK} {us : List Value} {vs : List V} {sp : Sp} (F : FnG X.prog X.w X.K X.mg X.base (L2.CX X.prog X.w) k f fd ps sp) (hr : Room k X.A) (hgd : X.A.guards = some []) (hb : Binds X.K fd ps [])
    (tk : Takes X W) (I : Inv X pins σ H s) (r : Vals vs us) (h : sp vs H Q (WE W σ)) : wpAny (model X.prog X.w) X.A (call (.ref f) us) (EP X pins σ Q) X.xe s := by
  have hl : us.length = ps.length := by rw [← r.length]; exact F.len _ _ _ _ h
  have b := hb s us I.kIn (by rw [List.append_nil]; exact hl)
  rw [List.append_nil] at b
  refine wpAny_call (codeAny_mono (F.run X.A X.stack s H ⟨us, []⟩ us vs Q (WE W σ) hr hgd I.env0 b r h) fun r s' hq => ?_)
  cases r with
  | error e => exact passAt tk σ pins H s e s' I hq
  | ok fl =>
    cases fl with
    | ret u => exact I.after hq
    | next => exact False.elim hq
    | brk => exact False.elim hq
    | cont => exact False.elim hq
theorem se_callG (F : FnG X.prog X.w X.K X.mg X.base (L2.CX X.prog X.w) k f fd ps (spM G m)) (hr : Room k X.A) (hgd : X.A.guards = some []) (tk : Takes X W) (hm : X.mg n = some (.ref f)) (hk : PySem.W.keepIn X.K (.ref f) = true) (hb : Binds X.K fd ps []) (ha : SA G X W (x :: xs) ms)
    (hg : Gl X n := by rfl) (hdb : (n == ("__debug__" : Str)) = false := by decide) (he : starEach (x :: xs) X.env = (false, eval x X.env) :: starEach xs X.env := by rfl) (hpl : (backTo pos (starEach xs X.env)).any (·.1) = false := by rfl) :
    SE G X W (.Call (.Name n np) (x :: xs) [] pos) (mCall m ms) := by
  refine ⟨⟨fun pins s σ H Q I u => ?_⟩⟩
  obtain ⟨r, h, e, sm, en, p⟩ := u
  refine wpAny_Call_Name_kw (ld_glob I hg hm ?_ hdb)
  refine PySem.W.callWith_K (h₀ := X.base) I.ok.mod.kin hk (thn (ha.pa.run pos pins s σ H _ I (stepP (G := G) (W := W) (R := RL G) sm en p)) fun us s1 ⟨vs, H1, I1, r', r1, h1, ds, g1, sm1, en1, rs, p1⟩ => ⟨I1.kIn, ?_⟩) he hpl
  exact run_fnG F hr hgd hb tk I1 r' ⟨r1, h1, ds, sm1, rs, p1⟩
theorem se_callG0 (F : FnG X.prog X.w X.K X.mg X.base (L2.CX X.prog X.w) k f fd ps (spM G m)) (hr : Room k X.A) (hgd : X.A.guards = some []) (tk : Takes X W) (hm : X.mg n = some (.ref f)) (hk : PySem.W.keepIn X.K (.ref f) = true) (hb : Binds X.K fd ps [])
    (hg : Gl X n := by rfl) (hdb : (n == ("__debug__" : Str)) = false := by decide) : SE G X W (.Call (.Name n np) [] [] pos) (mCall m mNil) := by
  refine ⟨⟨fun pins s σ H Q I u => ?_⟩⟩
  refine wpAny_Call_Name_kw (ld_glob I hg hm ?_ hdb)
  refine PySem.W.callWith_K0 I.kIn hk ?_
  obtain ⟨r, h, e, sm, en, p⟩ := u
  exact run_fnG F hr hgd hb tk I .nil ⟨r, h, [], sm, .nil, p⟩
end
end L2.Lv
end
section
set_option maxRecDepth 100000
set_option maxHeartbeats 4000000
set_option autoImplicit false
namespace L2.Lv
open PySem PySem.Spec PyProof.Rows

/-! ### own errors: def __init__(self, v): self.f = v -/
def spI (C : Addr) (fl : Str) : Sp := fun vs H Q _ => ∃ a y, vs = [.ref a, y] ∧ H a = some (exo a C none) ∧ ∀ dx, H dx = none → dx ≠ a → Q .non (upd (upd H dx (exd dx [(fl, y)])) a (exo a C (some dx)))
section
variable {P : Program} {w : World} {K : PySem.W.Frag} {mg : Str → Option Value} {base : Heap}
theorem oex_init {x qual fl sn vn : Str} {st : Stmt} {fI C : Addr} {fd : FuncData} {k : Nat} {p1 p2 p3 p4 : Pos} (T : OexC K C) (hno : PySem.W.findIn K (.ref C) fl = some none) (F : Fun K x qual st fI fd) (S : FnScope [sn, vn] [sn, vn] (defScope st))
    (hbody : defBody st = [.Assign [.Attribute (.Name sn p1) fl p2] (.Name vn p3) p4]) (h0 : Vis (defScope st) sn) (h1 : Vis (defScope st) vn) (d0 : (sn == ("__debug__" : Str)) = false) (d1 : (vn == ("__debug__" : Str)) = false) (c0 : (sn == ("__classdict__" : Str)) = false) (c1 : (vn == ("__classdict__" : Str)) = false)
    (hs : ∀ env : Env, swapsWith (.Name vn p3) (some (.Attribute (.Name sn p1) fl p2)) p4.line env = pure false) : FnOk P w K mg base (L2.CX P w) (k + 1) fI fd [sn, vn] (spI C fl) := by
  refine F.okX S (fun vs H Q E h => by obtain ⟨a, y, rfl, _⟩ := h; rfl) fun cdv A outer s H vs Q E hr h => ?_
  rw [hbody]
  refine ⟨_, pss_one (ps_ost (pe_var (i := 0) rfl h0 d0 c0) (pe_var (i := 1) rfl h1 d1 c1) (hs _)), ?_⟩
  obtain ⟨a, y, rfl, ha, q⟩ := h
  refine ⟨y, rfl, .ref a, rfl, a, C, rfl, T, hno, .inl ⟨ha, q⟩⟩
end
/-- what the written part says of an own error class -/
structure Oex (G : Gx) (c : Nat) (fI : Addr) : Prop where
  T : OexC G.K (G.ga c)
  iC : PySem.W.findIn G.K (.ref (G.ga c)) "__init__" = some (some (.ref fI))
  tI : PySem.W.typeIn G.K (.ref fI) = some (.type "function")
def mRaise (c : Nat) (a : ME) : MS := fun e h => (a e h).bs e fun d h1 => .ex c d e h1
section
variable {G : Gx} {X : Cx} {W : WX} {x y z tg : Expr} {xs : List Expr} {ma mb mc : ME} {mt mu : MT} {ms : MA} {pos : Pos} {st : Stmt} {sts : List Stmt} {a b : MS} {r : List Addr} {H : Hp} {h : Hm}
theorem del_upd {H1 : Hp} {a dx : Addr} {o1 o2 o3 : HO} (h1 : H1 a = none) (hd : dx ≠ a) : upd (del (upd (upd H1 dx o1) a o2) a) dx o3 = upd H1 dx o3 := by
  funext b
  by_cases e : b = dx
  · rw [e, upd_same, upd_same]
  · rw [upd_ne e, upd_ne e]
    by_cases e2 : b = a
    · rw [e2, del_same, h1]
    · rw [del_ne e2, upd_ne e2, upd_ne e]
theorem ss_raise {c k : Nat} {fI : Addr} {fd : FuncData} {ps : List Str} {n : Str} {np pos2 : Pos} (hK : X.K = G.K) (hc : X.calm = true) (tk : Takes X W) (O : Oex G c fI) (F : FnOk X.prog X.w X.K X.mg X.base (L2.CX X.prog X.w) k fI fd ps (spI (G.ga c) (G.xf c))) (hr : Room (k + 1) X.A) (hb : Binds X.K fd ps [])
    (hm : X.mg n = some (.ref (G.ga c))) (ha : SE G X W x ma) (hg : Gl X n := by rfl) (hdb : (n == ("__debug__" : Str)) = false := by decide)
    (he : starEach [x] X.env = (false, eval x X.env) :: starEach [] X.env := by rfl) (hpl : (backTo pos (starEach [] X.env)).any (·.1) = false := by rfl) :
    SS G X W (.Raise (some (.Call (.Name n np) [x] [] pos)) none pos2) (mRaise c ma) := by
  have pm := pmk_oex (X := X) (CX := L2.CX X.prog X.w) (x := n) (p := np) (pos := pos) (e := x) (es := []) (ds := []) (dvs := []) (by rw [hK]; exact O.T) (by rw [hK]; exact O.iC) (by rw [hK]; exact O.tI) F hr hb .nil (fun pins σ H s e s' I q => by obtain ⟨_, _, _, _, _, _, _, _, _, _, _, _, w⟩ := q; exact w.elim) hg hm (pa_cons ha.pe pa_nil he) hdb he hpl
  refine ⟨ps_imp (ps_raise (pos := pos2) hc tk pm) fun Z σ H u => ?_⟩
  obtain ⟨r, h, e, s, en, p⟩ := u
  refine uG_weak (stepS s en p) ?_
  rintro v H1 ⟨r1, h1, d, g1, s1, en1, ra, p1⟩
  refine ⟨by simp, fun a0 ha0 => ⟨a0, v, rfl, upd_same, fun dx hdx hne => ⟨rfl, dx, [(G.xf c, v)], upd_same, ?_, ?_, ?_⟩⟩⟩
  · rw [upd_ne hne, upd_same]
  · rwa [upd_ne hne] at hdx
  · have hd1 : H1 dx = none := by rwa [upd_ne hne] at hdx
    have ee : upd (del (upd (upd (upd H1 a0 (exo a0 (G.ga c) none)) dx (exd dx [(G.xf c, v)])) a0 (exo a0 (G.ga c) (some dx))) a0) dx (.xd [(G.xf c, v)]) = upd H1 dx (.xd [(G.xf c, v)]) := by
      funext b
      by_cases e : b = dx
      · rw [e, upd_same, upd_same]
      · rw [upd_ne e, upd_ne e]
        by_cases e2 : b = a0
        · rw [e2, del_same, ha0]
        · rw [del_ne e2, upd_ne e2, upd_ne e, upd_ne e2]
    rw [ee]
    exact p1 v σ _ r1 dx (gr_fresh hd1) (s1.fresh hd1) (en1.mono (gr_fresh hd1)) (ra.mono (gr_fresh hd1)) upd_same
end

/-! ### what stands behind except C as e -/
/-- the caught exception's field stands at hand; heaps are not written -/
def tX (G : Gx) (a dd : Addr) (fl : Str) (i : Nat) (m : Hm → D → Option D) : TE := fun σ H Q => ∃ r h d v w', σ[i]? = some (some (V.ref a)) ∧ H dd = some (.xd [(fl, v)]) ∧ Sim G r H h ∧ Rep G r H d v ∧ m h d = some w' ∧ ∀ w, Rep G r H w' w → Q w H
def tXs (G : Gx) (a dd : Addr) (fl : Str) (i : Nat) (m : Hm → D → Option (List D)) : TA := fun σ H Q => ∃ r h d v w', σ[i]? = some (some (V.ref a)) ∧ H dd = some (.xd [(fl, v)]) ∧ Sim G r H h ∧ Rep G r H d v ∧ m h d = some w' ∧ ∀ w, Reps G r H w' w → Q w H
/-- the context of the suite of: except the class c as the name in slot i -/
structure SX (G : Gx) (X : Cx) (c i : Nat) (x : Expr) (m : Hm → D → Option D) : Prop where
  pe : ∀ (a dd : Addr) (oe : Obj) (pn : List (Addr × Obj)), Zc (.ref (G.ga c)) (some dd) oe → (∃ vs, oe.data = .fields vs) → PE (X.suite a ((a, oe) :: pn)) x (tX G a dd (G.xf c) i m)
structure SXs (G : Gx) (X : Cx) (c i : Nat) (xs : List Expr) (m : Hm → D → Option (List D)) : Prop where
  pa : ∀ (a dd : Addr) (oe : Obj) (pn : List (Addr × Obj)), Zc (.ref (G.ga c)) (some dd) oe → (∃ vs, oe.data = .fields vs) → PA (X.suite a ((a, oe) :: pn)) xs (tXs G a dd (G.xf c) i m)
structure SXb (G : Gx) (X : Cx) (c i : Nat) (st : List Stmt) (m : Hm → D → Re D) : Prop where
  pss : ∀ (a dd : Addr) (oe : Obj) (pn : List (Addr × Obj)), Zc (.ref (G.ga c)) (some dd) oe → (∃ vs, oe.data = .fields vs) →
    PSs (X.suite a ((a, oe) :: pn)) st (fun Z σ H => ∃ r h d v, σ[i]? = some (some (V.ref a)) ∧ H dd = some (.xd [(G.xf c, v)]) ∧ Sim G r H h ∧ Rep G r H d v ∧ Post G never (RD G) r H (m h d) Z.rt)
/-- what the written part says of an error class whose field is read -/
structure ExF (G : Gx) (c : Nat) : Prop where
  ga : PySem.W.findIn G.K (.ref (G.ga c)) "__getattribute__" = some (some (.builtin "BaseException.__getattribute__"))
  gg : PySem.W.findIn G.K (.ref (G.ga c)) "__getattr__" = some none
  exC : PySem.W.subIn G.K (.ref (G.ga c)) (.type "BaseException") = some true
  hdC : PySem.W.hasDictIn G.K (G.ga c) = true
  noN : PySem.W.findIn G.K (.ref (G.ga c)) (G.xf c) = some none
section
variable {G : Gx} {X : Cx} {W : WX} {x y z tg : Expr} {xs : List Expr} {ma mb mc : ME} {mt mu : MT} {ms : MA} {pos : Pos} {st : Stmt} {sts : List Stmt} {a b : MS} {r : List Addr} {H : Hp} {h : Hm}
variable {c i : Nat} {m : Hm → D → Option D} {mm : Hm → D → Option (List D)}
def xC (w : D) : Hm → D → Option D := fun _ _ => some w
theorem sx_c {w : D} {v : V} (hp : ∀ (a : Addr) (oe : Obj) (pn : List (Addr × Obj)), PE (X.suite a ((a, oe) :: pn)) x (tC v)) (hr : ∀ r H, Rep G r H w v) : SX G X c i x (xC w) :=
  ⟨fun a dd oe pn _ _ => pe_imp (hp a oe pn) fun σ H Q ⟨r, h, d, v', w', _, _, s, rd, e, k⟩ => by cases e; exact k v (hr r H)⟩
theorem sx_int {j : Int} {t : Nat} : SX G X c i (.Constant (.int j) t pos) (xC (.int j)) := sx_c (fun _ _ _ => pe_int) fun _ _ => .int j
theorem sx_bl {j : Bool} {t : Nat} : SX G X c i (.Constant (.bool j) t pos) (xC (.bl j)) := sx_c (fun _ _ _ => pe_bl) fun _ _ => .bl j
theorem sx_non {t : Nat} : SX G X c i (.Constant .none t pos) (xC .non) := sx_c (fun _ _ _ => pe_non) fun _ _ => .non
theorem sx_str (l : List Nat) {s : Str} {t : Nat} (hs : s = ⟨l.toArray⟩ := by decide +kernel) : SX G X c i (.Constant (.str s) t pos) (xC (.str l)) := by
  subst hs
  exact sx_c (fun _ _ _ => pe_str) fun _ _ => .str l
def xF : Hm → D → Option D := fun _ d => some d
theorem sx_fld {n fl : Str} {p1 : Pos} (hK : X.K = G.K) (E : ExF G c) (hf : G.xf c = fl) (hN : X.N[i]? = some n := by rfl) (hv : Vis X.env.scope n := by first | exact Or.inl rfl | exact Or.inr (Or.inl rfl) | exact Or.inr (Or.inr rfl)) (hd : (n == ("__debug__" : Str)) = false := by decide)
    (hcd : (n == ("__classdict__" : Str)) = false := by decide) (hb : attributeBase (.Name n p1) fl X.env (eval (.Name n p1) X.env) = eval (.Name n p1) X.env := by rfl) : SX G X c i (.Attribute (.Name n p1) fl pos) xF := by
  subst hf
  refine ⟨fun a dd oe pn hz hf => ⟨fun pins s σ H Q I q => ?_⟩⟩
  obtain ⟨r, h, d, v, w', e1, e2, sm, rd, e3, k⟩ := q
  refine attr_of hb (thn ((pe_var (X := X.suite a ((a, oe) :: pn)) (i := i) hN hv hd hcd).run pins s σ H (fun x H' => x = .ref a ∧ H' = H) I ⟨.ref a, e1, rfl, rfl⟩) fun u s1 ⟨x, H1, I1, rx, ex, eH⟩ => ?_)
  subst ex eH
  obtain rfl : u = Value.ref a := rx
  obtain ⟨ha, _⟩ := I1.pin (a, oe) (List.mem_append_left _ List.mem_cons_self)
  obtain ⟨vs, hd⟩ := hf
  have hx : ObjOk X.prog X.w H1 s1.heap dd (.xd [(G.xf c, v)]) := I1.hok dd _ e2
  obtain ⟨mA, hns, hr⟩ := hx
  obtain ⟨od, ho, hl⟩ := lookIn_ns hns
  have l : List.lookup (G.xf c) [(G.xf c, v)] = some v := by simp [List.lookup]
  obtain ⟨u, hu, ru⟩ := RelO.some_of (v := v) (o := mA (G.xf c)) (by rw [← l]; exact hr (G.xf c))
  have J : PySem.W.InstAt s1.heap a oe (G.ga c) (some od) := ⟨ha, hz.1, by unfold PySem.W.notCls; rw [hd] <;> rfl, by rw [hz.2]; exact ho⟩
  refine HandSPX.exc_get I1.kIn J (by show PySem.W.findIn X.K _ _ = _; rw [hK]; exact E.ga) (by show PySem.W.findIn X.K _ _ = _; rw [hK]; exact E.gg) (by show PySem.W.subIn X.K _ _ = _; rw [hK]; exact E.exC)
    (PySem.W.findObj_own (by show PySem.W.hasDictIn X.K _ = _; rw [hK]; exact E.hdC) (by show PySem.W.findIn X.K _ _ = _; rw [hK]; exact E.noN) rfl (by rw [hl, hu])) (handed_of ru) ⟨v, H1, I1.tok _, ru, ?_⟩
  cases e3
  exact k v rd
def xRepr (m : Hm → D → Option D) : Hm → D → Option D := fun h d => match m h d with
  | some w => match reprD h w with
    | some t => some (.str t)
    | none => none
  | none => none
theorem sx_repr {np : Pos} (hK : X.K = G.K) (hgd : X.A.guards = some []) (hu : X.A.units + 200 < cLine) (ha : SX G X c i x m) (hm : X.mg "repr" = none) (hg : Gl X "repr" := by rfl) (he : starEach [x] X.env = (false, eval x X.env) :: starEach [] X.env := by rfl) (hpl : (backTo pos (starEach [] X.env)).any (·.1) = false := by rfl) :
    SX G X c i (.Call (.Name "repr" np) [x] [] pos) (xRepr m) := by
  refine ⟨fun a dd oe pn hz hf => pe_imp (pe_callB (X := X.suite a ((a, oe) :: pn)) (call_repr (X := X.suite a ((a, oe) :: pn)) hgd hu) hg hm (by decide +kernel) (pa_cons (ha.pe a dd oe pn hz hf) pa_nil he) (by decide) (by decide) he hpl) fun σ H Q q => ?_⟩
  obtain ⟨r, h, d, v, w', e1, e2, sm, rd, e3, k⟩ := q
  unfold xRepr at e3
  split at e3
  · rename_i w em
    split at e3
    · rename_i t et
      cases e3
      refine ⟨r, h, d, v, w, e1, e2, sm, rd, em, fun u ru => ?_⟩
      obtain ⟨d2, h1, h2, h3, h4, h5, h6⟩ := repr_rep sm ru et
      exact ⟨u, d2, rfl, by show Dp X.K _ _ _; rw [hK]; exact h1, h2, h3, h4, h5, by rw [h6]; exact k _ (.str t)⟩
    · cases e3
  · cases e3
def xNil : Hm → D → Option (List D) := fun _ _ => some []
def xCons (m : Hm → D → Option D) (mm : Hm → D → Option (List D)) : Hm → D → Option (List D) := fun h d => match m h d, mm h d with
  | some w, some ws => some (w :: ws)
  | _, _ => none
theorem sxs_nil : SXs G X c i [] xNil := ⟨fun a dd oe pn hz hf => pa_imp pa_nil fun σ H Q ⟨r, h, d, v, w', _, _, _, _, e, k⟩ => by cases e; exact k [] .nil⟩
theorem sxs_cons (ha : SX G X c i x m) (hr : SXs G X c i xs mm) (hs : starEach (x :: xs) X.env = (false, eval x X.env) :: starEach xs X.env := by rfl) : SXs G X c i (x :: xs) (xCons m mm) := by
  refine ⟨fun a dd oe pn hz hf => pa_imp (pa_cons (ha.pe a dd oe pn hz hf) (hr.pa a dd oe pn hz hf) hs) fun σ H Q q => ?_⟩
  obtain ⟨r, h, d, v, w', e1, e2, sm, rd, e3, k⟩ := q
  unfold xCons at e3
  split at e3
  · rename_i w ws h1 h2
    cases e3
    exact ⟨r, h, d, v, w, e1, e2, sm, rd, h1, fun u ru => ⟨r, h, d, v, ws, e1, e2, sm, rd, h2, fun us rs => k _ (.cons ru rs)⟩⟩
  · cases e3
/-- return [..] -/
def xLst (mm : Hm → D → Option (List D)) : Hm → D → Re D := fun h d => match mm h d with
  | some ws => newL ws h
  | none => .no
theorem sxb_lst {p2 : Pos} (ha : SXs G X c i xs mm) : SXb G X c i [.Return (some (.List xs pos)) p2] (xLst mm) := by
  refine ⟨fun a dd oe pn hz hf => pss_imp (pss_one (ps_ret (pe_lst (ha.pa a dd oe pn hz hf)))) fun Z σ H q => ?_⟩
  obtain ⟨r, h, d, v, e1, e2, sm, rd, p⟩ := q
  unfold xLst at p
  cases e : mm h d with
  | none => rw [e] at p; exact p.elim
  | some ws =>
    rw [e] at p
    exact ⟨r, h, d, v, ws, e1, e2, sm, rd, e, fun us rs => post_newL sm rs p⟩
def xOne (m : Hm → D → Option D) : Hm → D → Re D := fun h d => match m h d with
  | some w => .ok w h
  | none => .no
theorem sxb_one {p2 : Pos} (ha : SX G X c i x m) : SXb G X c i [.Return (some x) p2] (xOne m) := by
  refine ⟨fun a dd oe pn hz hf => pss_imp (pss_one (ps_ret (ha.pe a dd oe pn hz hf))) fun Z σ H q => ?_⟩
  obtain ⟨r, h, d, v, e1, e2, sm, rd, p⟩ := q
  unfold xOne at p
  cases e : m h d with
  | none => rw [e] at p; exact p.elim
  | some w =>
    rw [e] at p
    exact ⟨r, h, d, v, w, e1, e2, sm, rd, e, fun u ru => p u H r Gr.refl sm ru⟩

/-! ### f(lambda: x), f: try: return its argument() / except C as e: .. -/
def TTx (G : Gx) (c : Nat) (M : Hm → D → Re D) : (XK → Hp → VK → Prop) → Hp → VK → Prop := fun tl H Q =>
  tl (fun cls d H' => cls = .ref (G.ga c) ∧ ∃ dd r h dv v, d = some dd ∧ H' dd = some (.xd [(G.xf c, v)]) ∧ Sim G r H' h ∧ Rep G r H' dv v ∧ Post G never (RD G) r H' (M h dv) Q) H Q
theorem told_x {Ng : List Str} {nf an en q cn : Str} {sg : Scope} {g : Addr} {cdg : Value} {M : Hm → D → Re D} {st : Stmt} {sts : List Stmt} {p1 p2 p3 p4 p6 p8 : Pos} (hK : X.K = G.K) (hge : sg.names.lookup cn = some .globalImplicit) (hme : X.mg cn = some (.ref (G.ga c))) (hde : (cn == ("__debug__" : Str)) = false)
    (hN : Ng.Nodup) (h1 : Ng[1]? = some en) (h2 : Ng.length = 2) (hln : sg.kind = .function ∧ sg.names.lookup en = some .local) (hln' : ∀ (a : Addr) (cd : Value), (envOfC nf sg a g cd).kindOf en = some .local)
    (te : PySem.W.exmOne G.K (.ref (G.ga c)) (.ref (G.ga c)) = some true)
    (hsu : ∀ (s : Shared) (H : Hp), SXb G (cxOf C8.CX0 X.prog X.w X.K X.mg X.base Ng nf sg g cdg X.A X.stack s H C8.E0).nox c 1 (st :: sts) M) :
    LamX.GivesTo X Ng nf sg g cdg [.Try [.Return (some (.Call (.Name an p1) [] [] p2)) p3] [.ExceptHandler (some (.Name cn p4)) (some en) (st :: sts) p6] [] [] p8] an q (TTx G c M) := by
  intro f c' s H Q tl act hc hq
  have hgl : Gl (cxOf C8.CX0 X.prog X.w X.K X.mg X.base Ng nf sg g cdg X.A X.stack s H C8.E0).nox cn := hge
  have s0 : (L2.start Ng [V.ref f])[0]? = some (some (V.ref f)) := by
    unfold L2.start
    rfl
  refine ⟨_, pss_one (ps_try_as (X := (cxOf C8.CX0 X.prog X.w X.K X.mg X.base Ng nf sg g cdg X.A X.stack s H C8.E0).nox) (c := .ref (G.ga c)) (i := 1) (n := en)
      (tb := fun W D σ H => ∃ Ech : XK, (∀ cls d σ' H', Ech cls d H' → W cls d σ' H') ∧ σ[0]? = some (some (.ref f)) ∧ H c' = some (LamX.CodeO c' q) ∧ tl Ech H D.rt)
      (ts := fun a cls d => fun Z σ H => cls = .ref (G.ga c) ∧ ∃ dd, d = some dd ∧ ∃ r h dv v, (∃ σ0 : L2.St, σ = σ0.set 1 (some (V.ref a))) ∧ H dd = some (.xd [(G.xf c, v)]) ∧ Sim G r H h ∧ Rep G r H dv v ∧ Post G never (RD G) r H (M h dv) Z.rt)
      rfl rfl hN h1 (hln' _ _) ⟨hgl, hde, .inl hme⟩ LamX.takes0 (fun W pn xe tk _ => ?_) (fun a oe cls d pn hz hf => ?_)), ?_⟩
  · refine ⟨fun pins s' σ H' D I h' => ?_⟩
    obtain ⟨Ech, hW, k1, k2, k3⟩ := h'
    have hp := act W pn xe Ech p1 p2 tk hW
    exact (pss_one (ps_ret (pos := p3) hp)).run pins s' σ H' D I ⟨k1, k2, k3⟩
  · refine ⟨fun pins s' σ H' D I h' => ?_⟩
    obtain ⟨rfl, dd, rfl, r, h, dv, v, ⟨σ0, rfl⟩, rest⟩ := h'
    have l := I.len
    rw [List.length_set] at l
    have l2 : σ0.length = 2 := l.trans h2
    exact ((hsu s H).pss a dd oe pn hz hf).run pins s' _ H' D I ⟨r, h, dv, v, List.getElem?_set_self (by omega), rest⟩
  · refine ⟨_, fun cls d σ' H' hE => ?_, s0, hc, hq⟩
    obtain ⟨rfl, dd, r, h, dv, v, rfl, rest⟩ := hE
    exact ⟨true, by show PySem.W.exmOne X.K _ _ = _; rw [hK]; exact te, fun _ a _ => ⟨rfl, dd, rfl, r, h, dv, v, ⟨σ', rfl⟩, rest⟩, fun z => by cases z⟩
def mTold (c : Nat) (M : Hm → D → Re D) (lam : ME) : ME := fun e h => match lam e h with
  | .ok d h' => .ok d h'
  | .ex c' d h' => if c' = c then noEx (M h' d) else .no
  | .no => .no
theorem sim_ext {H1 : Hp} (s : Sim G r H h) (eN : LamX.ExtN H H1) (t : LamX.Tabs G.T H1) : Sim G r H1 h ∧ Gr G r H r H1 := by
  have g : Gr G r H r H1 := by
    refine ⟨fun _ _ q => q, fun b xs q => ?_, fun b p u q => eN b _ q fun ps z => by cases z⟩
    rcases q with (q | ⟨u, q⟩) | q
    · exact .inl (.inl (eN b _ q fun ps z => by cases z))
    · exact .inl (.inr ⟨u, eN b _ q fun ps z => by cases z⟩)
    · exact .inr q
  refine ⟨⟨s.len, s.nd, fun n ob b e1 e2 => ?_, t⟩, g⟩
  have q := s.at_ n ob b e1 e2
  obtain ⟨o, ho, _, _, _, nb, _⟩ := q.there
  exact q.keep g ((eN b o ho nb).trans ho.symm)
theorem se_lam {Ng : List Str} {nf an : Str} {sg : Scope} {g cc P : Addr} {k : Nat} {pg : Arguments} {bg : List Stmt} {dV kV doc pm cdv ct oc : Value} {ano od : Option Addr} {osl : Array (Option Value)} {M : Hm → D → Re D} {lm : ME}
    {params : Arguments} {body : Expr} {scope : Scope} {np lpos : Pos} (hK : X.K = G.K) (hg : Gl X nf) (hm : X.mg nf = some (.ref g)) (hk : PySem.W.keepIn X.K (.ref g) = true)
    (lk : X.K.lookup g = some ⟨oc, od, .func (PySem.W.fnOf nf nf pg bg sg dV kV doc pm ano cdv ct), osl⟩) (hcg : PySem.W.codeIn X.K cdv nf = true) (hb : L2.Binds X.K (PySem.W.fnOf nf nf pg bg sg dV kV doc pm ano cdv ct) [an] []) (Sg : FnScope Ng [an] sg) (hNg : Ng[0]? = some an) (hva : Vis sg an)
    (hG : LamX.GivesTo X Ng nf sg g cdv bg an (X.env.qual ++ "<lambda>") (TTx G c M))
    (TB : LamX.TabB X.base X.mg cc P) (hcode : X.env.code = .ref cc) (hmT : (P, X.env.qual ++ "<lambda>") ∈ G.T) (hu : ∀ p ∈ G.T, p.1 = P → p.2 = X.env.qual ++ "<lambda>") (hr : Room (k + 2) X.A) (L : LamX.LamS X.env.scope scope) (hdef : defaultsOf params X.env = ([], []))
    (hbind : ∀ (q : Str) (cl : List (Str × Addr)) (pm cv ctv : Value), bindArgs (PySem.W.kla_fn "<lambda>" q params body scope cl pm cv ctv) ⟨[], []⟩ = pure [])
    (hbody : ∀ (A : Around) (outer : List Env) (s : Shared) (H : Hp) (E : XK) (f c' : Addr), Room k (A.deeper (LamX.lamEnv X scope s.heap.objs.size f c')) → SE G (LamX.lamCx X A outer s H E scope f c') (fun c d _ H' => E c d H') body lm)
    (hdb : (nf == ("__debug__" : Str)) = false := by decide) (hd : (an == ("__debug__" : Str)) = false := by decide) (hcd : (an == ("__classdict__" : Str)) = false := by decide) :
    SE G X W (.Call (.Name nf np) [.Lambda params body scope lpos] [] pos) (mTold c M lm) := by
  refine ⟨pe_imp (LamX.pe_lamcall (t := fun E => uE G (fun c d _ H' => E c d H') lm) hg hm hk lk hcg hb Sg hNg hva hG TB hcode hmT hu hr L hdef hbind (fun A outer s H E f c' hr' => (hbody A outer s H E f c' hr').pe) hdb hd hcd) fun σ H Q u => ?_⟩
  obtain ⟨r, h, e, s, en, p⟩ := u
  refine ⟨s.tb, fun H1 eN t1 => ?_⟩
  obtain ⟨s1, g1⟩ := sim_ext s eN t1
  refine ⟨r, h, e, s1, en.mono g1, ?_⟩
  have p1 := Post.mono g1 p
  unfold mTold at p1
  cases q : lm e h with
  | ok d h' => rw [q] at p1; exact p1
  | ex c' d h' =>
    rw [q] at p1
    simp only at p1
    split at p1
    · rename_i ec
      subst ec
      exact fun v H' r' dd g2 s2 rv hd => ⟨rfl, dd, r', h', d, v, rfl, hd, s2, rv, post_noEx (Post.mono g2 p1)⟩
    · exact p1.elim
  | no => rw [q] at p1; exact p1.elim
end
end L2.Lv
end
section
set_option maxRecDepth 100000
set_option maxHeartbeats 4000000
set_option autoImplicit false
namespace L2.Lv
open PySem PySem.Spec PyProof.Rows

/-! ### the rules in short -/
theorem hu200 {k : Nat} {A : Around} (hr : Room k A) : A.units + 200 < cLine := by have := hr.un; omega
section
variable {G : Gx} {X : Cx} {W : WX} {x y z tg : Expr} {xs : List Expr} {ma mb mc : ME} {mt mu : MT} {ms : MA} {pos : Pos} {st : Stmt} {sts : List Stmt} {a b : MS} {k : Nat}
def mNeg (a : ME) : ME := fun e h => (a e h).bind fun d h1 => match d with
  | .int i => .ok (.int (-i)) h1
  | _ => .no
theorem e_neg (ha : SE G X W x ma) : SE G X W (.UnaryOp .USub x pos) (mNeg ma) := by
  refine ⟨pe_imp (pe_un un_neg ha.pe) fun σ H Q u => ?_⟩
  obtain ⟨r, h, e, s, en, p⟩ := u
  refine uG_weak (stepP s en p) ?_
  rintro v H1 ⟨r1, h1, a, g1, s1, en1, ra, p1⟩
  cases ra with
  | int i => exact ⟨i, rfl, p1 _ H1 r1 Gr.refl s1 (.int _)⟩
  | _ => exact p1.elim
theorem e_eq (hK : X.K = G.K) (hr : Room k X.A) (ha : SE G X W x ma) (hb : SE G X W y mb) : SE G X W (.Compare x [.Eq] [y] pos) (mBin pEq ma mb) := se_cmp (hK ▸ op_eqP (hu200 hr)) prim_eq ha hb (nomark _)
theorem e_ne (hK : X.K = G.K) (hr : Room k X.A) (ha : SE G X W x ma) (hb : SE G X W y mb) : SE G X W (.Compare x [.NotEq] [y] pos) (mBin pNe ma mb) := se_cmp (hK ▸ op_neP (hu200 hr)) prim_ne ha hb (nomark _)
theorem e_in (hK : X.K = G.K) (hr : Room k X.A) (ha : SE G X W x ma) (hb : SE G X W y mb) (hm : behindInMarks .In y = false := by rfl) : SE G X W (.Compare x [.In] [y] pos) (mBin (pIn false) ma mb) :=
  se_cmp (hK ▸ op_inD (by have := hu200 hr; omega)) prim_in ha hb hm
theorem e_nin (hK : X.K = G.K) (hr : Room k X.A) (ha : SE G X W x ma) (hb : SE G X W y mb) (hm : behindInMarks .NotIn y = false := by rfl) : SE G X W (.Compare x [.NotIn] [y] pos) (mBin (pIn true) ma mb) :=
  se_cmp (hK ▸ op_notInD (by have := hu200 hr; omega)) prim_notIn ha hb hm
theorem e_lt (ha : SE G X W x ma) (hb : SE G X W y mb) : SE G X W (.Compare x [.Lt] [y] pos) (mBin pLt ma mb) := se_cmp op_lt prim_cmp ha hb (nomark _)
theorem e_le (ha : SE G X W x ma) (hb : SE G X W y mb) : SE G X W (.Compare x [.LtE] [y] pos) (mBin pLe ma mb) := se_cmp op_le prim_cmp ha hb (nomark _)
theorem e_gt (ha : SE G X W x ma) (hb : SE G X W y mb) : SE G X W (.Compare x [.Gt] [y] pos) (mBin pGt ma mb) := se_cmp op_gt prim_cmp ha hb (nomark _)
theorem e_ge (ha : SE G X W x ma) (hb : SE G X W y mb) : SE G X W (.Compare x [.GtE] [y] pos) (mBin pGe ma mb) := se_cmp op_ge prim_cmp ha hb (nomark _)
theorem e_is (ha : SE G X W x ma) (hb : SE G X W y mb) : SE G X W (.Compare x [.Is] [y] pos) (mBin (pIs false) ma mb) := se_cmp op_isAll prim_is ha hb (nomark _)
theorem e_isnt (ha : SE G X W x ma) (hb : SE G X W y mb) : SE G X W (.Compare x [.IsNot] [y] pos) (mBin (pIs true) ma mb) := se_cmp op_isNotAll prim_is ha hb (nomark _)
theorem t_eq (hK : X.K = G.K) (hr : Room k X.A) (ha : SE G X W x ma) (hb : SE G X W y mb) : ST G X W (.Compare x [.Eq] [y] pos) (mTb (mBin pEq ma mb)) := st_cmp (hK ▸ op_eqP (hu200 hr)) prim_eq ha hb (nomark _)
theorem t_ne (hK : X.K = G.K) (hr : Room k X.A) (ha : SE G X W x ma) (hb : SE G X W y mb) : ST G X W (.Compare x [.NotEq] [y] pos) (mTb (mBin pNe ma mb)) := st_cmp (hK ▸ op_neP (hu200 hr)) prim_ne ha hb (nomark _)
theorem t_in (hK : X.K = G.K) (hr : Room k X.A) (ha : SE G X W x ma) (hb : SE G X W y mb) (hm : behindInMarks .In y = false := by rfl) : ST G X W (.Compare x [.In] [y] pos) (mTb (mBin (pIn false) ma mb)) :=
  st_cmp (hK ▸ op_inD (by have := hu200 hr; omega)) prim_in ha hb hm
theorem t_nin (hK : X.K = G.K) (hr : Room k X.A) (ha : SE G X W x ma) (hb : SE G X W y mb) (hm : behindInMarks .NotIn y = false := by rfl) : ST G X W (.Compare x [.NotIn] [y] pos) (mTb (mBin (pIn true) ma mb)) :=
  st_cmp (hK ▸ op_notInD (by have := hu200 hr; omega)) prim_notIn ha hb hm
theorem t_lt (ha : SE G X W x ma) (hb : SE G X W y mb) : ST G X W (.Compare x [.Lt] [y] pos) (mTb (mBin pLt ma mb)) := st_cmp op_lt prim_cmp ha hb (nomark _)
theorem t_le (ha : SE G X W x ma) (hb : SE G X W y mb) : ST G X W (.Compare x [.LtE] [y] pos) (mTb (mBin pLe ma mb)) := st_cmp op_le prim_cmp ha hb (nomark _)
theorem t_gt (ha : SE G X W x ma) (hb : SE G X W y mb) : ST G X W (.Compare x [.Gt] [y] pos) (mTb (mBin pGt ma mb)) := st_cmp op_gt prim_cmp ha hb (nomark _)
theorem t_ge (ha : SE G X W x ma) (hb : SE G X W y mb) : ST G X W (.Compare x [.GtE] [y] pos) (mTb (mBin pGe ma mb)) := st_cmp op_ge prim_cmp ha hb (nomark _)
theorem t_is (ha : SE G X W x ma) (hb : SE G X W y mb) : ST G X W (.Compare x [.Is] [y] pos) (mTb (mBin (pIs false) ma mb)) := st_cmp op_isAll prim_is ha hb (nomark _)
theorem t_isnt (ha : SE G X W x ma) (hb : SE G X W y mb) : ST G X W (.Compare x [.IsNot] [y] pos) (mTb (mBin (pIs true) ma mb)) := st_cmp op_isNotAll prim_is ha hb (nomark _)
theorem e_add (hK : X.K = G.K) (ha : SE G X W x ma) (hb : SE G X W y mb) : SE G X W (.BinOp x .Add y pos) (mBin pAdd ma mb) := se_op (hK ▸ op_addAll) prim_add ha hb
theorem e_sub (ha : SE G X W x ma) (hb : SE G X W y mb) : SE G X W (.BinOp x .Sub y pos) (mBin pSub ma mb) := se_op op_sub' prim_sub ha hb
theorem e_mul (ha : SE G X W x ma) (hb : SE G X W y mb) : SE G X W (.BinOp x .Mult y pos) (mBin pMulA ma mb) := se_op op_mulAll prim_mulA ha hb
theorem e_fd (ha : SE G X W x ma) (hb : SE G X W y mb) : SE G X W (.BinOp x .FloorDiv y pos) (mBin pFd ma mb) := se_op op_fdivW prim_fd ha hb
theorem e_md (ha : SE G X W x ma) (hb : SE G X W y mb) : SE G X W (.BinOp x .Mod y pos) (mBin pMd ma mb) := se_op op_mod prim_md ha hb
theorem e_pw (ha : SE G X W x ma) (hb : SE G X W y mb) : SE G X W (.BinOp x .Pow y pos) (mBin pPw ma mb) := se_op op_pow prim_pw ha hb
theorem e_ix (hK : X.K = G.K) (ha : SE G X W x ma) (hb : SE G X W y mb) (hs : PlainIx y := by intro _ _; rfl) : SE G X W (.Subscript x y pos) (mBin pIdx ma mb) := se_ix (hK ▸ ix_seq) prim_idx ha hb hs
section
variable {np apos : Pos}
theorem e_len (hK : X.K = G.K) (hm : X.mg "len" = none) (ha : SE G X W x ma) (hg : Gl X "len" := by rfl) (he : starEach [x] X.env = (false, eval x X.env) :: starEach [] X.env := by rfl) (hpl : (backTo pos (starEach [] X.env)).any (·.1) = false := by rfl) : SE G X W (.Call (.Name "len" np) [x] [] pos) (mApp pLen (mCons ma mNil)) :=
  se_callB (hK ▸ call_lenAll) primC_len hm (by decide +kernel) (sa_cons ha sa_nil he) hg (by decide) (by decide) he hpl
theorem e_list (hK : X.K = G.K) (hm : X.mg "list" = none) (ha : SE G X W x ma) (hg : Gl X "list" := by rfl) (he : starEach [x] X.env = (false, eval x X.env) :: starEach [] X.env := by rfl) (hpl : (backTo pos (starEach [] X.env)).any (·.1) = false := by rfl) : SE G X W (.Call (.Name "list" np) [x] [] pos) (mApp pList (mCons ma mNil)) :=
  se_callTy (hK ▸ call_list_of) primC_list hm (by decide +kernel) (sa_cons ha sa_nil he) hg (by decide) (by decide) he hpl
theorem e_tuple (hK : X.K = G.K) (hm : X.mg "tuple" = none) (ha : SE G X W x ma) (hg : Gl X "tuple" := by rfl) (he : starEach [x] X.env = (false, eval x X.env) :: starEach [] X.env := by rfl) (hpl : (backTo pos (starEach [] X.env)).any (·.1) = false := by rfl) : SE G X W (.Call (.Name "tuple" np) [x] [] pos) (mApp pTuple (mCons ma mNil)) :=
  se_callTy (hK ▸ call_tuple_of) primC_tuple hm (by decide +kernel) (sa_cons ha sa_nil he) hg (by decide) (by decide) he hpl
theorem e_int (hm : X.mg "int" = none) (ha : SE G X W x ma) (hg : Gl X "int" := by rfl) (he : starEach [x] X.env = (false, eval x X.env) :: starEach [] X.env := by rfl) (hpl : (backTo pos (starEach [] X.env)).any (·.1) = false := by rfl) : SE G X W (.Call (.Name "int" np) [x] [] pos) (mApp pInt1 (mCons ma mNil)) :=
  se_callTy call_int1 primC_int hm (by decide +kernel) (sa_cons ha sa_nil he) hg (by decide) (by decide) he hpl
theorem e_max (hK : X.K = G.K) (hc : X.calm = true) (hm : X.mg "max" = none) (ha : SA G X W (x :: xs) ms) (hg : Gl X "max" := by rfl) (he : starEach (x :: xs) X.env = (false, eval x X.env) :: starEach xs X.env := by rfl) (hpl : (backTo pos (starEach xs X.env)).any (·.1) = false := by rfl) : SE G X W (.Call (.Name "max" np) (x :: xs) [] pos) (mApp (pMM maxI) ms) :=
  se_callB (hK ▸ call_maxAll hc) primC_max hm (by decide +kernel) ha hg (by decide) (by decide) he hpl
theorem e_min (hK : X.K = G.K) (hc : X.calm = true) (hm : X.mg "min" = none) (ha : SA G X W (x :: xs) ms) (hg : Gl X "min" := by rfl) (he : starEach (x :: xs) X.env = (false, eval x X.env) :: starEach xs X.env := by rfl) (hpl : (backTo pos (starEach xs X.env)).any (·.1) = false := by rfl) : SE G X W (.Call (.Name "min" np) (x :: xs) [] pos) (mApp (pMM minI) ms) :=
  se_callB (hK ▸ call_minAll hc) primC_min hm (by decide +kernel) ha hg (by decide) (by decide) he hpl
theorem e_all (hK : X.K = G.K) (hc : X.calm = true) (hm : X.mg "all" = none) (ha : SE G X W x ma) (hg : Gl X "all" := by rfl) (he : starEach [x] X.env = (false, eval x X.env) :: starEach [] X.env := by rfl) (hpl : (backTo pos (starEach [] X.env)).any (·.1) = false := by rfl) : SE G X W (.Call (.Name "all" np) [x] [] pos) (mApp (pAA fun bs => bs.all id) (mCons ma mNil)) :=
  se_callB (hK ▸ cr_all hc) primC_aa hm (by decide +kernel) (sa_cons ha sa_nil he) hg (by decide) (by decide) he hpl
theorem e_any (hK : X.K = G.K) (hc : X.calm = true) (hm : X.mg "any" = none) (ha : SE G X W x ma) (hg : Gl X "any" := by rfl) (he : starEach [x] X.env = (false, eval x X.env) :: starEach [] X.env := by rfl) (hpl : (backTo pos (starEach [] X.env)).any (·.1) = false := by rfl) : SE G X W (.Call (.Name "any" np) [x] [] pos) (mApp (pAA fun bs => bs.any id) (mCons ma mNil)) :=
  se_callB (hK ▸ cr_any hc) primC_aa hm (by decide +kernel) (sa_cons ha sa_nil he) hg (by decide) (by decide) he hpl
theorem e_repr (hK : X.K = G.K) (hgd : X.A.guards = some []) (hr : Room k X.A) (hm : X.mg "repr" = none) (ha : SE G X W x ma) (hg : Gl X "repr" := by rfl) (he : starEach [x] X.env = (false, eval x X.env) :: starEach [] X.env := by rfl) (hpl : (backTo pos (starEach [] X.env)).any (·.1) = false := by rfl) : SE G X W (.Call (.Name "repr" np) [x] [] pos) (mApp pRepr (mCons ma mNil)) :=
  se_callB (hK ▸ call_repr hgd (hu200 hr)) primC_repr hm (by decide +kernel) (sa_cons ha sa_nil he) hg (by decide) (by decide) he hpl
theorem e_append (hK : X.K = G.K) (ho : SE G X W z ma) (ha : SE G X W x mb)
    (hbase : attributeBase z "append" X.env (eval z X.env) = eval z X.env := by rfl)
    (hfew : ((backTo pos (starEach [x] X.env)).all (fun x => !x.1) && (backToKw pos (keywordEach [] X.env)).all (fun x => x.1.isSome)
      && decide (([x] : List Expr).length + ([] : List Keyword).length + (if ([] : List Keyword).isEmpty then 0 else 1) < 30)) = true := by rfl)
    (hline : (apos.endLine == pos.line) = true := by rfl) (hs : starEach [x] X.env = (false, eval x X.env) :: starEach [] X.env := by rfl) (hplain : (backTo pos (starEach [] X.env)).any (·.1) = false := by rfl) : SE G X W (.Call (.Attribute z "append" apos) [x] [] pos) (mMethL pAppend ma (mCons mb mNil)) :=
  se_methL PySem.F.slot_list_append PySem.F.type_list_append mt_append primM_append hK ho (sa_cons ha sa_nil hs) hbase hfew hline hs hplain
theorem e_extend (hK : X.K = G.K) (ho : SE G X W z ma) (ha : SE G X W x mb)
    (hbase : attributeBase z "extend" X.env (eval z X.env) = eval z X.env := by rfl)
    (hfew : ((backTo pos (starEach [x] X.env)).all (fun x => !x.1) && (backToKw pos (keywordEach [] X.env)).all (fun x => x.1.isSome)
      && decide (([x] : List Expr).length + ([] : List Keyword).length + (if ([] : List Keyword).isEmpty then 0 else 1) < 30)) = true := by rfl)
    (hline : (apos.endLine == pos.line) = true := by rfl) (hs : starEach [x] X.env = (false, eval x X.env) :: starEach [] X.env := by rfl) (hplain : (backTo pos (starEach [] X.env)).any (·.1) = false := by rfl) : SE G X W (.Call (.Attribute z "extend" apos) [x] [] pos) (mMethL pExtendA ma (mCons mb mNil)) :=
  se_methL PySem.F.slot_list_extend PySem.F.type_list_extend (hK ▸ mt_extendA) primM_extendA hK ho (sa_cons ha sa_nil hs) hbase hfew hline hs hplain
theorem e_pop (hK : X.K = G.K) (ho : SE G X W z ma) (hbase : attributeBase z "pop" X.env (eval z X.env) = eval z X.env := by rfl) (hline : (apos.endLine == pos.line) = true := by rfl) : SE G X W (.Call (.Attribute z "pop" apos) [] [] pos) (mMethL0 pPop ma) :=
  se_methL0 PySem.F.slot_list_pop PySem.F.type_list_pop mt_pop primM_pop hK ho hbase hline
theorem e_isascii (ho : SE G X W z ma) (hbase : attributeBase z "isascii" X.env (eval z X.env) = eval z X.env := by rfl) (hline : (apos.endLine == pos.line) = true := by rfl) : SE G X W (.Call (.Attribute z "isascii" apos) [] [] pos) (mUn (pStrT Txt.isascii) ma) :=
  se_strT PySem.F.slot_str_isascii PySem.F.type_str_isascii mt_isascii ho hbase hline
theorem e_isalpha (ho : SE G X W z ma) (hbase : attributeBase z "isalpha" X.env (eval z X.env) = eval z X.env := by rfl) (hline : (apos.endLine == pos.line) = true := by rfl) : SE G X W (.Call (.Attribute z "isalpha" apos) [] [] pos) (mUn (pStrT Txt.isalpha) ma) :=
  se_strT PySem.F.slot_str_isalpha PySem.F.type_str_isalpha mt_isalpha ho hbase hline
theorem e_islower (ho : SE G X W z ma) (hbase : attributeBase z "islower" X.env (eval z X.env) = eval z X.env := by rfl) (hline : (apos.endLine == pos.line) = true := by rfl) : SE G X W (.Call (.Attribute z "islower" apos) [] [] pos) (mUn (pStrT Txt.islower) ma) :=
  se_strT PySem.F.slot_str_islower PySem.F.type_str_islower mt_islower ho hbase hline
/-- x += a number -/
theorem s_iadd (i : Nat) {n : Str} {pos' : Pos} (hN : X.N.Nodup) (ha : SE G X W x ma) (hi : X.N[i]? = some n := by rfl) (hx : Loc X.env.scope n := by first | exact Or.inl rfl | exact Or.inr rfl) (hd : (n == ("__debug__" : Str)) = false := by decide) (hcd : (n == ("__classdict__" : Str)) = false := by decide) :
    True := trivial
end
/-! the class as a value -/
theorem cls_ty {n : Str} {T : String} {p : Pos} (hg : Gl X n) (hm : X.mg n = none) (hv : bootBuiltins n = some (.type T)) (hn : n ≠ "__name__" := by decide) (hd : (n == ("__debug__" : Str)) = false := by decide) : PE X (.Name n p) (tC (.ty T)) := pe_bltn hg hm hv rfl hn hd
theorem cls_own {n : Str} {C : Addr} {p : Pos} (hg : Gl X n) (hm : X.mg n = some (.ref C)) (hd : (n == ("__debug__" : Str)) = false := by decide) : PE X (.Name n p) (tC (.ref C)) := pe_glob hg hm rfl hd
end
end L2.Lv
end
section
set_option maxRecDepth 100000
set_option maxHeartbeats 4000000
set_option autoImplicit false
namespace L2.Lv
open PySem PySem.Spec PyProof.Rows
def clsBody : Stmt → List Stmt
  | .ClassDef (body := b) .. => b
  | _ => []
section
variable {G : Gx} {X : Cx} {W : WX} {x : Expr} {pos : Pos}
theorem se_globI {i : Int} {n : Str} (h : ∃ t, X.mg n = some (.int i t)) (hg : Gl X n := by rfl) (hd : (n == ("__debug__" : Str)) = false := by decide) : SE G X W (.Name n pos) (mC (.int i)) := by
  obtain ⟨t, h⟩ := h
  exact se_glob (v := .int i) h ⟨t, rfl⟩ (fun _ _ => .int i) hg hd
theorem sg_more {m : MG} {vs ws : List Nat} (h : SG G X x m vs) (hs : ∀ i ∈ vs, i ∈ ws := by decide) : SG G X x m ws :=
  ⟨pg_imp h.pg fun v σ H Q ⟨r, hm, e, d, e', s, en, rd, em, k⟩ => ⟨r, hm, e, d, e', s, en, rd, em, fun σ' en' ch => k σ' en' (ch.mono hs)⟩⟩
end
def blkB (N : List Str) (sc scope : Scope) (own : List (Str × Nat)) : Bool :=
  decide (scope.kind = .function) && scope.names.all (fun y => decide (scope.names.lookup y.1 = some y.2)) && own.all (fun p => decide (N[p.2]? = some p.1)) &&
  scope.names.all (fun y => !decide (y.2 = .free) || decide (sc.names.lookup y.1 = some .cell) || decide (sc.names.lookup y.1 = some .free)) &&
  scope.names.all (fun y => !(decide (y.2 = .local) || decide (y.2 = .cell)) || decide (y.1 ∈ own.map (·.1)) || !decide (y.1 ∈ N))
theorem blk_by {N : List Str} {sc scope : Scope} {own : List (Str × Nat)} (h : blkB N sc scope own = true) : BlkOk N sc scope own := by
  unfold blkB at h
  simp only [Bool.and_eq_true, List.all_eq_true, Bool.or_eq_true, decide_eq_true_eq, Bool.not_eq_true', decide_eq_false_iff_not, Bool.or_eq_false_iff] at h
  obtain ⟨⟨⟨⟨h1, h2⟩, h3⟩, h4⟩, h5⟩ := h
  refine ⟨h1, h2, h3, fun y hy e => ?_, fun y hy e => ?_⟩
  · rcases h4 y hy with (q | q) | q
    · exact absurd e q
    · exact .inl q
    · exact .inr q
  · rcases h5 y hy with (q | q) | q
    · rcases e with e | e
      · exact absurd e q.1
      · exact absurd e q.2
    · exact .inl q
    · exact .inr q
/-! a def of our own that knows its code's value and the guards -/
section
variable {P : Program} {w : World} {K : PySem.W.Frag} {mg : Str → Option Value} {base : Heap} {G : Gx}
theorem fn_okC {x qual : Str} {st : Stmt} {f : Addr} {fd : FuncData} {N ps : List Str} {k : Nat} {b : MS} (F : Fun K x qual st f fd) (S : FnScope N ps (defScope st))
    (hb : ∀ (cdv : Value) (A : Around) (outer : List Env) (s : Shared) (H : Hp) (E : XK), fd.code = cdv → A.guards = some [] → Room k (A.deeper (envOfC qual (defScope st) s.heap.objs.size f cdv)) →
      SSs G (cxOf (L2.CX P w) P w K mg base N qual (defScope st) f cdv A outer s H E) (fun c d _ H' => E c d H') (defBody st) b) : FnG P w K mg base (L2.CX P w) (k + 1) f fd ps (spM G (mBody ps.length N.length b)) := by
  obtain ⟨oc, od, kV, doc, pm, an, cdv, ct, osl, rfl, lk, hcd⟩ := F.ex
  have hlen : ∀ vs H Q E, spM G (mBody ps.length N.length b) vs H Q E → vs.length = ps.length := fun vs H Q E h => by
    obtain ⟨r, hm, ds, sm, rp, p⟩ := h
    unfold mBody at p
    split at p
    · rename_i c
      rw [← rp.length]
      exact c
    · exact p.elim
  refine ⟨hlen, fun A outer s H args us vs Q E hr hg e0 hbd rv h => ?_⟩
  refine LamX.run_ofS lk hcd S hr e0 hbd rv (hlen _ _ _ _ h) fun hr' => ⟨_, (hb cdv A outer s H E rfl hg hr').pss, ?_⟩
  obtain ⟨r, hm, ds, sm, rp, p⟩ := h
  refine ⟨r, hm, startE N.length ds, sm, ?_, ?_⟩
  · have l := rp.length
    unfold startE start
    rw [l]
    exact start_en rp _
  · unfold mBody at p
    split at p
    · unfold mRun at p
      cases q : b (startE N.length ds) hm with
      | nx e' h' => rw [q] at p; exact fun σ' H' r' g s' _ => p .non H' r' g s' .non
      | rt d h' => rw [q] at p; exact p
      | ex c d e' h' => rw [q] at p; exact fun v σ' H' r' dd g s' _ rv hd => p v H' r' dd g s' rv hd
      | bk e' h' => rw [q] at p; exact p.elim
      | ct e' h' => rw [q] at p; exact p.elim
      | no => rw [q] at p; exact p.elim
    · exact p.elim
end
end L2.Lv
end
section
set_option maxRecDepth 100000
set_option maxHeartbeats 4000000
set_option autoImplicit false
namespace L2.Lv
open PySem PySem.Spec PyProof.Rows

/-! ### the end: a law's def that knows of no guard, with tables of code -/
section
variable {P : Program} {w : World} {K : PySem.W.Frag} {mg mb : Str → Option Value} {CX : CXT} {k : Nat} {fa a : Addr} {cs : List (Addr × Addr)} {fd : FuncData} {x : Str} {sp : Sp} {s₁ : Shared} {vs : List Value} {ns : List Int}
/-- the empty table -/
abbrev tab0 : Obj := { cls := .none, data := .fields #[] }
/-- nothing is tracked but the script's list (where it is no written object) and the tables -/
structure Bare (K : PySem.W.Frag) (h : Heap) (H : Hp) (a : Addr) (ts : List Addr) (vs : List Value) : Prop where
  scr : h.get? a = some { cls := .type "list", data := .seq vs.toArray }
  tab : ∀ b ∈ ts, h.get? b = some tab0
  tof : ∀ b ∈ ts, H b = some (.tbl #[])
  what : ∀ b, H b = none ∨ b ∈ ts ∨ (b = a ∧ K.lookup a = none ∧ ∃ o xs, H b = some (.frz o (.lst xs)))
theorem Bare.loose {h : Heap} {H : Hp} {ts : List Addr} (B : Bare K h H a ts vs) {b : Addr} {o : Obj} (e : h.get? b = some o) (h1 : ∀ n l, o.data ≠ .seq n l) (h2 : o.data ≠ .fields #[]) : H b = none := by
  rcases B.what b with q | q | ⟨q, _⟩
  · exact q
  · have z := B.tab b q
    rw [e] at z
    cases z
    exact absurd rfl h2
  · subst q
    have z := B.scr
    rw [e] at z
    cases z
    exact absurd rfl (h1 _ _)
theorem Bare.dict {h : Heap} {H : Hp} {ts : List Addr} (B : Bare K h H a ts vs) {b : Addr} {o : Obj} {es : Array DictEntry} {ep : Nat} (e : h.get? b = some o) (d : o.data = .dict es ep) : H b = none :=
  B.loose e (fun _ _ z => by rw [d] at z; cases z) fun z => by rw [d] at z; cases z
theorem Bare.nsp {h : Heap} {H : Hp} {ts : List Addr} (B : Bare K h H a ts vs) {b : Addr} {m : Str → Option Value} (q : h.Ns b m) : (hidT h H).Ns b m := by
  obtain ⟨o, es, ep, e, d, r⟩ := q
  exact ⟨o, es, ep, hidT_get e (B.dict e d), d, r⟩
theorem Bare.kin {h : Heap} {H : Hp} {ts : List Addr} (B : Bare K h H a ts vs) (KX : K.In h) (nT : ∀ b ∈ ts, K.lookup b = none) : K.In (hidT h H) := fun b o e => by
  refine hidT_get (KX b o e) ?_
  rcases B.what b with q | q | ⟨q, q2, _⟩
  · exact q
  · rw [nT b q] at e
    cases e
  · rw [q, q2] at e
    cases e
theorem run_lawG {H : Hp} (KX : K.In s₁.heap) (hns : s₁.heap.Ns mainGlobals mg) (hb : s₁.heap.Ns builtinsNs mb) (hbb : ∀ x : Str, x ≠ "__name__" → mb x = bootBuiltins x) (hlim : s₁.heap.NoLimit) (hg : s₁.gens = #[])
    (nT : ∀ b ∈ cs.map (·.2), K.lookup b = none) (C : ∀ p ∈ cs, PySem.W.CodeHd s₁.heap p.1 p.2) (B : Bare K s₁.heap H a (cs.map (·.2)) vs) (hok : HOk P w H s₁.heap)
    (hbm : ∃ (bm : Addr) (ob : Obj), mg "__builtins__" = some (.ref bm) ∧ bm ≠ builtinsNs ∧ s₁.heap.get? bm = some ob ∧ ob.cls = .type "module" ∧ ob.dict = some builtinsNs ∧ ob.data = .plain) (hr : Room k callerA)
    (F : ∀ base : Heap, K.In base → base.Ns mainGlobals mg → (∀ p ∈ cs, LamX.TabB base mg p.1 p.2) → FnG P w K mg base CX k fa fd [x] sp) (hbind : ∀ (s : Shared) (u : Value), BindsTo s fd ⟨[u], []⟩ [(x, u)])
    (hsp : sp [.ref a] H (fun v _ => v = .bl true) never) (hCX : ∀ H e s', CX [] H s₁ never e s' → False) :
    codeAny (model P w) callerA (.call (.ref fa) ⟨[.ref a], []⟩) (fun r s' => r = .ok (.ret (.bool true)) ∧ OldK s₁.heap s'.heap ∧ s'.os = s₁.os ∧ AllBare s'.gens) s₁ := by
  have inT : ∀ p ∈ cs, p.2 ∈ cs.map (·.2) := fun p hp => List.mem_map.mpr ⟨p, hp, rfl⟩
  have base1 : K.In (hidT s₁.heap H) := B.kin KX nT
  have md : L2.Mod K mg (hidT s₁.heap H) := by
    refine ⟨base1, B.nsp hns, ⟨mb, B.nsp hb, hbb⟩, ?_⟩
    obtain ⟨mc, h1, h2⟩ := hlim
    exact ⟨mc, B.nsp h1, h2⟩
  have tbs : ∀ p ∈ cs, LamX.TabB (hidT s₁.heap H) mg p.1 p.2 := fun p hp => by
    have at0 := B.tab p.2 (inT p hp)
    obtain ⟨bm, ob, b1, b2, b3, b4, b5, b6⟩ := hbm
    have notG : ∀ {q : Addr} {m : Str → Option Value}, s₁.heap.Ns q m → q ≠ p.2 := fun {q m} z e => by
      obtain ⟨o, es, ep, e1, d, _⟩ := z
      rw [e, at0] at e1
      cases e1
      cases d
    refine ⟨?_, ⟨bm, ob, b1, b2, fun e => ?_, fun e => ?_, hidT_get b3 (B.loose b3 (fun _ _ z => by rw [b6] at z; cases z) fun z => by rw [b6] at z; cases z), b4, b5, b6⟩, notG hns⟩
    · obtain ⟨o, us, file, tf, fl, tg, inF, tx, tt, e1, r1, r2, r3, rest⟩ := C p hp
      refine ⟨o, us, file, tf, fl, tg, inF, tx, tt, hidT_get e1 (B.loose e1 (fun _ _ z => by rw [r2] at z; cases z) fun z => ?_), r1, r2, r3, rest⟩
      rw [r2] at z
      cases z
      simp at r3
    · obtain ⟨o, es, ep, e1, d, _⟩ := hns
      rw [e, e1] at b3
      cases b3
      rw [b6] at d
      cases d
    · rw [e, at0] at b3
      cases b3
      cases b6
  have env : Env0 P w K mg (hidT s₁.heap H) callerA [] s₁ H :=
    ⟨rfl, md, fun b o e => of_hidT e, Nat.le_of_eq (hidT_size _ _), trivial, fun b z => absurd (show b ∈ ([] : List Addr) from z) (by simp), hok, .of_eq hg⟩
  refine codeAny_mono ((F _ base1 (B.nsp hns) tbs).run callerA [] s₁ H ⟨[.ref a], []⟩ [.ref a] [.ref a] _ never hr rfl env (hbind s₁ (.ref a)) (.cons rfl .nil) hsp) fun r s' q => ?_
  match r, q with
  | .error e, q => exact (hCX H e s' q).elim
  | .ok (.ret u), ⟨v, H', os, bare, un, hok', rv, ev⟩ =>
    have ev : v = .bl true := ev
    subst ev
    obtain rfl : u = Value.bool true := rv
    have stay : ∀ b o, b ∉ cs.map (·.2) → s₁.heap.get? b = some o → s'.heap.get? b = some o := fun b o nb e => by
      rcases B.what b with z | z | ⟨_, _, o1, xs, z⟩
      · exact un.keep b o e z (fun m => absurd (show b ∈ ([] : List Addr) from m) (by simp)) (by simp)
      · exact absurd z nb
      · obtain ⟨e1, _⟩ := hok b _ z
        obtain ⟨e2, _⟩ := hok' b _ (un.frzs b o1 _ z)
        rw [e] at e1
        cases e1
        exact e2
    have more : ∀ b ∈ cs.map (·.2), ∃ m : Array Value, s'.heap.get? b = some { cls := .none, data := .fields m } := fun b hb => by
      obtain ⟨m, z⟩ := un.tbls b #[] (B.tof b hb)
      exact ⟨_, hok' b _ z⟩
    refine ⟨rfl, ⟨fun b o e => ?_, fun b o e => ?_⟩, os, bare⟩
    · by_cases hb : b ∈ cs.map (·.2)
      · obtain ⟨p, hp, rfl⟩ := List.mem_map.mp hb
        obtain ⟨m, hm⟩ := more p.2 hb
        rw [B.tab _ hb] at e
        cases e
        exact .inr (.inl ⟨((C p hp).tab (B.tab _ hb)).isCodeTable, rfl, #[], m, rfl, by rw [Array.empty_append]; exact hm⟩)
      · exact .inl (stay b o hb e)
    · by_cases hb : b ∈ cs.map (·.2)
      · obtain ⟨m, hm⟩ := more b hb
        exact ⟨_, hm⟩
      · exact ⟨o, stay b o hb e⟩
  | .ok .next, q => exact False.elim q
  | .ok .brk, q => exact False.elim q
  | .ok .cont, q => exact False.elim q
/-- the start: the script's list is frozen, or written; the tables are empty -/
theorem call_lawG (KX : K.In s₁.heap) (hns : s₁.heap.Ns mainGlobals mg) (hb : s₁.heap.Ns builtinsNs mb) (hbb : ∀ x : Str, x ≠ "__name__" → mb x = bootBuiltins x) (hlim : s₁.heap.NoLimit) (hg : s₁.gens = #[])
    (hT : ∀ b ∈ cs.map (·.2), s₁.heap.get? b = some tab0) (nT : ∀ b ∈ cs.map (·.2), K.lookup b = none) (C : ∀ p ∈ cs, PySem.W.CodeHd s₁.heap p.1 p.2)
    (hbm : ∃ (bm : Addr) (ob : Obj), mg "__builtins__" = some (.ref bm) ∧ bm ≠ builtinsNs ∧ s₁.heap.get? bm = some ob ∧ ob.cls = .type "module" ∧ ob.dict = some builtinsNs ∧ ob.data = .plain)
    (ha : s₁.heap.get? a = some { cls := .type "list", data := .seq vs.toArray }) (hi : IntsAre vs ns) (hl : ns.length ≤ sizeLine) (hr : Room k callerA)
    (F : ∀ base : Heap, K.In base → base.Ns mainGlobals mg → (∀ p ∈ cs, LamX.TabB base mg p.1 p.2) → FnG P w K mg base CX k fa fd [x] sp) (hbind : ∀ (s : Shared) (u : Value), BindsTo s fd ⟨[u], []⟩ [(x, u)])
    (nl : ∀ b o, K.lookup b = some o → o.cls ≠ .type "list") (hsp : ∀ (H : Hp) (o : Obj), (∀ b ∈ cs.map (·.2), H b = some (.tbl #[])) → H a = some (.frz o (.lst (ns.map V.int))) → sp [.ref a] H (fun v _ => v = .bl true) never) (hCX : ∀ H e s', CX [] H s₁ never e s' → False) :
    codeAny (model P w) callerA (.call (.ref fa) ⟨[.ref a], []⟩) (fun r s' => r = .ok (.ret (.bool true)) ∧ OldK s₁.heap s'.heap ∧ s'.os = s₁.os ∧ AllBare s'.gens) s₁ := by
  have rv := vals_ints hi
  have lenV := hi.length
  have aT : a ∉ cs.map (·.2) := fun z => by
    have q := hT a z
    rw [ha] at q
    cases q
  have tb : ∀ b ∈ cs.map (·.2), ObjOk P w (fun _ => none) s₁.heap b (.tbl #[]) := fun b z => hT b z
  cases hk : K.lookup a with
  | some o =>
    have e := KX a o hk
    rw [ha] at e
    cases e
    exact absurd rfl (nl a _ hk)
  | none =>
    let H : Hp := fun b => if b = a then some (.frz { cls := .type "list", data := .seq vs.toArray } (.lst (ns.map V.int))) else if b ∈ cs.map (·.2) then some (.tbl #[]) else none
    have ea : H a = some (.frz { cls := .type "list", data := .seq vs.toArray } (.lst (ns.map V.int))) := if_pos rfl
    have h1 : ∀ b ∈ cs.map (·.2), H b = some (.tbl #[]) := fun b z => (if_neg fun (e : b = a) => aT (by rw [← e]; exact z)).trans (if_pos z)
    refine run_lawG (H := H) KX hns hb hbb hlim hg nT C ⟨ha, hT, h1, fun b => ?_⟩ (fun b u z => ?_) hbm hr F hbind (hsp H _ h1 ea) hCX
    · by_cases q : b = a
      · exact .inr (.inr ⟨q, hk, _, _, by rw [q]; exact ea⟩)
      · by_cases z : b ∈ cs.map (·.2)
        · exact .inr (.inl z)
        · exact .inl ((if_neg q).trans (if_neg z))
    · by_cases q : b = a
      · subst q
        rw [ea] at z
        cases z
        exact ⟨ha, by rw [List.length_map]; exact hl, vs, _, rv, ha⟩
      · by_cases q2 : b ∈ cs.map (·.2)
        · rw [h1 b q2] at z
          cases z
          exact hT b q2
        · have z0 : H b = none := (if_neg q).trans (if_neg q2)
          rw [z0] at z
          cases z
end
/-- what is known of the law's def at the head's heap -/
def LawG (l : PySem.W.OpenLaw) (w : World) (K : PySem.W.Frag) (CX : CXT) (k n : Nat) (x : Str) (mg : Str → Option Value) (fa : Addr) (h : Heap) : Prop :=
  ∃ (fd : FuncData) (cs : List (Addr × Addr)) (sp : Sp), (∀ b ∈ cs.map (·.2), h.get? b = some tab0) ∧ (∀ b ∈ cs.map (·.2), K.lookup b = none) ∧ (∀ p ∈ cs, PySem.W.CodeHd h p.1 p.2) ∧ (∀ (s : Shared) (u : Value), BindsTo s fd ⟨[u], []⟩ [(x, u)]) ∧
    (∀ b o, K.lookup b = some o → o.cls ≠ .type "list") ∧ (∀ (H : Hp) (a : Addr) (o : Obj) (ns : List Int), ns.length ≤ n → (∀ z ∈ ns, Builtin.Int.intBits z ≤ 1048576) → (∀ b ∈ cs.map (·.2), H b = some (.tbl #[])) → H a = some (.frz o (.lst (ns.map V.int))) → sp [.ref a] H (fun v _ => v = .bl true) never) ∧
    ∀ base : Heap, K.In base → base.Ns mainGlobals mg → (∀ p ∈ cs, LamX.TabB base mg p.1 p.2) → FnG l.prog w K mg base CX k fa fd [x] sp
theorem walkG {l : PySem.W.OpenLaw} {n k : Nat} {q : Program} {loose : List Str} {XP : (Str → Option Value) → Heap → Prop} {YP : World → Heap → Prop} {d : DefRec} {K : Params → PySem.W.Frag} {CX : World → CXT} {x : Str}
    (hn : l.most = some n) (hn2 : n ≤ sizeLine) (hdf : d.params.defaults = []) (hr : Room k callerA) (hrec : ((recsOf q).any fun e => e.name == d.name) = true) (hY : ∀ (w : World) (h : Heap), YP w h → (K w.params).In h)
    (F : ∀ (w : World) (mg : Str → Option Value) (fa : Addr) (h : Heap), YP w h → (K w.params).In h → h.Ns mainGlobals mg → mg d.name = some (.ref fa) → LamX.OwnTab (K w.params) fa h → LawG l w (K w.params) (CX w) k n x mg fa h)
    (hCX : ∀ (w : World) (H : Hp) (s : Shared) (e : Value) (s' : Shared), CX w [] H s never e s' → False) :
    PySem.W.WalkO q loose XP YP l.row.toRowW d [] (fun f vs => PySem.call f vs) := by
  refine Att.attach_callB hn hdf fun w s₀ s₁ mg mb fa o pm cd doc a vs ns Gh Y ho hd hcd hmg hobj hints hlen hbits hg => ?_
  have KX := hY w _ Y
  have own : LamX.OwnTab (K w.params) fa s₁.heap := fun c Pt o1 fd1 e dd vs1 sl k1 k2 k3 k4 k5 => by
    obtain ⟨dL, hm, hn1⟩ := List.any_eq_true.mp hrec
    have en : dL.name = d.name := beq_iff_eq.mp hn1
    obtain ⟨a', o', fd', c', P', h1, h2, h3, h4, _, ⟨oc, vc, e1, _, e3, e4⟩, hP⟩ := Gh.T.tab dL hm
    rw [en, hmg] at h1
    cases h1
    rw [KX _ _ k1] at h2
    cases h2
    rw [k2] at h3
    cases h3
    rw [k3] at h4
    cases h4
    rw [KX _ _ k4] at e1
    cases e1
    cases e3
    rw [k5] at e4
    cases e4
    exact hP
  obtain ⟨fd, cs, sp, hT, nT, C, hb, nl, hsp, hF⟩ := F w mg fa _ Y KX Gh.T.g hmg own
  exact call_lawG KX Gh.T.g Gh.T.b Gh.T.builtins Gh.T.nolimit hg hT nT C Gh.T.bmain hobj hints (Nat.le_trans hlen hn2) hr hF hb nl (fun H o h1 h2 => hsp H a o ns hlen hbits h1 h2) fun H e s' => hCX w H s₁ e s'
/-- no written object is a list -/
def noList (K : PySem.W.Frag) : Bool := K.all fun p => !(p.2.cls == .type "list")
theorem noList_at {K : PySem.W.Frag} (h : noList K = true) : ∀ b o, K.lookup b = some o → o.cls ≠ .type "list" := by
  intro b o e z
  have m : ∃ q ∈ K, q.2 = o := by
    clear h
    induction K with
    | nil => cases e
    | cons p r ih =>
      obtain ⟨p1, p2⟩ := p
      rw [List.lookup_cons] at e
      cases q : b == p1 with
      | true =>
        rw [q] at e
        exact ⟨(p1, p2), List.mem_cons_self, Option.some.inj e⟩
      | false =>
        rw [q] at e
        obtain ⟨q, hq, eq⟩ := ih e
        exact ⟨q, List.mem_cons_of_mem _ hq, eq⟩
  obtain ⟨q, hq, rfl⟩ := m
  have := List.all_eq_true.mp h q hq
  rw [z] at this
  simp at this
theorem exm_own {K : PySem.W.Frag} {S : Addr} (h1 : PySem.W.subIn K (.ref S) (.type "BaseException") = some true) (h2 : PySem.W.isClsIn K S = true) (h3 : PySem.W.typeIn K (.ref S) = some (.type "type")) (h4 : PySem.W.subIn K (.ref S) (.ref S) = some true) :
    PySem.W.exmOne K (.ref S) (.ref S) = some true := by
  have e2 : (PySem.W.clsIn K S).isSome = true := h2
  unfold PySem.W.exmOne
  rw [h1]
  show PySem.W.kitCls K (.ref S) (.ref S) = some true
  unfold PySem.W.kitCls
  dsimp only
  rw [e2, h3]
  exact h4
theorem kit_sub {K : PySem.W.Frag} {t : Value} {T : String} {b : Bool} (h : PySem.W.subIn K t (.type T) = some b) (hm : PySem.W.kitMeta T = true) (hne : (t == .type T) = false) : PySem.W.kitOne K t (.type T) = some b := by
  unfold PySem.W.kitOne
  rw [hne]
  unfold PySem.W.kitCls
  dsimp only
  rw [hm]
  exact h
theorem kit_cls {K : PySem.W.Frag} {t : Value} {C : Addr} {b : Bool} (h : PySem.W.subIn K t (.ref C) = some b) (h2 : PySem.W.isClsIn K C = true) (h3 : PySem.W.typeIn K (.ref C) = some (.type "type")) (hne : (t == .ref C) = false) : PySem.W.kitOne K t (.ref C) = some b := by
  have e2 : (PySem.W.clsIn K C).isSome = true := h2
  unfold PySem.W.kitOne
  rw [hne]
  unfold PySem.W.kitCls
  dsimp only
  rw [e2, h3]
  exact h
theorem kit_self {K : PySem.W.Frag} {C : Addr} : PySem.W.kitOne K (.ref C) (.ref C) = some true := by
  unfold PySem.W.kitOne
  rw [show (Value.ref C == Value.ref C) = true from by simp]
  rfl
/-- the law's one argument: the script's list, frozen; nothing else is at hand -/
theorem start_law {G : Gx} {H : Hp} {a : Addr} {o : Obj} {ns : List Int} {m : List D → Hm → Re D} (ha : H a = some (.frz o (.lst (ns.map V.int)))) (ht : LamX.Tabs G.T H) (hm : ∃ h', m [.ref 0] [.frz (ns.map D.int)] = .ok (.bl true) h') :
    spM G m [.ref a] H (fun v _ => v = .bl true) never := by
  have rp : Reps G [a] H (ns.map D.int) (ns.map V.int) := by
    induction ns with
    | nil => exact .nil
    | cons n ns ih =>
      clear ha hm
      rw [List.map_cons, List.map_cons]
      refine .cons (.int n) ?_
      clear ih
      induction ns with
      | nil => exact .nil
      | cons n ns ih => exact .cons (.int n) ih
  refine ⟨[a], [.frz (ns.map D.int)], [.ref 0], ⟨rfl, by simp, fun n ob b e1 e2 => ?_, ht⟩, .cons (.ref rfl) .nil, ?_⟩
  · cases n with
    | succ n => simp at e1
    | zero =>
      have e1' : Ob.frz (ns.map D.int) = ob := by simpa using e1
      have e2' : a = b := by simpa using e2
      subst e1' e2'
      exact ⟨o, _, ha, rp⟩
  · obtain ⟨h', e⟩ := hm
    rw [e]
    intro v H' r' g s rv
    cases rv
    rfl
end L2.Lv
end
section
set_option maxRecDepth 100000
set_option maxHeartbeats 4000000
set_option autoImplicit false
namespace L2.Lv
open PySem PySem.Spec PyProof.Rows

/-! ### sets of texts -/
def tx (e : Int × Value) : Str := match e.2 with
  | .str z _ => z
  | _ => Str.empty
def GdT (P : Program) (w : World) (e : Int × Value) : Prop := ∃ z tk, e.2 = Value.str z tk ∧ e.1 = (strKind P w).hash z
/-- a set of texts at a, its members by M -/
def TSet (P : Program) (w : World) (h : Heap) (a : Addr) (M : Str → Bool) (n : Nat) : Prop := ∃ o es ep t,
  h.get? a = some o ∧ o.ExactSet ∧ o.data = .set es ep t ∧ (∀ y ∈ es.toList, GdT P w y) ∧ (es.toList.map tx).Nodup ∧
  (∀ z, M z = true ↔ z ∈ es.toList.map tx) ∧ es.size < scanBound ∧ t.fits es.size = true ∧ es.size = n ∧ Ris t.place.toList ∧ (w.params.followText "set-order" = true ∨ t.led = true)
section
variable {P : Program} {w : World} {h h' : Heap} {a : Addr} {M : Str → Bool} {n : Nat}
theorem TSet.at (r : TSet P w h a M n) (k : ∀ o, h.get? a = some o → h'.get? a = some o) : TSet P w h' a M n :=
  let ⟨o, es, ep, t, q, rest⟩ := r
  ⟨o, es, ep, t, k o q, rest⟩
theorem TSet.congr {M' : Str → Bool} (r : TSet P w h a M n) (e : ∀ z, M' z = M z) : TSet P w h a M' n := (funext e : M' = M) ▸ r
theorem gdt_elems {l : List (Int × Value)} (g : ∀ y ∈ l, GdT P w y) : ElemsOf (strKind P w) l := fun y hy => by
  obtain ⟨z, tk, e1, e2⟩ := g y hy
  refine ⟨⟨z, ?_, e2⟩, ?_⟩
  · rw [e1]; exact strKind_is P w z tk
  · rw [e1]; rfl
theorem gdt_is {y : Int × Value} (g : GdT P w y) (z : Str) : (strKind P w).is z y.2 = true ↔ tx y = z := by
  obtain ⟨u, tk, e1, -⟩ := g
  have own : (strKind P w).is u y.2 = true := by rw [e1]; exact strKind_is P w u tk
  have et : tx y = u := by unfold tx; rw [e1]
  rw [et]
  exact ⟨fun c => (strKind P w).inj _ _ _ own c, fun c => c ▸ own⟩
theorem gdt_mem {l : List (Int × Value)} (g : ∀ y ∈ l, GdT P w y) (z : Str) : z ∈ l.map tx ↔ ∃ y ∈ l, (strKind P w).is z y.2 = true := by
  rw [List.mem_map]
  exact ⟨fun ⟨y, hy, c⟩ => ⟨y, hy, (gdt_is (g y hy) z).mpr c⟩, fun ⟨y, hy, c⟩ => ⟨y, hy, (gdt_is (g y hy) z).mp c⟩⟩
end
section
variable {P : Program} {w : World} {A : Around} {E : Value → Shared → Prop} {s : Shared} {a : Addr} {M : Str → Bool} {n : Nat}
theorem tset_tail {gv : Bool → Sem Unit} (hgv : ∀ (b : Bool) (u : Shared) (Z : Unit → Shared → Prop), Z () u → wpAny (model P w) A (gv b) Z E u) {o : Obj} {es : Array (Int × Value)} {ep : Nat} {t : SetTable}
    (ho : s.heap.get? a = some o) (hx : o.ExactSet) (hd : o.data = .set es ep t) {fs : Array (Int × Value)} {v : SetTable} {N : Str → Bool} (g : ∀ y ∈ fs.toList, GdT P w y) (nd : (fs.toList.map tx).Nodup)
    (mm : ∀ z, N z = true ↔ z ∈ fs.toList.map tx) (hb : fs.size < scanBound) (hf : v.fits fs.size = true) (hr : Ris v.place.toList) (hl : w.params.followText "set-order" = true ∨ v.led = true) {wd : Bool} {Z : Option Bool → Shared → Prop}
    (k : ∀ h', Heap.SameBut a s.heap h' → TSet P w h' a N fs.size → Z (some true) { s with heap := h' }) :
    wpAny (model P w) A (do storeSet a fs v; if (!wd && v.tooFull) = true then do { gv (relayAll v fs (SetTable.grown fs.size)).2.2; storeSet a (relayAll v fs (SetTable.grown fs.size)).1 (relayAll v fs (SetTable.grown fs.size)).2.1; pure (some true) } else pure (some true)) Z E s := by
  refine wpAny_bind (wpAny_storeSet_of ho hd ?_ (fits_of_scanBound hb))
  have at1 := store_at (es' := fs) (t' := v) ho hd
  have same1 := Heap.SameBut.update s.heap a (Obj.putSet fs v)
  by_cases c : (!wd && v.tooFull) = true
  · rw [if_pos c]
    have q1 := relayAll_perm v fs (SetTable.grown fs.size)
    have q2 := relayAll_fits v fs (SetTable.grown fs.size)
    have q3 := relayAll_ris v fs (SetTable.grown fs.size)
    have q4 := relayAll_led v fs (SetTable.grown fs.size)
    revert q1 q2 q3 q4
    generalize relayAll v fs (SetTable.grown fs.size) = T3
    rcases T3 with ⟨gs, u, gave⟩
    dsimp only
    intro q1 q2 q3 q4
    have sz : gs.size = fs.size := by rw [← Array.length_toList, ← Array.length_toList]; exact q1.length_eq
    refine wpAny_bind (hgv _ _ _ (wpAny_bind (wpAny_storeSet_of at1 rfl ?_ (fits_of_scanBound (sz.symm ▸ hb)))))
    have at2 := store_at (es' := gs) (t' := u) at1 rfl
    refine wpAny_pure (k _ (same1.trans (Heap.SameBut.update _ a _)) ⟨_, gs, _, u, at2, hx, rfl, fun y hy => g y (q1.mem_iff.mp hy), (q1.map tx).nodup_iff.mpr nd, fun z => (mm z).trans (q1.map tx).mem_iff.symm, sz.symm ▸ hb, q2, sz, q3, ?_⟩)
    exact hl.imp id fun c => q4.trans c
  · rw [if_neg c]
    exact wpAny_pure (k _ same1 ⟨_, fs, _, v, at1, hx, rfl, g, nd, mm, hb, hf, rfl, hr, hl⟩)
theorem tset_add {z : Str} {tk : Tok} {Q : Bool → Shared → Prop} (r : TSet P w s.heap a M n) (room : n + 1 < scanBound)
    (k : ∀ h', Heap.SameBut a s.heap h' → TSet P w h' a (fun j => M j || decide (j = z)) (if M z = true then n else n + 1) → Q (!M z) { s with heap := h' }) :
    wpAny (model P w) A (setAddHashed a (.str z tk) ((strKind P w).hash z)) Q E s := by
  obtain ⟨o, es, ep, t, ho, hx, hd, g, nd, mm, hb, hf, hn, hr, hl⟩ := r
  have own : (strKind P w).is z (.str z tk) = true := strKind_is P w z tk
  have scn : (Value.str z tk).scannable = true := rfl
  have els : ElemsOf (strKind P w) es.toList := gdt_elems g
  unfold setAddHashed setAddHashedIn
  refine wpAny_holding (wpAny_bind (wpAny_setState_of ho hd hf ?_))
  dsimp only
  rw [byScan_of scn hb els, if_pos rfl]
  unfold setAddByScan
  refine wpAny_bind (wpAny_bind (wpAny_rule (wpAny_bind (wpAny_setScan_of own ho hd hf els ?_))))
  cases fnd : List.findIdx? (fun y => (strKind P w).is z y.2) es.toList with
  | some j =>
    dsimp only
    obtain ⟨lj, isj, -⟩ := List.findIdx?_eq_some_iff_getElem.mp fnd
    have Mz : M z = true := (mm z).mpr ((gdt_mem g z).mpr ⟨es.toList[j], List.getElem_mem lj, isj⟩)
    refine wpAny_pure (wpAny_pure ?_)
    have fin := k s.heap (Heap.SameBut.refl a s.heap) ⟨o, es, ep, t, ho, hx, hd, g, nd, fun i => ?_, hb, hf, by rw [if_pos Mz]; exact hn, hr, hl⟩
    · rwa [Mz] at fin
    · rw [Bool.or_eq_true, decide_eq_true_eq, ← mm i]
      exact ⟨fun c => c.elim id (fun c => c ▸ Mz), Or.inl⟩
  | none =>
    dsimp only
    have out : z ∉ es.toList.map tx := fun c => by
      obtain ⟨y, hy, q⟩ := (gdt_mem g z).mp c
      have := List.findIdx?_eq_none_iff.mp fnd y hy
      rw [q] at this
      cases this
    have Mz : M z = false := by
      cases q : M z with
      | false => rfl
      | true => exact absurd ((mm z).mp q) out
    have gw : ∀ (b : Bool) {u : Shared} {Z : Unit → Shared → Prop}, Z () u → wpAny (model P w) A (match b with | true => rule "set.scan.the-table-gave-way" | false => pure ()) Z E u := by
      intro b u Z q
      cases b
      · exact wpAny_pure q
      · exact wpAny_rule q
    have q1 := layNew_perm t es ((strKind P w).hash z) (.str z tk)
    have q2 := layNew_fits t es ((strKind P w).hash z) (.str z tk)
    have q3 := layNew_ris t es ((strKind P w).hash z) (.str z tk) hr
    have q4 := layNew_led t es ((strKind P w).hash z) (.str z tk)
    revert q1 q2 q3 q4
    generalize layNew t es ((strKind P w).hash z) (.str z tk) = T4
    rcases T4 with ⟨fs, v, wd, gave⟩
    dsimp only
    intro q1 q2 q3 q4
    rw [Array.toList_push] at q1
    have pc : fs.toList.Perm (((strKind P w).hash z, Value.str z tk) :: es.toList) := q1.trans (List.perm_append_singleton _ _)
    have pk : (fs.toList.map tx).Perm (z :: es.toList.map tx) := pc.map tx
    have g1 : ∀ y ∈ fs.toList, GdT P w y := fun y hy => by
      rcases List.mem_cons.mp (pc.mem_iff.mp hy) with c | c
      · rw [c]; exact ⟨z, tk, rfl, rfl⟩
      · exact g y c
    have nd1 : (fs.toList.map tx).Nodup := pk.nodup_iff.mpr (List.nodup_cons.mpr ⟨out, nd⟩)
    have m1 : ∀ i, (M i || decide (i = z)) = true ↔ i ∈ fs.toList.map tx := fun i => by
      rw [pk.mem_iff, List.mem_cons, Bool.or_eq_true, decide_eq_true_eq, mm i]
      exact Or.comm
    have sz : fs.size = n + 1 := by
      have := pc.length_eq
      rw [Array.length_toList, List.length_cons, Array.length_toList, hn] at this
      exact this
    have hb1 : fs.size < scanBound := sz.symm ▸ room
    have led1 : w.params.followText "set-order" = true ∨ v.led = true := hl.imp id fun c => q4.trans c
    have fin : ∀ h', Heap.SameBut a s.heap h' → TSet P w h' a (fun j => M j || decide (j = z)) fs.size → Q true { s with heap := h' } := fun h' sb c => by
      have q := k h' sb
      rw [Mz] at q
      rw [sz] at c
      exact q c
    refine wpAny_bind (gw _ ?_)
    split
    · refine wpAny_bind ?_
      rw [hashByValue_scannable 8 scn]
      refine wpAny_pure (tset_tail (fun b u Z q => by cases b <;> first | exact wpAny_pure q | exact wpAny_rule q) ho hx hd g1 nd1 m1 hb1 ?_ ?_ ?_ fun h' sb c => ?_)
      · first | exact q2 | (split <;> first | exact q2 | exact SetTable.fits_plain_off q2)
      · first | exact q3 | (split <;> exact q3)
      · first | exact led1 | (split <;> exact led1)
      · dsimp only; exact wpAny_pure (fin h' sb c)
    · refine wpAny_bind (wpAny_pure ?_)
      rw [if_pos rfl]
      refine tset_tail (fun b u Z q => by cases b <;> first | exact wpAny_pure q | exact wpAny_rule q) ho hx hd g1 nd1 m1 hb1 q2 q3 led1 fun h' sb c => ?_
      dsimp only
      exact wpAny_pure (fin h' sb c)
end
end L2.Lv
end
section
set_option maxRecDepth 100000
set_option maxHeartbeats 4000000
set_option autoImplicit false
namespace L2.Lv
open PySem PySem.Spec PyProof.Rows
abbrev set0 (w : World) : Obj := { cls := .type "set", dict := none, data := .set #[] 0 (.fresh 0 0 (!w.params.followText "set-order")) }
/-- values that are these texts -/
inductive TxAre : List Value → List Str → Prop
  | nil : TxAre [] []
  | cons (z : Str) (t : Tok) {us : List Value} {zs : List Str} : TxAre us zs → TxAre (.str z t :: us) (z :: zs)
theorem TxAre.length : ∀ {us : List Value} {zs : List Str}, TxAre us zs → us.length = zs.length
  | _, _, .nil => rfl
  | _, _, .cons _ _ r => congrArg (· + 1) r.length
theorem TxAre.get : ∀ {us : List Value} {zs : List Str} {i : Nat} {v : Value}, TxAre us zs → us[i]? = some v → ∃ z t, zs[i]? = some z ∧ v = .str z t
  | _, _, _, _, .nil, e => by simp at e
  | _, _, 0, _, .cons z t _, e => ⟨z, t, rfl, (Option.some.inj e).symm⟩
  | _, _, i + 1, _, .cons _ _ r, e => by
    obtain ⟨z, t, h1, h2⟩ := TxAre.get (i := i) r (by simpa using e)
    exact ⟨z, t, by simpa using h1, h2⟩
section
variable {P : Program} {w : World} {A : Around} {E : Value → Shared → Prop} {s : Shared}
theorem tset_0 {h : Heap} {a : Addr} {zs : List Str} (ho : h.get? a = some (set0 w)) : TSet P w h a (fun j => decide (j ∈ zs.take 0)) 0 := by
  refine ⟨_, #[], 0, _, ho, ⟨rfl, rfl, rfl⟩, rfl, fun y hy => by simp at hy, by simp, fun z => by simp, by decide, by rfl, rfl, List.Pairwise.nil, ?_⟩
  show _ ∨ (!w.params.followText "set-order") = true
  cases w.params.followText "set-order" <;> simp
theorem update_txs {I : Addr} {fp wr : List Addr} {G : Array GenState → Array GenState → Prop} {n : Nat} {Pv : Nat → Value → Prop} {St : Nat → Shared → Prop} {R : Result → Shared → Prop} (W : WalksS P w A.in1 I fp wr G n Pv St) (S : Addr)
    (nS : S ∉ fp) (zs : List Str) (ln : n = zs.length) (hb : zs.length + 1 < scanBound) (val : ∀ i v, Pv i v → ∃ z t, zs[i]? = some z ∧ v = .str z t) : ∀ (k i : Nat) (s : Shared), n - i = k → i ≤ n → St i s →
    (∃ c, c ≤ i ∧ TSet P w s.heap S (fun j => decide (j ∈ zs.take i)) c) → (∀ s' c, Moved (S :: wr) G s s' → c ≤ n → TSet P w s'.heap S (fun j => decide (j ∈ zs)) c → R (.ok (.ret .none)) s') →
    codeAny (model P w) A (.builtin "set.update.loop" ⟨[.ref S, .ref I], []⟩) R s := by
  have nw : S ∉ wr := fun c => nS (W.sub _ c)
  have sub : ∀ b ∈ wr, b ∈ S :: wr := fun b hb => List.mem_cons_of_mem _ hb
  intro k
  induction k with
  | zero =>
    rintro i s ek hi hst ⟨c, hc, r⟩ fin
    have ei : i = n := by omega
    subst ei
    refine codeAny_builtin F.entry_set_update_loop ?_
    rw [Around.under_plainId F.plain_set_update_loop _]
    show wpAny _ A.in1 (pyNext (.ref I) >>= _) _ _ s
    refine wpAny_bind (W.done s _ _ hst fun s1 mv => ?_)
    show wpAny _ A.in1 (ret Value.none) _ _ s1
    rw [List.take_of_length_le (by omega : zs.length ≤ i)] at r
    exact wpAny_pure (fin s1 c (mv.mono sub) hc (r.at fun o q => mv.heap S o nw q))
  | succ k ih =>
    rintro i s ek hi hst ⟨c, hc, r⟩ fin
    have li : i < n := by omega
    refine codeAny_builtin F.entry_set_update_loop ?_
    rw [Around.under_plainId F.plain_set_update_loop _]
    show wpAny _ A.in1 (pyNext (.ref I) >>= _) _ _ s
    refine wpAny_bind (W.item i s _ _ li hst fun v s1 pv st1 mv => ?_)
    obtain ⟨z, t, ez, rfl⟩ := val i v pv
    have r1 : TSet P w s1.heap S (fun j => decide (j ∈ zs.take i)) c := r.at fun o q => mv.heap S o nw q
    show wpAny _ A.in1 (holding [Value.str z t] (setAdd S (.str z t)) >>= _) _ _ s1
    refine wpAny_bind (wpAny_holding ?_)
    unfold setAdd
    refine wpAny_holding (wpAny_bind ((strKind P w).pyHash (k := z) (strKind_is P w z t) (tset_add (s := { s1 with toks := s1.toks + 1 }) r1 (by omega) fun h2 sb r2 => ?_)))
    have r3 : TSet P w h2 S (fun j => decide (j ∈ zs.take (i + 1))) (if decide (z ∈ zs.take i) = true then c else c + 1) := r2.congr fun j => by
      rw [List.take_add_one, ez]
      simp [List.mem_append]
    have bound : (if decide (z ∈ zs.take i) = true then c else c + 1) ≤ i + 1 := by split <;> omega
    refine wpAny_pure ⟨plainId_quiet F.plain_set_update_loop _, ih (i + 1) _ (by omega) li (W.frame _ s1 _ _ st1 (Nat.le_succ _) fun b hbf o q => ?_) ⟨_, bound, r3⟩ fun s3 c3 mv3 hc3 r4 => ?_⟩
    · rw [sb.2 b (fun (e : b = S) => nS (e ▸ hbf))]; exact q
    · refine fin s3 c3 (Moved.trans W.gtrans ((mv.mono sub).then_heap (Nat.le_succ _) fun b o nb q => ?_) mv3) hc3 r4
      rw [sb.2 b (fun (e : b = S) => nb (by rw [e]; exact List.mem_cons_self))]; exact q
set_option maxHeartbeats 6400000 in
/-- set(xs), xs a list of texts -/
theorem call_set_txs {l : Addr} {items : Array Value} (zs : List Str) {Q : Value → Shared → Prop} (hh : A.handled = none) (hl : s.heap.IsList l items) (it : TxAre items.toList zs) (hb : zs.length + 1 < scanBound)
    (k : ∀ (h' : Heap) (tk c : Nat), TSet P w h' s.heap.objs.size (fun j => decide (j ∈ zs)) c → (∀ b o, s.heap.get? b = some o → h'.get? b = some o) → Q (.ref s.heap.objs.size) { s with heap := h', toks := tk }) :
    wpAny (model P w) A (call (.type "set") [.ref l]) Q E s := by
  have sz : items.size = zs.length := by have q := it.length; rwa [Array.length_toList] at q
  obtain ⟨c0, tl0, hmro⟩ := F.called_set.mro
  have hmade := F.called_set.made
  have hsub := F.called_set.sub
  refine wpAny_call (codeAny_of_tree ?_)
  show wpAny _ _ (callAny (.type "set") _) _ _ _
  refine wpAny_pure ⟨Code.quiet_builtin _ (by decide +kernel), codeAny_builtin F.entry_type_call ?_⟩
  rw [Around.under_plain (weight_type_call_type "set" [.ref l] []) rfl]
  have notT := F.called_set.notType
  have can := F.called_set.canCreate
  have tc := F.typeCall_set_1 (.ref l)
  repeat (any_goals (first | assumption | wp_step))
  refine codeAny_mono (code_set_led1 (.ref l) (E := E) (Q₁ := fun ob u => ob = .ref s.heap.objs.size ∧ u = { s with heap := s.heap.push (set0 w) }) ⟨rfl, rfl⟩) fun r u hr => ?_
  cases r with
  | error e => exact hr
  | ok fl =>
    cases fl with
    | ret ob =>
      obtain ⟨rfl, rfl⟩ := hr
      have atS : (s.heap.push (set0 w)).get? s.heap.objs.size = some (set0 w) := Heap.get?_push_size _ rfl
      have tyS : Shared.TypeIs { s with heap := s.heap.push (set0 w) } (.ref s.heap.objs.size) "set" := ⟨_, atS, rfl⟩
      have ini := F.called_set.init.lookup
      have inb := F.called_set.init.bind (.ref s.heap.objs.size)
      repeat (any_goals (first | assumption | wp_step))
      refine codeAny_mono (codeAny_call_builtin (R := wants (fun r u2 => r = .none ∧ ∃ h' tk c, u2 = { s with heap := h', toks := tk } ∧ TSet P w h' s.heap.objs.size (fun j => decide (j ∈ zs)) c ∧
          (∀ b o, s.heap.get? b = some o → h'.get? b = some o)) E) F.called_set.init.plain F.entry_set_init (check_set_init_1 tyS ?_)) fun r2 u2 hr2 => ?_
      · obtain ⟨⟨oc, od, odt, osl⟩, hol, hcl, nl, hdl⟩ := hl
        simp only at hcl hdl
        subst hcl; subst hdl
        have hol1 : (s.heap.push (set0 w)).get? l = some { cls := .type "list", dict := od, data := .seq items nl, slots := osl } := Heap.get?_push_of_some _ hol
        have e1 := F.sub_list_set
        have e2 := F.sub_list_frozenset
        have e3 : (Value.type "list" == Value.type "dict") = false := by decide
        have il : (s.heap.push (set0 w)).IsList l items := ⟨_, hol1, rfl, nl, rfl⟩
        unfold Builtin.«set.__init__» noKeywords Builtin.Frozenset.updateFrom
        generalize hPI : pyIter = PI
        wp_walk
        subst hPI
        refine wpAny_pyIter_list il (wpAny_bind (wpAny_runValue ?_))
        have lS : l < s.heap.objs.size := Heap.lt_size hol
        have hh3 : A.in1.in1.in1.handled = none := by simp [hh]
        have sz1 : (s.heap.push (set0 w)).objs.size = s.heap.objs.size + 1 := Heap.size_push ..
        have neI : l ≠ (s.heap.push (set0 w)).objs.size := by rw [sz1]; exact Nat.ne_of_lt (Nat.lt_succ_of_lt lS)
        have nS : s.heap.objs.size ∉ [(s.heap.push (set0 w)).objs.size, l] := by
          rw [sz1]; simp only [List.mem_cons, List.not_mem_nil, or_false, not_or]
          exact ⟨Nat.ne_of_lt (Nat.lt_succ_self _), Nat.ne_of_gt lS⟩
        refine update_txs ((Walks.list hh3 _ l neI items).toS) s.heap.objs.size nS zs sz hb (fun i v hv => it.get (by rw [Array.getElem?_toList]; exact hv)) (items.size - 0) 0 _ (by omega) (Nat.zero_le _)
          ⟨⟨_, Heap.get?_push_size _ rfl, rfl, rfl⟩, (il.push _)⟩ ⟨0, Nat.le_refl 0, tset_0 (Heap.get?_push_of_some _ atS)⟩ fun u3 c3 mv hc r3 => ?_
        obtain ⟨h3, g3, d3, tk3, os3⟩ := u3
        have eg : g3 = s.gens := mv.gens
        have ed : d3 = s.drawn := mv.drawn
        have eo : os3 = s.os := mv.os
        subst eg; subst ed; subst eo
        show wpAny _ _ _ _ _ _
        refine wpAny_pure ?_
        show wpAny _ _ (ret Value.none) _ _ _
        refine wpAny_pure ⟨rfl, h3, tk3, c3, rfl, r3, fun b o q => ?_⟩
        have b0 : b < s.heap.objs.size := Heap.lt_size q
        refine mv.heap b o ?_ (Heap.get?_push_of_some _ (Heap.get?_push_of_some _ q))
        simp only [List.mem_cons, List.not_mem_nil, or_false, not_or]
        exact ⟨Nat.ne_of_lt b0, Nat.ne_of_lt (by rw [sz1]; exact Nat.lt_succ_of_lt b0)⟩
      · cases r2 with
        | error e => exact hr2
        | ok fl2 =>
          cases fl2 with
          | ret r =>
            obtain ⟨rfl, h', tk, c, rfl, r3, kk⟩ := hr2
            repeat (any_goals (first | assumption | wp_step))
            exact k _ _ _ r3 kk
          | _ => exact hr2.elim
    | _ => exact hr.elim
end
end L2.Lv
end
section
set_option maxRecDepth 100000
set_option maxHeartbeats 4000000
set_option autoImplicit false
namespace L2.Lv
open PySem PySem.Spec PyProof.Rows
/-- texts by their signs -/
def ltS (a b : Str) : Prop := a.cps.toList < b.cps.toList
def IsTx (v : Value) (z : Str) : Prop := ∃ t, v = .str z t
theorem TxAre.each : ∀ {us : List Value} {zs : List Str}, TxAre us zs → PySem.W.EachIs IsTx us zs
  | _, _, .nil => .nil
  | _, _, .cons z t r => .cons ⟨t, rfl⟩ r.each
theorem each_vals : ∀ {us : List Value} {zs : List Str}, PySem.W.EachIs IsTx us zs → Vals (zs.map V.str) us
  | _, _, .nil => .nil
  | _, _, .cons h r => .cons h (each_vals r)
theorem txare_of : ∀ {us : List Value} {zs : List Str}, Vals (zs.map V.str) us → TxAre us zs
  | _, [], .nil => .nil
  | _, z :: zs, .cons ⟨t, e⟩ r => by subst e; exact .cons z t (txare_of r)
theorem reads_tx {h : Heap} : ∀ {us : List Value} {zs : List Str}, PySem.W.EachIs IsTx us zs → PySem.W.EachIs (fun v z => ∃ as, Reads h v (.str z) as) us zs
  | _, _, .nil => .nil
  | _, _, .cons ⟨t, e⟩ r => .cons ⟨[], by rw [e]; exact .str _ t⟩ (reads_tx r)
theorem alike_tx (zs : List Str) : PySem.W.AllAlike (zs.map PyData.str) := PySem.W.AllAlike.of fun _ _ => rfl
theorem sortable_tx (zs : List Str) : PySem.W.Sortable (zs.map PyData.str) := PySem.W.Sortable.others fun _ => ⟨fun e => (by cases e), fun _ e => (by cases e)⟩
/-- the texts' order: total, and without ties but for the same -/
theorem le_tx (a b c : Str) : decide (a.cps.toList ≤ b.cps.toList) = true → decide (b.cps.toList ≤ c.cps.toList) = true → decide (a.cps.toList ≤ c.cps.toList) = true := by
  simp only [decide_eq_true_eq]
  exact fun x y => List.le_trans x y
theorem tot_tx (a b : Str) : (decide (a.cps.toList ≤ b.cps.toList) || decide (b.cps.toList ≤ a.cps.toList)) = true := by
  simp only [Bool.or_eq_true, decide_eq_true_eq]
  exact List.le_total _ _
theorem cps_inj {a b : Str} (e : a.cps.toList = b.cps.toList) : a = b := by
  cases a; cases b
  simp only [Str.mk.injEq]
  exact Array.toList_inj.mp e
theorem sort_strict {zs : List Str} (nd : zs.Nodup) : (zs.mergeSort fun a b => decide (a.cps.toList ≤ b.cps.toList)).Pairwise ltS := by
  have sp := List.pairwise_mergeSort (le := fun a b : Str => decide (a.cps.toList ≤ b.cps.toList)) le_tx tot_tx zs
  have nd2 : (zs.mergeSort fun a b => decide (a.cps.toList ≤ b.cps.toList)).Nodup := (List.mergeSort_perm zs _).nodup_iff.mpr nd
  refine (sp.and nd2).imp fun {a b} ⟨x, ne⟩ => ?_
  have x' : a.cps.toList ≤ b.cps.toList := of_decide_eq_true x
  show a.cps.toList < b.cps.toList
  rcases List.le_iff_lt_or_eq.mp x' with c | c
  · exact c
  · exact absurd (cps_inj c) ne
section
variable {P : Program} {w : World} {A : Around} {E : Value → Shared → Prop} {s : Shared}
/-- sorted(s), s a set of texts -/
theorem sorted_tset {a : Addr} {M : Str → Bool} {n : Nat} {Q : Value → Shared → Prop} (r : TSet P w s.heap a M n) (hh : A.handled = none) (hu : A.units + 8 < cLine)
    (k : ∀ s' p (out : List Value) (c : Nat) (ys : List Str), (∀ b o, s.heap.get? b = some o → s'.heap.get? b = some o) → s'.gens = s.gens → s'.os = s.os → s.heap.objs.size ≤ p → s'.heap.get? p = some (seqObj "list" (List.toArray out) c) →
      Vals (ys.map V.str) out → ys.Pairwise ltS → (∀ z, z ∈ ys ↔ M z = true) → ys.length ≤ sizeLine → Q (.ref p) s') : wpAny (model P w) A (call (.builtin "sorted") [.ref a]) Q E s := by
  obtain ⟨o, es, ep, t, ho, hx, hd, g, nd, mm, hb, hf, hn, hr, hl⟩ := r
  refine Calls.call_function_entry kind_sorted plain_sorted entry_sorted (args_sorted1 _) ?_
  unfold Builtin.«sorted»
  refine wpAny_bind (m := checkCount "sorted" 1 1 _) (wpAny_pure (wpAny_bind (collect_set (A := A.in1) hh ⟨o, ho, hx.1, hd⟩ hf hb hr hl fun s1 vs k1 hz g1 o1 pm => ?_)))
  have sm : es.size ≤ sizeLine := fits_of_scanBound hb
  have lv : vs.length ≤ sizeLine := by rw [pm.length_eq, List.length_map, Array.length_toList]; exact sm
  -- the values are the texts
  have isv : ∀ us : List Value, (∀ v ∈ us, ∃ y ∈ es.toList, v = y.2) → PySem.W.EachIs IsTx us (us.map fun v => tx (0, v)) := by
    intro us
    induction us with
    | nil => intro _; exact .nil
    | cons v us ih =>
      intro hv
      obtain ⟨y, hy, e⟩ := hv v List.mem_cons_self
      obtain ⟨z, tk, e1, -⟩ := g y hy
      refine .cons ⟨tk, ?_⟩ (ih fun u hu => hv u (List.mem_cons_of_mem _ hu))
      rw [e, e1]; rfl
  have ev := isv vs fun v hv => by
    obtain ⟨y, hy, e⟩ := List.mem_map.mp (pm.mem_iff.mp hv)
    exact ⟨y, hy, e.symm⟩
  have pz : (vs.map fun v => tx (0, v)).Perm (es.toList.map tx) := by
    have q := pm.map fun v => tx (0, v)
    rw [List.map_map] at q
    exact q
  revert ev pz
  generalize vs.map (fun v => tx (0, v)) = zs
  intro ev pz
  refine wpAny_bind (wpAny_newList ?_ lv)
  have atL : (s1.heap.push (seqObj "list" vs.toArray 0)).get? s1.heap.objs.size = some (seqObj "list" vs.toArray 0) := Heap.get?_push_size _ rfl
  refine wpAny_bind (wpAny_holding (PySem.W.list_sort_data (s := { s1 with heap := s1.heap.push (seqObj "list" vs.toArray 0) }) (enc := PyData.str) (R := IsTx) atL ev ?_ (alike_tx zs) (sortable_tx zs) (by rw [← ev.length]; exact lv) (fun b _ => ?_) fun out lo eo => ?_))
  · refine (ev.mono fun v z ⟨t, e⟩ => ⟨[], ?_, by simp⟩)
    rw [e]; exact .str z t
  · show A.in1.units + 1 + 0 < cLine
    simp [Around.in1]
    omega
  · obtain ⟨c, hc⟩ := sortedHeap_at (vs := vs) (out := List.toArray out) atL
    have ds : PySem.W.dataLe false PyData.str = fun a b : Str => decide (a.cps.toList ≤ b.cps.toList) := PySem.W.dataLe_str (fun z : Str => z)
    rw [ds] at eo
    have ndz : zs.Nodup := pz.nodup_iff.mpr nd
    refine wpAny_pure ⟨_, rfl, k _ s1.heap.objs.size out c (zs.mergeSort fun a b => decide (a.cps.toList ≤ b.cps.toList)) (fun b u q => ?_) g1 o1 hz hc (each_vals eo) (sort_strict ndz) (fun z => ?_) (by rw [List.length_mergeSort, ← ev.length]; exact lv)⟩
    · have q2 := k1 b u q
      have lt := Heap.lt_size q2
      show (sortedHeap (s1.heap.push (seqObj "list" vs.toArray 0)) s1.heap.objs.size vs (List.toArray out)).get? b = some u
      rw [sortedHeap_old (Nat.ne_of_lt lt) (by rw [size_push']; exact Nat.lt_succ_of_lt lt)]
      exact Heap.get?_push_of_some _ q2
    · rw [mm z, List.mem_mergeSort]
      exact pz.mem_iff
end
section
variable {X : Cx}
def tSortSet (K : PySem.W.Frag) (ta : TE) : TE := fun σ H Q => ta σ H fun x H1 => ∃ (l : Addr) (zs : List Str), x = V.ref l ∧ SqL K H1 l (zs.map V.str) ∧ zs.length < 4000 ∧
  ∀ (ys : List Str) (p : Addr), ys.Pairwise ltS → (∀ z, z ∈ ys ↔ z ∈ zs) → ys.length ≤ sizeLine → H1 p = none → Q (.ref p) (upd H1 p (.lst (ys.map V.str)))
/-- sorted(set(xs)), xs a list of texts -/
theorem pe_sortSet {a : Expr} {ta : TE} {p p2 q pos : Pos} (hc : X.calm = true) (hu : X.A.units + 8 < cLine) (hg : Gl X "sorted") (hm : X.mg "sorted" = none) (hg2 : Gl X "set") (hm2 : X.mg "set" = none) (ha : PE X a ta)
    (na : starEach [a] X.env = (false, eval a X.env) :: starEach [] X.env := by rfl) : PE X (.Call (.Name "sorted" p) [.Call (.Name "set" p2) [a] [] q] [] pos) (tSortSet X.K ta) := by
  refine ⟨fun pins s σ H Q I h => Call_ (ld_blt I hg hm PyProof.Rows.boot_sorted (PyProof.Rows.callWith_builtin1 (PyProof.Rows.args_cons (Call_ (ld_blt I hg2 hm2 PyProof.Rows.boot_set ?_)) rfl) rfl rfl))⟩
  refine PyProof.Rows.callWith_type1 (PyProof.Rows.args_cons (thn (ha.run pins s σ H _ I h) fun v s1 ⟨x, H1, I1, r1, q1⟩ => PyProof.Rows.args_nil ?_) na) na rfl
  obtain ⟨l, zs, rfl, hq, h1, q1⟩ := q1
  cases r1
  obtain ⟨its, r, pl, hz⟩ := I1.list hq
  have hd := I1.ok.hd hc
  refine call_set_txs zs hd pl.isList (by simpa using txare_of r) (by unfold scanBound; omega) fun h' tk c rs kk => PyProof.Rows.args_nil ?_
  refine sorted_tset (s := { s1 with heap := h', toks := tk }) rs hd hu fun s2 pp out c2 ys k2 g2 o2 hp hg hv hw hmem hlen => ?_
  have kall : ∀ b u, s1.heap.get? b = some u → s2.heap.get? b = some u := fun b u e => k2 b u (kk b u e)
  have lt0 : s1.heap.objs.size < h'.objs.size := by
    obtain ⟨o, es, ep, t, ho, -⟩ := rs
    exact Heap.lt_size ho
  have hp' : s1.heap.objs.size ≤ pp := Nat.le_trans (Nat.le_of_lt lt0) hp
  have hn : H1 pp = none := I1.hok.fresh hp'
  have J : Inv X pins σ (upd H1 pp (.lst (ys.map V.str))) { s1 with heap := s2.heap, gens := s2.gens, drawn := s2.drawn, toks := s2.toks } :=
    I1.call (ch := []) (Un.laid kall hp' hn) (I1.hok.laid kall hp' ⟨by rw [List.length_map]; exact hlen, out, c2, hv, hg⟩) (by rw [g2]; exact I1.bare) (fun _ z => nomatch z)
  have e : s2 = { s1 with heap := s2.heap, gens := s2.gens, drawn := s2.drawn, toks := s2.toks } := by
    cases s2; cases s1; cases o2; rfl
  rw [e]
  exact ⟨.ref pp, _, J, rfl, q1 ys pp hw (fun z => (hmem z).trans (by simp)) hlen hn⟩
end
end L2.Lv
end
section
set_option maxRecDepth 100000
set_option maxHeartbeats 4000000
set_option autoImplicit false
namespace L2.Lv
open PySem PySem.Spec PyProof.Rows
section
variable {X : Cx}
abbrev leLen (a b : Str) : Bool := decide (((a.length : Nat) : Int) ≤ ((b.length : Nat) : Int))
def tSortLen (K : PySem.W.Frag) (ta : TE) : TE := fun σ H Q => ta σ H fun x H1 => ∃ (l : Addr) (zs : List Str), x = V.ref l ∧ SqL K H1 l (zs.map V.str) ∧ zs.length ≤ sizeLine ∧ (∀ z ∈ zs, z.length ≤ sizeLine) ∧
  ∀ p : Addr, H1 p = none → Q (.ref p) (upd H1 p (.lst ((zs.mergeSort leLen).map V.str)))
theorem alike_int {β : Type} (f : β → Int) (bs : List β) : PySem.W.AllAlike (bs.map fun b => PyData.int (f b)) := PySem.W.AllAlike.of fun _ _ => rfl
theorem sortable_int {β : Type} (f : β → Int) (bs : List β) : PySem.W.Sortable (bs.map fun b => PyData.int (f b)) := PySem.W.Sortable.others fun _ => ⟨fun e => (by cases e), fun _ e => (by cases e)⟩
/-- what a sort by a key leaves: the new list, all else as it was -/
theorem laid_sorted {pins : List (Addr × Obj)} {σ : L2.St} {H1 : Hp} {s1 : Shared} {out : List Value} {c tk : Nat} {h' : Heap} {ys : List Str} {Q : VK} (I1 : Inv X pins σ H1 s1) (kp : ∀ b o, s1.heap.get? b = some o → h'.get? b = some o) (hf : s1.heap.get? (s1.heap.objs.size + 1) = none)
    (hg : h'.get? (s1.heap.objs.size + 1) = some (seqObj "list" (List.toArray out) c)) (hv : Vals (ys.map V.str) out) (hl : ys.length ≤ sizeLine) (q : ∀ p : Addr, H1 p = none → Q (.ref p) (upd H1 p (.lst (ys.map V.str)))) :
    EP X pins σ Q (.ref (s1.heap.objs.size + 1)) { s1 with heap := h', toks := tk } := by
  have hn : H1 (s1.heap.objs.size + 1) = none := I1.hok.fresh (Nat.le_succ _)
  exact ⟨.ref (s1.heap.objs.size + 1), upd H1 (s1.heap.objs.size + 1) (.lst (ys.map V.str)), I1.laid (t' := tk) kp (Nat.le_succ _) ⟨by rw [List.length_map]; exact hl, out, c, hv, hg⟩, rfl, q _ hn⟩
theorem pe_sortLen {a : Expr} {ta : TE} {p p2 kp pos : Pos} (hu : X.A.units + 8 < cLine) (hg : Gl X "sorted") (hm : X.mg "sorted" = none) (hg2 : Gl X "len") (hm2 : X.mg "len" = none) (ha : PE X a ta)
    (na : starEach [a] X.env = (false, eval a X.env) :: starEach [] X.env := by rfl) : PE X (.Call (.Name "sorted" p) [a] [⟨some "key", .Name "len" p2, kp⟩] pos) (tSortLen X.K ta) := by
  refine ⟨fun pins s σ H Q I h => ?_⟩
  refine wpAny_Call_Name_kw (ld_blt I hg hm PyProof.Rows.boot_sorted ?_)
  refine PyProof.Rows.callWith_kw (PyProof.Rows.args_cons (thn (ha.run pins s σ H _ I h) fun v s1 ⟨x, H1, I1, r1, q1⟩ => PyProof.Rows.args_nil ?_) na) (by rw [na]; rfl) (by rw [na]; rfl) rfl rfl
  show wpAny _ _ (evalAll ((do let v ← eval (.Name "len" p2) X.env; standAt pos; pure v) :: [])) _ _ s1
  refine wpAny_evalAll_cons (wpAny_bind (ld_blt I1 hg2 hm2 PySem.boot_len (wpAny_bind (wpAny_standAt (wpAny_pure (wpAny_evalAll_nil ?_))))))
  show wpAny _ _ (call (.builtin "sorted") [v] [(Str.ofString "key", .builtin "len")]) _ _ _
  obtain ⟨l, zs, rfl, hq, h1, h2, q1⟩ := q1
  cases r1
  obtain ⟨its, r, pl, hz⟩ := I1.list hq
  have ev := (txare_of r).each
  refine PySem.W.sorted_key_data (R := IsTx) (b := false) (fun z : Str => PyData.int ((z.length : Nat) : Int)) (by simpa using pl.isList) ev (alike_int _ zs) (sortable_int _ zs) h1 (fun x _ => ?_) (PyProof.Rows.ksk_s1 _ _) (fun x => PyProof.Rows.ksk_l1 _ _) (fun x => PyProof.Rows.ksk_t4 "len" x)
    (fun v z ⟨t, e⟩ hz2 h3 tk k3 => ?_) fun out c h' tk k4 fr ho lo eo => ?_
  · show X.A.units + 2 + 0 < cLine
    omega
  · subst e
    refine PyProof.Rows.len_str (by have := h2 z hz2; rw [sizeLine_eq] at this; omega) ⟨h3, _, rfl, fun _ _ e => e, .int _ _⟩
  · refine laid_sorted I1 k4 fr ho (each_vals ?_) (by rw [List.length_mergeSort]; exact h1) (fun p hn => q1 p hn)
    have e : PySem.W.dataLe false (fun z : Str => PyData.int ((z.length : Nat) : Int)) = leLen := PySem.W.dataLe_int (fun z : Str => ((z.length : Nat) : Int))
    rw [e] at eo
    exact eo
end
end L2.Lv
end
section
set_option maxRecDepth 100000
set_option maxHeartbeats 4000000
set_option autoImplicit false
namespace L2.Lv
open PySem PySem.Spec PyProof.Rows
/-- the scope of a lambda with one name, that asks the built-in len too -/
def lkB (n : Str) (scope : Scope) : Bool := decide (scope.kind = .function) && !scope.isCoroutine && !scope.isGenerator && scope.names.all (fun y => !decide (y.2 = .cell) && !decide (y.2 = .free)) && decide (scope.names.lookup n = some .local) && decide ((scope.names.lookup ("len" : Str)) = some .globalImplicit)
structure LK (n : Str) (scope : Scope) : Prop where
  kind : scope.kind = .function
  co : scope.isCoroutine = false
  gen : scope.isGenerator = false
  noc : ∀ y ∈ scope.names, y.2 ≠ .cell ∧ y.2 ≠ .free
  own : scope.names.lookup n = some .local
  len : (scope.names.lookup ("len" : Str)) = some .globalImplicit
theorem lk_by {n : Str} {scope : Scope} (h : lkB n scope = true) : LK n scope := by
  unfold lkB at h
  simp only [Bool.and_eq_true, Bool.not_eq_true', decide_eq_true_eq, decide_eq_false_iff_not, List.all_eq_true] at h
  obtain ⟨⟨⟨⟨⟨h1, h2⟩, h3⟩, h4⟩, h5⟩, h6⟩ := h
  exact ⟨h1, h2, h3, h4, h5, h6⟩
section
variable {X : Cx} {pins : List (Addr × Obj)} {σ : L2.St} {H : Hp} {s : Shared} {n : Str} {scope : Scope} {params : Arguments} {q : Str} {cl : List (Str × Addr)} {pm ctv : Value} {f c' : Addr} {p1 p2 p3 p4 p5 : Pos} {k5 : Nat}
theorem lam_turn (I : Inv X pins σ H s) (L : LK n scope) (hml : X.mg "len" = none) (hc : H c' = some (LamX.CodeO c' q)) {bd : Expr} (hbd : bd = .Tuple [.Call (.Name "len" p1) [.Name n p2] [] p3, .Name n p4] k5 p5)
    (hf : s.heap.get? f = some (PySem.W.kla_obj "<lambda>" q params bd scope cl pm c' ctv)) (hbind : ∀ v : Value, bindArgs (PySem.W.kla_fn "<lambda>" q params bd scope cl pm (.ref c') ctv) ⟨[v], []⟩ = pure [(n, v)])
    (hd : (n == ("__debug__" : Str)) = false) {A : Around} (room : A.depth < recursionLimit) {z : Str} {t : Tok} (hz : z.length ≤ sizeLine) {h : Heap} {tk : Nat} (kk : ∀ b o, s.heap.get? b = some o → h.get? b = some o) :
    wpAny (model X.prog X.w) A (call (.ref f) [.str z t]) (PySem.W.KeyPure (.tuple [.int ((z.length : Nat) : Int), .str z]) { s with heap := h, toks := tk }) (fun _ _ => False) { s with heap := h, toks := tk } := by
  subst hbd
  obtain ⟨⟨oc, vs, tc, hoc, hdc, hvc⟩, -, -⟩ := I.hok c' _ hc
  have nolim : h.NoLimit := (I.mod.nolimit.keeps I.bk).keeps kk
  obtain ⟨mb, hb1, hb2⟩ := I.mod.blt
  refine wpAny_call (PySem.W.kla_callFunE (s := { s with heap := h, toks := tk }) room (kk _ _ hf) rfl L.co L.gen rfl ⟨c', oc, vs, tc, rfl, kk _ _ hoc, hdc, hvc⟩ ?_)
  rw [hbind]
  refine wpAny_pure (wpAny_newFunctionEnv (fun y hy => (L.noc y hy).1) (fun y hy => ?_) (fun h₁ hns hsb => ⟨nolim.fresh _ hsb, ?_⟩) L.kind)
  · rw [List.mem_singleton.mp hy]; exact L.own
  show codeAny _ _ (.expr _ (PySem.W.envX q scope h.objs.size f (.ref c') cl)) _ _
  have k1 : ∀ b o, h.get? b = some o → h₁.get? b = some o := fun b o e => hsb.extBut b o (Nat.ne_of_lt (Heap.lt_size e)) (Heap.get?_push_of_some _ e)
  have loc : (fun y => ([(n, (Value.str z t))] : List (Str × Value)).reverse.lookup y) n = some (.str z t) := by simp [List.lookup]
  have gn : ∀ {g : Heap}, (∀ b o, h₁.get? b = some o → g.get? b = some o) → g.Ns mainGlobals X.mg := fun kg => I.mod.glob.keeps fun b o e => kg b o (k1 b o (kk b o (I.bk b o e)))
  have bn : ∀ {g : Heap}, (∀ b o, h₁.get? b = some o → g.get? b = some o) → g.Ns builtinsNs mb := fun kg => hb1.keeps fun b o e => kg b o (k1 b o (kk b o (I.bk b o e)))
  refine PySem.W.kla_codeExpr (wpAny_Tuple_spliced (PyProof.Rows.args_cons (Call_ (Calls.Name_function_global L.kind L.len (Calls.loadGlobal_builtin (gn fun _ _ e => e) hml (bn fun _ _ e => e) ((hb2 "len" (by decide)).trans PySem.boot_len)
    (PyProof.Rows.callWith_builtin1 (PyProof.Rows.args_cons (wpAny_Name (wpAny_loadName_local L.kind L.own hns loc (PyProof.Rows.args_nil ?_)) hd) rfl) rfl rfl)) (by decide))) rfl))
  refine PyProof.Rows.len_str (by rw [sizeLine_eq] at hz; omega) ?_
  refine PyProof.Rows.args_cons (wpAny_Name (wpAny_loadName_local L.kind L.own hns loc (PyProof.Rows.args_nil ⟨by show 2 ≤ sizeLine; decide, ?_⟩)) hd) rfl
  refine ⟨_, _, rfl, fun b o e => Heap.get?_push_of_some _ (k1 b o e), ?_⟩
  refine Reads.tuple (as := []) (Heap.get?_push_size _ rfl) rfl rfl ?_
  exact ReadsAll.cons (as := []) (.int _ _) (ReadsAll.cons (as := []) (bs := []) (.str _ _) .nil)
end
end L2.Lv
end
section
set_option maxRecDepth 100000
set_option maxHeartbeats 4000000
set_option autoImplicit false
namespace L2.Lv
open PySem PySem.Spec PyProof.Rows
abbrev kLam (z : Str) : PyData := .tuple [.int ((z.length : Nat) : Int), .str z]
/-- fewer signs first, then by the signs -/
def leLam (a b : Str) : Bool := if a.length = b.length then decide (a.cps.toList ≤ b.cps.toList) else decide (a.length < b.length)
theorem lt_dint (x y : Int) : PySem.W.dataLt (.int x) (.int y) = !decide (y ≤ x) := by
  have h := congrFun (congrFun (PySem.W.dataLe_int (fun b : Int => b)) y) x
  rw [PySem.W.dataLe_eq] at h
  have h' : (!PySem.W.dataLt (.int x) (.int y)) = decide (y ≤ x) := h
  rw [← h', Bool.not_not]
theorem lt_dstr (a b : Str) : PySem.W.dataLt (.str a) (.str b) = !decide (b.cps.toList ≤ a.cps.toList) := by
  have h := congrFun (congrFun (PySem.W.dataLe_str (fun z : Str => z)) b) a
  rw [PySem.W.dataLe_eq] at h
  have h' : (!PySem.W.dataLt (.str a) (.str b)) = decide (b.cps.toList ≤ a.cps.toList) := h
  rw [← h', Bool.not_not]
theorem le_kLam : PySem.W.dataLe false kLam = leLam := by
  funext a b
  rw [PySem.W.dataLe_eq]
  show (!PySem.W.dataLt (kLam b) (kLam a)) = leLam a b
  unfold kLam leLam
  rw [PySem.W.dataLt_pair rfl rfl, lt_dint, lt_dstr]
  by_cases c : a.length = b.length
  · rw [if_pos c]
    have e1 : PyData.eqv (.int ((b.length : Nat) : Int)) (.int ((a.length : Nat) : Int)) = true := by rw [c]; simp [PyData.eqv]
    rw [if_pos e1]
    by_cases d : a = b
    · have e2 : PyData.eqv (.str b) (.str a) = true := by rw [d]; simp [PyData.eqv]
      rw [if_pos e2, d]
      simp
    · have e2 : ¬ PyData.eqv (.str b) (.str a) = true := by
        simp only [PyData.eqv, beq_iff_eq]
        exact fun e => d e.symm
      rw [if_neg e2, Bool.not_not]
  · rw [if_neg c]
    have e1 : ¬ PyData.eqv (.int ((b.length : Nat) : Int)) (.int ((a.length : Nat) : Int)) = true := by
      simp only [PyData.eqv, beq_iff_eq]
      omega
    rw [if_neg e1, Bool.not_not]
    have : (((a.length : Nat) : Int) ≤ ((b.length : Nat) : Int)) ↔ (a.length < b.length) := by omega
    exact decide_eq_decide.mpr this
section
variable {X : Cx}
def tSortLam (T : List (Addr × Str)) (K : PySem.W.Frag) (ta : TE) : TE := fun σ H Q => ta σ H fun x H1 => ∃ (l : Addr) (zs : List Str), x = V.ref l ∧ SqL K H1 l (zs.map V.str) ∧ zs.length ≤ sizeLine ∧ (∀ z ∈ zs, z.length ≤ sizeLine) ∧ LamX.Tabs T H1 ∧
  ∀ H2, LamX.ExtN H1 H2 → LamX.Tabs T H2 → ∀ p : Addr, H2 p = none → Q (.ref p) (upd H2 p (.lst ((zs.mergeSort leLam).map V.str)))
theorem sq_ext {K : PySem.W.Frag} {H H2 : Hp} {l : Addr} {vs : List V} (q : SqL K H l vs) (eN : LamX.ExtN H H2) : SqL K H2 l vs := by
  rcases q with (q | ⟨u, q⟩) | q
  · exact .inl (.inl (eN l _ q fun ps z => by cases z))
  · exact .inl (.inr ⟨u, eN l _ q fun ps z => by cases z⟩)
  · exact .inr q
theorem pe_sortLam {T : List (Addr × Str)} {n : Str} {scope : Scope} {params : Arguments} {cc P : Addr} {a bd : Expr} {ta : TE} {p p1 p2 p3 p4 p5 lpos kp pos : Pos} {k5 : Nat} (hbd : bd = .Tuple [.Call (.Name "len" p1) [.Name n p2] [] p3, .Name n p4] k5 p5)
    (hu : X.A.units + 64 < cLine) (hr : X.A.depth < recursionLimit) (hg : Gl X "sorted") (hm : X.mg "sorted" = none) (hml : X.mg "len" = none) (L : LK n scope) (hd : (n == ("__debug__" : Str)) = false) (TB : LamX.TabB X.base X.mg cc P) (hcode : X.env.code = .ref cc)
    (hmT : (P, X.env.qual ++ "<lambda>") ∈ T) (huT : ∀ y ∈ T, y.1 = P → y.2 = X.env.qual ++ "<lambda>") (hdef : defaultsOf params X.env = ([], []))
    (hbind : ∀ (q : Str) (cl : List (Str × Addr)) (pm cv ctv v : Value), bindArgs (PySem.W.kla_fn "<lambda>" q params bd scope cl pm cv ctv) ⟨[v], []⟩ = pure [(n, v)]) (ha : PE X a ta)
    (na : starEach [a] X.env = (false, eval a X.env) :: starEach [] X.env := by rfl) : PE X (.Call (.Name "sorted" p) [a] [⟨some "key", .Lambda params bd scope lpos, kp⟩] pos) (tSortLam T X.K ta) := by
  refine ⟨fun pins s σ H Q I h => ?_⟩
  refine wpAny_Call_Name_kw (ld_blt I hg hm PyProof.Rows.boot_sorted ?_)
  refine PyProof.Rows.callWith_kw (PyProof.Rows.args_cons (thn (ha.run pins s σ H _ I h) fun v s1 ⟨x, H1, I1, r1, q1⟩ => PyProof.Rows.args_nil ?_) na) (by rw [na]; rfl) (by rw [na]; rfl) rfl rfl
  show wpAny _ _ (evalAll ((do let v ← eval (.Lambda params bd scope lpos) X.env; standAt pos; pure v) :: [])) _ _ s1
  obtain ⟨l, zs, rfl, hq, h1, h2, hT, q1⟩ := q1
  cases r1
  refine wpAny_evalAll_cons (wpAny_bind (LamX.lam_make2 I1 TB hcode hmT huT hT hdef (fun y hy e => absurd e (L.noc y hy).2) fun f c' pm ctv H2 s2 I2 eN hT2 hf hfn _ hc => wpAny_bind (wpAny_standAt (wpAny_pure (wpAny_evalAll_nil ?_)))))
  show wpAny _ _ (call (.builtin "sorted") [.ref l] [(Str.ofString "key", .ref f)]) _ _ _
  obtain ⟨its, r, pl, hz⟩ := I2.list (sq_ext hq eN)
  have ev := (txare_of r).each
  refine PySem.W.sorted_key_data (R := IsTx) (b := false) kLam (by simpa using pl.isList) ev (PySem.W.AllAlike.of fun _ _ => rfl) (PySem.W.Sortable.tuples fun z => ⟨_, _, rfl⟩) h1 (fun x _ => ?_) (PyProof.Rows.ksk_s1 _ _) (fun x => PyProof.Rows.ksk_l1 _ _) (fun x => PyProof.Rows.ksk_t1 f x)
    (fun v z ⟨t, e⟩ hz2 h3 tk k3 => ?_) fun out c h' tk k4 fr ho lo eo => ?_
  · have : (kLam x).depth ≤ 1 := by simp [kLam, PyData.depth, PyData.depthAll]
    omega
  · subst e
    exact lam_turn I2 L hml hc hbd hf (fun v => hbind _ _ _ _ _ v) hd (A := X.A.in1.in1) (show X.A.in1.in1.depth < recursionLimit from hr) (h2 z hz2) k3
  · refine laid_sorted I2 k4 fr ho (each_vals ?_) (by rw [List.length_mergeSort]; exact h1) (fun p hn => q1 H2 eN hT2 p hn)
    rw [le_kLam] at eo
    exact eo
end
end L2.Lv
end
section
set_option maxRecDepth 100000
set_option maxHeartbeats 4000000
set_option autoImplicit false
namespace L2.Lv
open PySem PySem.Spec PyProof.Rows
/-! ### sorting, plainly -/
def insB {α : Type} (le : α → α → Bool) (x : α) : List α → List α
  | [] => [x]
  | y :: ys => if le x y then x :: y :: ys else y :: insB le x ys
def isort {α : Type} (le : α → α → Bool) : List α → List α
  | [] => []
  | x :: xs => insB le x (isort le xs)
theorem insB_at {α : Type} {le : α → α → Bool} {x : α} : ∀ (l₁ l₂ : List α), (∀ b, b ∈ l₁ → (!le x b) = true) → (∀ b, b ∈ l₂ → le x b = true) → insB le x (l₁ ++ l₂) = l₁ ++ x :: l₂
  | [], [], _, _ => rfl
  | [], b :: l, _, h => by
    show (if le x b then _ else _) = _
    rw [if_pos (h b List.mem_cons_self)]
    rfl
  | a :: l₁, l₂, h1, h2 => by
    show (if le x a then _ else a :: insB le x (l₁ ++ l₂)) = _
    have : le x a = false := by have := h1 a List.mem_cons_self; simpa using this
    rw [this, insB_at l₁ l₂ (fun b hb => h1 b (List.mem_cons_of_mem _ hb)) h2]
    rfl
theorem isort_is {α : Type} {le : α → α → Bool} (tr : ∀ a b c : α, le a b = true → le b c = true → le a c = true) (tt : ∀ a b : α, (le a b || le b a) = true) : ∀ l : List α, l.mergeSort le = isort le l
  | [] => by simp [isort]
  | a :: l => by
    obtain ⟨l₁, l₂, e1, e2, h⟩ := List.mergeSort_cons tr tt a l
    rw [e1]
    unfold isort
    rw [← isort_is tr tt l, e2]
    have sp := List.pairwise_mergeSort tr tt (a :: l)
    rw [e1] at sp
    have h2 : ∀ b, b ∈ l₂ → le a b = true := fun b hb => by
      have q := (List.pairwise_append.mp sp).2.1
      exact (List.pairwise_cons.mp q).1 b hb
    exact (insB_at l₁ l₂ h h2).symm
theorem insB_map {α β : Type} (f : α → β) {le : α → α → Bool} {le' : β → β → Bool} (e : ∀ a b, le' (f a) (f b) = le a b) (x : α) : ∀ l : List α, insB le' (f x) (l.map f) = (insB le x l).map f
  | [] => rfl
  | y :: ys => by
    show (if le' (f x) (f y) then _ else f y :: insB le' (f x) (ys.map f)) = _
    rw [e, insB_map f e x ys]
    show _ = (if le x y then x :: y :: ys else y :: insB le x ys).map f
    by_cases c : le x y = true
    · rw [if_pos c, if_pos c]; rfl
    · rw [if_neg c, if_neg c]; rfl
theorem isort_map {α β : Type} (f : α → β) {le : α → α → Bool} {le' : β → β → Bool} (e : ∀ a b, le' (f a) (f b) = le a b) : ∀ l : List α, isort le' (l.map f) = (isort le l).map f
  | [] => rfl
  | x :: xs => by
    show insB le' (f x) (isort le' (xs.map f)) = _
    rw [isort_map f e xs, insB_map f e]
    rfl
/-- the texts' order -/
def ltL : List Nat → List Nat → Bool
  | [], [] => false
  | [], _ :: _ => true
  | _ :: _, [] => false
  | x :: xs, y :: ys => if x < y then true else if x = y then ltL xs ys else false
theorem ltL_iff : ∀ a b : List Nat, ltL a b = true ↔ a < b
  | [], [] => by simp [ltL]
  | [], y :: ys => by simp [ltL]
  | x :: xs, [] => by simp [ltL]
  | x :: xs, y :: ys => by
    rw [List.cons_lt_cons_iff, ← ltL_iff xs ys]
    show (if x < y then true else if x = y then ltL xs ys else false) = true ↔ _
    by_cases c : x < y
    · simp [c]
    · by_cases d : x = y
      · simp [d]
      · simp [c, d]
theorem ltL_le (a b : List Nat) : decide (a ≤ b) = !ltL b a := by
  cases h : ltL b a with
  | true =>
    have := (ltL_iff b a).mp h
    simp only [Bool.not_true, decide_eq_false_iff_not]
    exact fun c => List.not_lt.mpr c this
  | false =>
    simp only [Bool.not_false, decide_eq_true_eq]
    refine List.not_lt.mp fun c => ?_
    rw [(ltL_iff b a).mpr c] at h
    cases h
/-- each once, ascending -/
def insU (x : List Nat) : List (List Nat) → List (List Nat)
  | [] => [x]
  | y :: ys => if ltL x y then x :: y :: ys else if x = y then y :: ys else y :: insU x ys
def sortU : List (List Nat) → List (List Nat)
  | [] => []
  | x :: xs => insU x (sortU xs)
theorem insU_mem (x z : List Nat) : ∀ l, z ∈ insU x l ↔ z = x ∨ z ∈ l
  | [] => by simp [insU]
  | y :: ys => by
    unfold insU
    split
    · simp
    · split
      · rename_i e; subst e; simp
      · rw [List.mem_cons, insU_mem x z ys, List.mem_cons]
        constructor
        · rintro (h | h | h) <;> simp [h]
        · rintro (h | h | h) <;> simp [h]
theorem sortU_mem (z : List Nat) : ∀ l, z ∈ sortU l ↔ z ∈ l
  | [] => by simp [sortU]
  | x :: xs => by unfold sortU; rw [insU_mem, sortU_mem z xs, List.mem_cons]
theorem insU_up (x : List Nat) : ∀ l : List (List Nat), l.Pairwise (· < ·) → (insU x l).Pairwise (· < ·)
  | [], _ => by simp [insU]
  | y :: ys, h => by
    unfold insU
    have h' := List.pairwise_cons.mp h
    by_cases c : ltL x y = true
    · rw [if_pos c]
      refine List.pairwise_cons.mpr ⟨fun b hb => ?_, h⟩
      have xy := (ltL_iff x y).mp c
      rcases List.mem_cons.mp hb with e | hb
      · rw [e]; exact xy
      · exact List.lt_trans xy (h'.1 b hb)
    · rw [if_neg c]
      by_cases d : x = y
      · rw [if_pos d]; exact h
      · rw [if_neg d]
        refine List.pairwise_cons.mpr ⟨fun b hb => ?_, insU_up x ys h'.2⟩
        rcases (insU_mem x b ys).mp hb with e | hb
        · rw [e]
          have le : y ≤ x := List.not_lt.mp fun z => c ((ltL_iff x y).mpr z)
          rcases List.le_iff_lt_or_eq.mp le with z | z
          · exact z
          · exact absurd z.symm d
        · exact h'.1 b hb
theorem sortU_up : ∀ l : List (List Nat), (sortU l).Pairwise (· < ·)
  | [] => .nil
  | x :: xs => insU_up x _ (sortU_up xs)
theorem up_one : ∀ (a b : List (List Nat)), a.Pairwise (· < ·) → b.Pairwise (· < ·) → (∀ z, z ∈ a ↔ z ∈ b) → a = b
  | [], [], _, _, _ => rfl
  | [], y :: b, _, _, h => absurd ((h y).mpr List.mem_cons_self) (by simp)
  | x :: a, [], _, _, h => absurd ((h x).mp List.mem_cons_self) (by simp)
  | x :: a, y :: b, ha, hb, h => by
    have ha' := List.pairwise_cons.mp ha
    have hb' := List.pairwise_cons.mp hb
    have e : x = y := by
      rcases List.mem_cons.mp ((h x).mp List.mem_cons_self) with e | q
      · exact e
      · rcases List.mem_cons.mp ((h y).mpr List.mem_cons_self) with e | q2
        · exact e.symm
        · exact absurd (List.lt_trans (hb'.1 x q) (ha'.1 y q2)) (List.lt_irrefl _)
    subst e
    rw [up_one a b ha'.2 hb'.2 fun z => ?_]
    constructor
    · intro q
      rcases List.mem_cons.mp ((h z).mp (List.mem_cons_of_mem _ q)) with e | q2
      · subst e; exact absurd (ha'.1 z q) (List.lt_irrefl _)
      · exact q2
    · intro q
      rcases List.mem_cons.mp ((h z).mpr (List.mem_cons_of_mem _ q)) with e | q2
      · subst e; exact absurd (hb'.1 z q) (List.lt_irrefl _)
      · exact q2
abbrev toS (s : List Nat) : Str := ⟨s.toArray⟩
theorem toS_cps (s : List Nat) : (toS s).cps.toList = s := by simp
theorem toS_len (s : List Nat) : (toS s).length = s.length := by simp [Str.length]
def lenLe (a b : List Nat) : Bool := decide (a.length ≤ b.length)
def lamLe (a b : List Nat) : Bool := if a.length = b.length then !ltL b a else decide (a.length < b.length)
theorem leLen_toS (a b : List Nat) : leLen (toS a) (toS b) = lenLe a b := by
  unfold leLen lenLe
  rw [toS_len, toS_len]
  exact decide_eq_decide.mpr (by omega)
theorem leLam_toS (a b : List Nat) : leLam (toS a) (toS b) = lamLe a b := by
  unfold leLam lamLe
  rw [toS_len, toS_len, toS_cps, toS_cps, ltL_le]
theorem lenLe_tr (a b c : List Nat) : lenLe a b = true → lenLe b c = true → lenLe a c = true := by
  unfold lenLe; simp only [decide_eq_true_eq]; omega
theorem lenLe_tt (a b : List Nat) : (lenLe a b || lenLe b a) = true := by
  unfold lenLe; simp only [Bool.or_eq_true, decide_eq_true_eq]; omega
theorem lamLe_tr (a b c : List Nat) : lamLe a b = true → lamLe b c = true → lamLe a c = true := by
  unfold lamLe
  intro h1 h2
  by_cases c1 : a.length = b.length
  · rw [if_pos c1] at h1
    by_cases c2 : b.length = c.length
    · rw [if_pos c2] at h2
      rw [if_pos (c1.trans c2)]
      rw [← ltL_le] at *
      exact decide_eq_true (List.le_trans (of_decide_eq_true h1) (of_decide_eq_true h2))
    · rw [if_neg c2] at h2
      rw [if_neg (by omega)]
      simp only [decide_eq_true_eq] at h2 ⊢
      omega
  · rw [if_neg c1] at h1
    simp only [decide_eq_true_eq] at h1
    by_cases c2 : b.length = c.length
    · rw [if_neg (by omega)]; exact decide_eq_true (by omega)
    · rw [if_neg c2] at h2
      simp only [decide_eq_true_eq] at h2
      rw [if_neg (by omega)]; exact decide_eq_true (by omega)
theorem lamLe_tt (a b : List Nat) : (lamLe a b || lamLe b a) = true := by
  unfold lamLe
  by_cases c : a.length = b.length
  · rw [if_pos c, if_pos c.symm, ← ltL_le, ← ltL_le]
    simp only [Bool.or_eq_true, decide_eq_true_eq]
    exact List.le_total _ _
  · rw [if_neg c, if_neg (Ne.symm c)]
    simp only [Bool.or_eq_true, decide_eq_true_eq]; omega
theorem toS_of (z : Str) : toS z.cps.toList = z := by cases z; simp
theorem toS_all (zs : List Str) : (zs.map fun z => z.cps.toList).map toS = zs := by
  rw [List.map_map]
  conv => rhs; rw [← List.map_id zs]
  exact List.map_congr_left fun z _ => toS_of z
theorem sort_len (l : List (List Nat)) : (l.map toS).mergeSort leLen = (isort lenLe l).map toS := by
  rw [isort_is, isort_map toS leLen_toS]
  · intro a b c
    unfold leLen
    simp only [decide_eq_true_eq]
    omega
  · intro a b
    unfold leLen
    simp only [Bool.or_eq_true, decide_eq_true_eq]
    omega
theorem sort_lam (l : List (List Nat)) : (l.map toS).mergeSort leLam = (isort lamLe l).map toS := by
  have e : ∀ a b : Str, leLam a b = lamLe a.cps.toList b.cps.toList := fun a b => by
    rw [← leLam_toS, toS_of, toS_of]
  rw [isort_is, isort_map toS leLam_toS]
  · intro a b c
    rw [e, e, e]
    exact lamLe_tr _ _ _
  · intro a b
    rw [e, e]
    exact lamLe_tt _ _
theorem sort_set {ys : List Str} {l : List (List Nat)} (h1 : ys.Pairwise ltS) (h2 : ∀ z, z ∈ ys ↔ z ∈ l.map toS) : ys = (sortU l).map toS := by
  have e : (ys.map fun z => z.cps.toList) = sortU l := by
    refine up_one _ _ (List.pairwise_map.mpr h1) (sortU_up l) fun z => ?_
    rw [sortU_mem, List.mem_map]
    constructor
    · rintro ⟨y, hy, rfl⟩
      obtain ⟨x, hx, ex⟩ := List.mem_map.mp ((h2 y).mp hy)
      rw [← ex, toS_cps]
      exact hx
    · intro hz
      exact ⟨toS z, (h2 _).mpr (List.mem_map.mpr ⟨z, hz, rfl⟩), toS_cps z⟩
  rw [← e, toS_all]
end L2.Lv
end
section
set_option maxRecDepth 100000
set_option maxHeartbeats 4000000
set_option autoImplicit false
namespace L2.Lv
open PySem PySem.Spec PyProof.Rows
def strsD : List D → Option (List (List Nat))
  | [] => some []
  | .str s :: r => match strsD r with
    | some l => some (s :: l)
    | none => none
  | _ :: _ => none
def pSortS (f : List (List Nat) → List (List Nat)) (d : D) (h : Hm) : Re D := match d with
  | .ref n => match itemsOf h n with
    | some xs => match strsD xs with
      | some zs => if zs.length < 4000 ∧ (zs.all fun z => decide (z.length ≤ big)) = true then newL ((f zs).map D.str) h else .no
      | none => .no
    | none => .no
  | _ => .no
section
variable {G : Gx} {X : Cx} {W : WX} {x y z : Expr} {xs : List Expr} {ma mb mc : ME} {mt mu : MT} {ms : MA} {pos : Pos} {r : List Addr} {H : Hp} {h : Hm}
theorem strsD_rep : ∀ {ds : List D} {vs : List V} {zs : List (List Nat)}, Reps G r H ds vs → strsD ds = some zs → vs = (zs.map toS).map V.str
  | [], _, zs, .nil, e => by cases e; rfl
  | d :: ds, _, zs, .cons q t, e => by
    cases q with
    | str s =>
      unfold strsD at e
      cases w : strsD ds with
      | none => rw [w] at e; cases e
      | some l =>
        rw [w] at e
        cases e
        rw [strsD_rep t w]
        rfl
    | _ => cases e
theorem reps_strs (zs : List (List Nat)) : Reps G r H (zs.map D.str) ((zs.map toS).map V.str) := by
  induction zs with
  | nil => exact .nil
  | cons z zs ih => exact .cons (.str z) ih
/-- a list of texts that is sorted: what is asked and what is left -/
theorem sortS_of {W' : XK} {f : List (List Nat) → List (List Nat)} {a : D} {x : V} {Q : V → Hp → Prop} (s : Sim G r H h) (ra : Rep G r H a x) (p : Post G W' (RD G) r H (pSortS f a h) Q) :
    ∃ (l : Addr) (zs : List (List Nat)), x = V.ref l ∧ SqL G.K H l ((zs.map toS).map V.str) ∧ zs.length < 4000 ∧ (∀ z ∈ zs, z.length ≤ big) ∧ Post G W' (RD G) r H (newL ((f zs).map D.str) h) Q := by
  unfold pSortS at p
  cases ra with
  | ref hn =>
    dsimp only at p
    split at p
    · rename_i ds e
      split at p
      · rename_i zs e2
        split at p
        · rename_i c
          obtain ⟨c1, c2⟩ := c
          obtain ⟨vs, e1, rs⟩ := items_seq s hn e
          have e4 := strsD_rep rs e2
          subst e4
          exact ⟨_, zs, rfl, e1, c1, fun z hz => by simpa using List.all_eq_true.mp c2 z hz, p⟩
        · exact p.elim
      · exact p.elim
    · exact p.elim
  | _ => exact p.elim
theorem se_sortSet {k : Nat} {np np2 q : Pos} (hK : X.K = G.K) (hc : X.calm = true) (hr : Room k X.A) (hm : X.mg "sorted" = none) (hm2 : X.mg "set" = none) (ha : SE G X W x ma) (hg : Gl X "sorted" := by rfl) (hg2 : Gl X "set" := by rfl)
    (na : starEach [x] X.env = (false, eval x X.env) :: starEach [] X.env := by rfl) : SE G X W (.Call (.Name "sorted" np) [.Call (.Name "set" np2) [x] [] q] [] pos) (mUn (pSortS sortU) ma) := by
  refine ⟨pe_imp (pe_sortSet hc (by have := hr.un; omega) hg hm hg2 hm2 ha.pe na) fun σ H Q u => ?_⟩
  obtain ⟨r, h, e, s, en, p⟩ := u
  refine uG_weak (stepP s en p) ?_
  rintro v H1 ⟨r1, h1, a, g1, s1, en1, ra, p1⟩
  obtain ⟨l, zs, rfl, sq, b1, b2, p2⟩ := sortS_of s1 ra p1
  rw [hK]
  refine ⟨l, _, rfl, sq, by rw [List.length_map]; exact b1, fun ys pp hy hmem _ hn => ?_⟩
  rw [sort_set hy hmem]
  exact (post_newL s1 (reps_strs (sortU zs)) p2).2 pp hn
theorem big_str {z : List Nat} (h : z.length ≤ big) : (toS z).length ≤ sizeLine := by rw [toS_len]; exact big_le h
theorem se_sortLen {k : Nat} {np np2 kp : Pos} (hK : X.K = G.K) (hr : Room k X.A) (hm : X.mg "sorted" = none) (hm2 : X.mg "len" = none) (ha : SE G X W x ma) (hg : Gl X "sorted" := by rfl) (hg2 : Gl X "len" := by rfl)
    (na : starEach [x] X.env = (false, eval x X.env) :: starEach [] X.env := by rfl) : SE G X W (.Call (.Name "sorted" np) [x] [⟨some "key", .Name "len" np2, kp⟩] pos) (mUn (pSortS (isort lenLe)) ma) := by
  refine ⟨pe_imp (pe_sortLen (by have := hr.un; omega) hg hm hg2 hm2 ha.pe na) fun σ H Q u => ?_⟩
  obtain ⟨r, h, e, s, en, p⟩ := u
  refine uG_weak (stepP s en p) ?_
  rintro v H1 ⟨r1, h1, a, g1, s1, en1, ra, p1⟩
  obtain ⟨l, zs, rfl, sq, b1, b2, p2⟩ := sortS_of s1 ra p1
  rw [hK]
  refine ⟨l, _, rfl, sq, by rw [List.length_map, sizeLine_eq]; omega, fun z hz => ?_, fun pp hn => ?_⟩
  · obtain ⟨y, hy, rfl⟩ := List.mem_map.mp hz
    exact big_str (b2 y hy)
  · rw [sort_len]
    exact (post_newL s1 (reps_strs (isort lenLe zs)) p2).2 pp hn
theorem se_sortLam {k : Nat} {n : Str} {scope : Scope} {params : Arguments} {cc P : Addr} {bd : Expr} {np p1 p2 p3 p4 p5 lpos kp : Pos} {k5 : Nat} (hK : X.K = G.K) (hr : Room k X.A) (hm : X.mg "sorted" = none) (hml : X.mg "len" = none) (L : LK n scope) (TB : LamX.TabB X.base X.mg cc P) (hcode : X.env.code = .ref cc)
    (hmT : (P, X.env.qual ++ "<lambda>") ∈ G.T) (huT : ∀ y ∈ G.T, y.1 = P → y.2 = X.env.qual ++ "<lambda>") (hbd : bd = .Tuple [.Call (.Name "len" p1) [.Name n p2] [] p3, .Name n p4] k5 p5) (hdef : defaultsOf params X.env = ([], []))
    (hbind : ∀ (q : Str) (cl : List (Str × Addr)) (pm cv ctv v : Value), bindArgs (PySem.W.kla_fn "<lambda>" q params bd scope cl pm cv ctv) ⟨[v], []⟩ = pure [(n, v)]) (ha : SE G X W x ma) (hg : Gl X "sorted" := by rfl) (hd : (n == ("__debug__" : Str)) = false := by decide)
    (na : starEach [x] X.env = (false, eval x X.env) :: starEach [] X.env := by rfl) : SE G X W (.Call (.Name "sorted" np) [x] [⟨some "key", .Lambda params bd scope lpos, kp⟩] pos) (mUn (pSortS (isort lamLe)) ma) := by
  refine ⟨pe_imp (pe_sortLam (T := G.T) hbd (by have := hr.un; omega) hr.depth hg hm hml L hd TB hcode hmT huT hdef hbind ha.pe na) fun σ H Q u => ?_⟩
  obtain ⟨r, h, e, s, en, p⟩ := u
  refine uG_weak (stepP s en p) ?_
  rintro v H1 ⟨r1, h1, a, g1, s1, en1, ra, p1⟩
  obtain ⟨l, zs, rfl, sq, b1, b2, p2⟩ := sortS_of s1 ra p1
  rw [hK]
  refine ⟨l, _, rfl, sq, by rw [List.length_map, sizeLine_eq]; omega, fun z hz => ?_, s1.tb, fun H2 eN t2 pp hn => ?_⟩
  · obtain ⟨y, hy, rfl⟩ := List.mem_map.mp hz
    exact big_str (b2 y hy)
  · rw [sort_lam]
    obtain ⟨s2, g2⟩ := sim_ext s1 eN t2
    exact (post_newL s2 (reps_strs (isort lamLe zs)) (Post.mono g2 p2)).2 pp hn
end
end L2.Lv
end
section
set_option maxRecDepth 100000
set_option maxHeartbeats 4000000
set_option autoImplicit false
namespace L2.Lv
open PySem PySem.Spec PyProof.Rows
section
variable {G : Gx} {X : Cx} {W : WX} {x y z : Expr} {xs : List Expr} {ma mb mc : ME} {mt mu : MT} {ms : MA} {pos : Pos} {r : List Addr} {H : Hp} {h : Hm}
/-! ### a <= b < c -/
def mChain (p q : D → D → Hm → Re D) (a b c : ME) : ME := fun e h => (a e h).bind fun x h1 => (b e h1).bind fun y h2 => (p x y h2).bind fun k h3 => match k with
  | .bl true => (c e h3).bind fun w h4 => q y w h4
  | .bl false => .ok (.bl false) h3
  | _ => .no
theorem chain_of {rr rr' : R2} {p q : D → D → Hm → Re D} (hp : Prim2 G rr p) (hq : Prim2 G rr' q) {σ : L2.St} {H : Hp} {Q : VK} (u : uE G W (mChain p q ma mb mc) σ H Q) : tChain rr rr' (uE G W ma) (uE G W mb) (uE G W mc) σ H Q := by
  obtain ⟨r, h, e, s, en, p0⟩ := u
  refine uG_weak (stepP s en p0) ?_
  rintro v H1 ⟨r1, h1, a, g1, s1, en1, ra, p1⟩
  refine uG_weak (stepP s1 en1 p1) ?_
  rintro w H2 ⟨r2, h2, b, g2, s2, en2, rb, p2⟩
  refine hp _ r2 H2 h2 a b v w _ s2 (ra.mono g2) rb ((Post.bind p2).weak ?_)
  rintro k H3 ⟨r3, h3, d, g3, s3, rd, p3⟩
  cases rd with
  | bl t =>
    refine ⟨t, rfl, ?_⟩
    cases t with
    | true =>
      rw [if_pos rfl]
      refine uG_weak (stepP s3 (en2.mono g3) p3) ?_
      rintro u H4 ⟨r4, h4, c, g4, s4, en4, rc, p4⟩
      exact hq _ r4 H4 h4 b c w u Q s4 ((rb.mono g3).mono g4) rc p4
    | false =>
      rw [if_neg (by simp)]
      exact p3 (.bl false) H3 r3 Gr.refl s3 (.bl false)
  | _ => exact p3.elim
theorem se_chain {op op' : CmpOp} {rr rr' : R2} {p q : D → D → Hm → Re D} (ho : OpR X (compareOp op) rr) (hp : Prim2 G rr p) (ho' : OpR X (compareOp op') rr') (hq : Prim2 G rr' q) (ha : SE G X W x ma) (hb : SE G X W y mb) (hc : SE G X W z mc) (hm : lastMarks [op, op'] [y, z] = false := by rfl) :
    SE G X W (.Compare x [op, op'] [y, z] pos) (mChain p q ma mb mc) := ⟨pe_imp (pe_chain ho ho' ha.pe hb.pe hc.pe hm) fun _ _ _ u => chain_of hp hq u⟩
theorem st_chain {op op' : CmpOp} {rr rr' : R2} {p q : D → D → Hm → Re D} (ho : OpR X (compareOp op) rr) (hp : Prim2 G rr p) (ho' : OpR X (compareOp op') rr') (hq : Prim2 G rr' q) (ha : SE G X W x ma) (hb : SE G X W y mb) (hc : SE G X W z mc) (hm : lastMarks [op, op'] [y, z] = false := by rfl) :
    ST G X W (.Compare x [op, op'] [y, z] pos) (mTb (mChain p q ma mb mc)) := by
  refine ⟨pt_imp (pt_chain ho ho' ha.pe hb.pe hc.pe hm) fun σ H Q u => ?_⟩
  have w : uE G W (mChain p q ma mb mc) σ H (fun x H' => ∃ k, x = .bl k ∧ Q k H') := by
    obtain ⟨r, h, e, s, en, p0⟩ := u
    refine uG_weak (stepP s en p0) ?_
    rintro v H1 ⟨r1, h1, a, g1, s1, en1, ra, p1⟩
    cases ra with
    | bl b => exact ⟨b, rfl, p1 b H1 r1 Gr.refl s1 rfl⟩
    | _ => exact p1.elim
  exact chain_of hp hq w
/-! ### slices -/
def sIxN (n d : Nat) : Option Int → Nat
  | none => d
  | some v => if v < 0 then (v + (n : Int)).toNat else min v.toNat n
def cutD {α : Type} (xs : List α) (lo hi : Option Int) : List α := (xs.drop (sIxN xs.length 0 lo)).take (sIxN xs.length xs.length hi - sIxN xs.length 0 lo)
abbrev MO := En → Hm → Re (Option Int)
def oNone : MO := fun _ h => .ok none h
def oSome (a : ME) : MO := fun e h => (a e h).bind fun d h1 => match d with
  | .int i => .ok (some i) h1
  | _ => .no
structure SO (G : Gx) (X : Cx) (W : WX) (x : Option Expr) (m : MO) : Prop where
  po : PO X x (uG G W (fun _ _ a b => a = b) m)
theorem po_imp {e : Option Expr} {t t' : TO} (h : PO X e t) (w : ∀ σ H Q, t' σ H Q → t σ H Q) : PO X e t' := ⟨fun pins s σ H Q I q => h.run pins s σ H Q I (w σ H Q q)⟩
theorem so_none : SO G X W none oNone := ⟨po_imp po_none fun σ H Q u => by
  obtain ⟨r, h, e, s, en, p⟩ := u
  exact p none H r Gr.refl s rfl⟩
theorem so_some (ha : SE G X W x ma) : SO G X W (some x) (oSome ma) := ⟨po_imp (po_some ha.pe) fun σ H Q u => by
  obtain ⟨r, h, e, s, en, p⟩ := u
  refine uG_weak (stepP s en p) ?_
  rintro v H1 ⟨r1, h1, a, g1, s1, en1, ra, p1⟩
  cases ra with
  | int i => exact ⟨i, rfl, p1 (some i) H1 r1 Gr.refl s1 rfl⟩
  | _ => exact p1.elim⟩
def pCut (a : D) (lo hi : Option Int) (h : Hm) : Re D := match a with
  | .ref n => match itemsOf h n with
    | some xs => newL (cutD xs lo hi) h
    | none => .no
  | .tup xs => .ok (.tup (cutD xs lo hi)) h
  | _ => .no
def mSlice (a : ME) (lo hi : MO) : ME := fun e h => (a e h).bind fun d h1 => (lo e h1).bind fun l h2 => (hi e h2).bind fun u h3 => pCut d l u h3
theorem reps_cut {ds : List D} {vs : List V} (q : Reps G r H ds vs) (lo hi : Option Int) : Reps G r H (cutD ds lo hi) (cutV vs lo hi) := by
  unfold cutD cutV
  rw [q.length]
  exact (q.drop _).take _
theorem cut_all {vs : List V} {lo hi : Option Int} (c : HT.sIx vs.length 0 lo = 0 ∧ HT.sIx vs.length vs.length hi = vs.length) : cutV vs lo hi = vs := by
  unfold cutV
  rw [c.1, c.2]
  simp
theorem se_slice {lo hi : Option Expr} {ml mh : MO} {p2 : Pos} (hK : X.K = G.K) (ha : SE G X W x ma) (hl : SO G X W lo ml) (hh : SO G X W hi mh) : SE G X W (.Subscript x (.Slice lo hi none p2) pos) (mSlice ma ml mh) := by
  refine ⟨pe_imp (pe_slice (SlR.or sl_list sl_tupA) ha.pe hl.po hh.po) fun σ H Q u => ?_⟩
  obtain ⟨r, h, e, s, en, p⟩ := u
  refine uG_weak (stepP s en p) ?_
  rintro v H1 ⟨r1, h1, a, g1, s1, en1, ra, p1⟩
  refine uG_weak (stepP s1 en1 p1) ?_
  rintro l H2 ⟨r2, h2, l', g2, s2, en2, el, p2⟩
  refine uG_weak (stepP s2 en2 p2) ?_
  rintro u H3 ⟨r3, h3, u', g3, s3, en3, eu, p3⟩
  have el : l' = l := el
  have eu : u' = u := eu
  subst el eu
  have ra3 := (ra.mono g2).mono g3
  rw [hK]
  unfold pCut at p3
  cases ra3 with
  | tup e1 e2 =>
    refine .inr ⟨_, _, rfl, e1, fun c => ?_, fun c q hq => ?_⟩
    · have rr := reps_cut e2 l' u'
      rw [cut_all c] at rr
      exact p3 _ H3 r3 Gr.refl s3 (.tup e1 rr)
    · exact p3 (.ref q) _ r3 (gr_fresh hq) (s3.fresh hq) (.tup (SqT.of upd_same) ((reps_cut e2 l' u').mono (gr_fresh hq)))
  | ref hn =>
    dsimp only at p3
    split at p3
    · rename_i ds e1
      obtain ⟨vs, sq, rs⟩ := items_seq s3 hn e1
      exact .inl ⟨_, vs, rfl, sq, (post_newL s3 (reps_cut rs l' u') p3).2⟩
    · exact p3.elim
  | _ => exact p3.elim
/-! ### sorted(ints) -/
def pSortI (d : D) (h : Hm) : Re D := match d with
  | .ref n => match itemsOf h n with
    | some xs => match intsD xs with
      | some ns => newL ((isort (fun i j => decide (i ≤ j)) ns).map D.int) h
      | none => .no
    | none => .no
  | _ => .no
theorem intsD_rep' : ∀ {ds : List D} {vs : List V} {ns : List Int}, Reps G r H ds vs → intsD ds = some ns → vs = ns.map V.int
  | [], _, ns, .nil, e => by cases e; rfl
  | d :: ds, _, ns, .cons q t, e => by
    cases q with
    | int i =>
      unfold intsD at e
      cases w : intsD ds with
      | none => rw [w] at e; cases e
      | some l =>
        rw [w] at e
        cases e
        rw [intsD_rep' t w]
        rfl
    | _ => cases e
theorem reps_ints' (ns : List Int) : Reps G r H (ns.map D.int) (ns.map V.int) := by
  induction ns with
  | nil => exact .nil
  | cons n ns ih => exact .cons (.int n) ih
theorem leI_tr (a b c : Int) : decide (a ≤ b) = true → decide (b ≤ c) = true → decide (a ≤ c) = true := by simp only [decide_eq_true_eq]; omega
theorem leI_tt (a b : Int) : (decide (a ≤ b) || decide (b ≤ a)) = true := by simp only [Bool.or_eq_true, decide_eq_true_eq]; omega
theorem sorted_one : ∀ (a b : List Int), a.Perm b → a.Pairwise (· ≤ ·) → b.Pairwise (· ≤ ·) → a = b
  | a, b, p, ha, hb => p.eq_of_pairwise (fun x y _ _ h1 h2 => Int.le_antisymm h1 h2) ha hb
theorem prim_sortI : PrimC G (rSortedI G.K) (fun as h => match as with | [d] => pSortI d h | _ => .no) := by
  intro W r H h as xs Q s ra p
  cases ra with
  | nil => exact p.elim
  | cons q t =>
    cases t with
    | cons _ _ => exact p.elim
    | nil =>
      dsimp only at p
      unfold pSortI at p
      cases q with
      | ref hn =>
        dsimp only at p
        split at p
        · rename_i ds e1
          split at p
          · rename_i ns e2
            obtain ⟨vs, sq, rs⟩ := items_seq s hn e1
            have ev := intsD_rep' rs e2
            subst ev
            refine ⟨_, ns, rfl, sq, fun ns' pp hp hs hn => ?_⟩
            have e3 : ns' = isort (fun i j => decide (i ≤ j)) ns := by
              rw [← isort_is leI_tr leI_tt]
              refine sorted_one _ _ (hp.trans (List.mergeSort_perm _ _).symm) hs ?_
              exact (List.pairwise_mergeSort leI_tr leI_tt ns).imp fun h => of_decide_eq_true h
            rw [e3]
            exact (post_newL s (reps_ints' _) p).2 pp hn
          · exact p.elim
        · exact p.elim
      | _ => exact p.elim
theorem e_sortI {np : Pos} (hK : X.K = G.K) (hm : X.mg "sorted" = none) (ha : SE G X W x ma) (hg : Gl X "sorted" := by rfl) (he : starEach [x] X.env = (false, eval x X.env) :: starEach [] X.env := by rfl) (hpl : (backTo pos (starEach [] X.env)).any (·.1) = false := by rfl) :
    SE G X W (.Call (.Name "sorted" np) [x] [] pos) (mUn pSortI ma) := by
  refine ⟨pe_imp (se_callB (hK ▸ cr_sortedI) prim_sortI hm (by decide +kernel) (sa_cons ha sa_nil he) hg (by decide) (by decide) he hpl).pe fun σ H Q u => ?_⟩
  obtain ⟨r, h, e, s, en, p⟩ := u
  refine ⟨r, h, e, s, en, ?_⟩
  have : mApp (fun as h => match as with | [d] => pSortI d h | _ => .no) (mCons ma mNil) e h = mUn pSortI ma e h := by
    unfold mApp mCons mNil mUn
    cases ma e h <;> rfl
  rw [this]
  exact p
end
end L2.Lv
end
section
set_option maxRecDepth 100000
set_option maxHeartbeats 4000000
set_option autoImplicit false
namespace L2.Lv
open PySem PySem.Spec PyProof.Rows
abbrev KyD := Sum Int (List Nat)
def keyOfD : D → Option KyD
  | .int i => some (.inl i)
  | .str s => some (.inr s)
  | _ => none
def keyToD : KyD → D
  | .inl i => .int i
  | .inr s => .str s
def findKD (kvs : List (KyD × D)) (k : KyD) : Option D := (kvs.find? fun kv => decide (kv.1 = k)).map (·.2)
def putKD (kvs : List (KyD × D)) (k : KyD) (d : D) : List (KyD × D) := if (kvs.any fun kv => decide (kv.1 = k)) = true then kvs.map (fun kv => if kv.1 = k then (kv.1, d) else kv) else kvs ++ [(k, d)]
section
variable {G : Gx} {X : Cx} {W : WX} {x y z : Expr} {xs : List Expr} {ma mb mc : ME} {mt mu : MT} {ms : MA} {pos : Pos} {r : List Addr} {H : Hp} {h : Hm}
theorem keyD_inj {a b : KyD} : keyD a = keyD b ↔ a = b := by
  constructor
  · intro e
    cases a with
    | inl i => cases b with
      | inl j => cases e; rfl
      | inr t => cases e
    | inr s => cases b with
      | inl j => cases e
      | inr t =>
        have : s.toArray = t.toArray := by
          have e' : (⟨s.toArray⟩ : Str) = ⟨t.toArray⟩ := Sum.inr.inj e
          exact congrArg Str.cps e'
        rw [show s = t by simpa using congrArg Array.toList this]
  · intro e; rw [e]
theorem DkR.find {kvs : List (KyD × D)} {vs : List (Key × V)} (q : DkR G r H kvs vs) (k : KyD) : (findKD kvs k = none ∧ valV vs (keyD k) = none) ∨ ∃ d v, findKD kvs k = some d ∧ valV vs (keyD k) = some v ∧ Rep G r H d v := by
  induction q with
  | nil => exact .inl ⟨rfl, rfl⟩
  | @cons k0 d v fs us a t ih =>
    by_cases c : k0 = k
    · subst c
      exact .inr ⟨d, v, by simp [findKD], valV_pos rfl, a⟩
    · have c' : ¬ keyD k0 = keyD k := fun e => c (keyD_inj.mp e)
      rw [valV_neg c']
      have : findKD ((k0, d) :: fs) k = findKD fs k := by simp [findKD, List.find?_cons, c]
      rw [this]
      exact ih
theorem DkR.len : ∀ {kvs : List (KyD × D)} {vs : List (Key × V)}, DkR G r H kvs vs → kvs.length = vs.length
  | _, _, .nil => rfl
  | _, _, .cons _ t => congrArg (· + 1) t.len
theorem DkR.anyK {kvs : List (KyD × D)} {vs : List (Key × V)} (q : DkR G r H kvs vs) (k : KyD) : (kvs.any fun kv => decide (kv.1 = k)) = vs.any fun kv => decide (kv.1 = keyD k) := by
  induction q with
  | nil => rfl
  | @cons k0 d v fs us a t ih =>
    rw [List.any_cons, List.any_cons, ih]
    congr 1
    exact decide_eq_decide.mpr keyD_inj.symm
theorem DkR.app {kvs : List (KyD × D)} {vs : List (Key × V)} {k : KyD} {d : D} {v : V} (q : DkR G r H kvs vs) (a : Rep G r H d v) : DkR G r H (kvs ++ [(k, d)]) (vs ++ [(keyD k, v)]) := by
  induction q with
  | nil => exact .cons a .nil
  | cons b t ih => exact .cons b ih
theorem DkR.put {kvs : List (KyD × D)} {vs : List (Key × V)} {k : KyD} {d : D} {v : V} (q : DkR G r H kvs vs) (a : Rep G r H d v) : DkR G r H (putKD kvs k d) (putK vs (keyD k) v) := by
  unfold putKD putK
  rw [q.anyK k]
  split
  · have m : ∀ {kvs : List (KyD × D)} {vs : List (Key × V)}, DkR G r H kvs vs → DkR G r H (kvs.map fun kv => if kv.1 = k then (kv.1, d) else kv) (vs.map fun kv => if kv.1 = keyD k then (kv.1, v) else kv) := by
      intro kvs vs q
      induction q with
      | nil => exact .nil
      | @cons k0 d0 v0 fs us b t ih =>
        rw [List.map_cons, List.map_cons]
        by_cases c : k0 = k
        · rw [if_pos c, if_pos (by rw [c])]; exact .cons a ih
        · rw [if_neg c, if_neg (fun e => c (keyD_inj.mp e))]; exact .cons b ih
    exact m q
  · exact q.app a
theorem key_rep {d : D} {v : V} {k : KyD} (q : Rep G r H d v) (e : keyOfD d = some k) : v = kV (keyD k) := by
  cases q with
  | int i => cases e; rfl
  | str s => cases e; rfl
  | _ => cases e
theorem keyTo_rep (k : KyD) : Rep G r H (keyToD k) (kV (keyD k)) := by
  cases k with
  | inl i => exact .int i
  | inr s => exact .str s
/-- d[k], k there -/
def pIdxK (a b : D) (h : Hm) : Re D := match a, keyOfD b with
  | .ref n, some k => match h[n]? with
    | some (.dk kvs) => match findKD kvs k with
      | some d => .ok d h
      | none => .no
    | _ => .no
  | _, _ => .no
theorem se_dget {k : Nat} (hr : Room k X.A) (ha : SE G X W x ma) (hb : SE G X W y mb) (hs : NoSl y := by intro _ _; rfl) : SE G X W (.Subscript x y pos) (mBin pIdxK ma mb) := by
  refine ⟨pe_imp (pe_dget (by have := hr.un; omega) ha.pe hb.pe hs) fun σ H Q u => ?_⟩
  obtain ⟨r, h, e, s, en, p⟩ := u
  refine uG_weak (stepP s en p) ?_
  rintro v H1 ⟨r1, h1, a, g1, s1, en1, ra, p1⟩
  refine uG_weak (stepP s1 en1 p1) ?_
  rintro w H2 ⟨r2, h2, b, g2, s2, en2, rb, p2⟩
  unfold pIdxK at p2
  have ra2 := ra.mono g2
  cases ra2 with
  | @ref n aa hn =>
    cases ek : keyOfD b with
    | none => rw [ek] at p2; exact p2.elim
    | some k =>
      rw [ek] at p2
      dsimp only at p2
      obtain ⟨ob, e1, o⟩ := s2.get hn
      rw [e1] at p2
      cases ob with
      | dk kvs =>
        obtain ⟨vs, q1, q2⟩ := o
        dsimp only at p2
        rcases q2.find k with ⟨z1, z2⟩ | ⟨d, v, z1, z2, rd⟩
        · rw [z1] at p2; exact p2.elim
        · rw [z1] at p2
          refine ⟨aa, v, rfl, ?_, p2 v H2 r2 Gr.refl s2 rd⟩
          rw [key_rep rb ek, ← z2]
          exact DGet.k q1
      | _ => exact p2.elim
  | _ => exact p2.elim
/-- d[k] = v -/
def mPutK (o i v : ME) : MS := fun e h => (v e h).bs e fun d h1 => (o e h1).bs e fun x h2 => (i e h2).bs e fun y h3 => match x, keyOfD y with
  | .ref n, some k => match h3[n]? with
    | some (.dk kvs) => if kvs.length < big then .nx e (h3.set n (.dk (putKD kvs k d))) else .no
    | _ => .no
  | _, _ => .no
theorem ss_putK {k : Nat} {pt : Pos} (hr : Room k X.A) (hv : SE G X W z mc) (ho : SE G X W x ma) (hi : SE G X W y mb) (hs : swapsWith z (some (.Subscript x y pt)) pos.line X.env = pure false := by rfl) : SS G X W (.Assign [.Subscript x y pt] z pos) (mPutK ma mb mc) := by
  refine ⟨ps_imp (ps_dput (by have := hr.un; omega) ho.pe hi.pe hv.pe hs) fun Z σ H u => ?_⟩
  obtain ⟨r, h, e, s, en, p⟩ := u
  refine uG_weak (stepS s en p) ?_
  rintro v H1 ⟨r1, h1, d, g1, s1, en1, rd, p1⟩
  refine uG_weak (stepS s1 en1 p1) ?_
  rintro o H2 ⟨r2, h2, x, g2, s2, en2, rx, p2⟩
  refine uG_weak (stepS s2 en2 p2) ?_
  rintro w H3 ⟨r3, h3, y, g3, s3, en3, ry, p3⟩
  have rx3 := rx.mono g3
  cases rx3 with
  | @ref n aa hn =>
    cases ek : keyOfD y with
    | none => rw [ek] at p3; exact p3.elim
    | some k =>
      rw [ek] at p3
      dsimp only at p3
      obtain ⟨ob, e1, oo⟩ := s3.get hn
      rw [e1] at p3
      cases ob with
      | dk kvs =>
        obtain ⟨vs, q1, q2⟩ := oo
        dsimp only at p3
        split at p3
        · rename_i c
          obtain ⟨s4, g4⟩ := s3.put (ob := .dk (putKD kvs k d)) (o := .dK (putK vs (keyD k) v)) hn fun g => ⟨_, upd_same, (q2.mono g).put (((rd.mono g2).mono g3).mono g)⟩
          refine ⟨aa, _, rfl, ?_, p3 σ _ r3 g4 s4 (en3.mono g4)⟩
          rw [key_rep ry ek]
          exact DPut.k q1 (by rw [← q2.len]; have := big_le (Nat.le_of_lt c); rw [sizeLine_eq] at *; unfold big at c; omega)
        · exact p3.elim
      | _ => exact p3.elim
  | _ => exact p3.elim
/-! a written dict: texts as keys -/
def mDisp (ks : List (List Nat)) (a : MA) : ME := fun e h => (a e (h ++ [.dk []])).bind fun ds h1 => match h1[h.length]? with
  | some (.dk []) => if ds.length = ks.length ∧ ks.length ≤ 15 then .ok (.ref h.length) (h1.set h.length (.dk ((ks.map Sum.inr).zip ds))) else .no
  | _ => .no
structure SP (G : Gx) (X : Cx) (W : WX) (pos : Pos) (keys : List (Option Expr)) (vals : List Expr) (ks : List (List Nat)) (m : MA) : Prop where
  mk :: (ex : ∃ trs, PPs X pos keys vals trs ∧ (∀ σ H (Q : List (V × V) → Hp → Prop), (∃ r h e, Sim G r H h ∧ EnR G r H e σ ∧ Post G (fun c d H' => W c d σ H') (fun r H ds ps => ∃ vs, ps = (ks.map fun k => V.str (toS k)).zip vs ∧ Reps G r H ds vs ∧ vs.length = ks.length) r H (m e h) Q) → tPairs trs σ H Q) ∧ keys.all (·.isSome) = true ∧ keys.length = vals.length ∧ keys.length = ks.length)
theorem sp_nil : SP G X W pos [] [] [] mNil := ⟨[], pps_nil, fun σ H Q u => by
  obtain ⟨r, h, e, s, en, p⟩ := u
  exact p [] H r Gr.refl s ⟨[], rfl, .nil, rfl⟩, rfl, rfl, rfl⟩
theorem sp_cons {k : List Nat} {t : Str} {ix : Nat} {kp : Pos} {keys : List (Option Expr)} {vals : List Expr} {ks : List (List Nat)} (hv : SE G X W x ma) (hr : SP G X W pos keys vals ks ms) (ht : t = toS k := by decide +kernel) : SP G X W pos (some (.Constant (.str t) ix kp) :: keys) (x :: vals) (k :: ks) (mCons ma ms) := by
  subst ht
  obtain ⟨trs, h1, h2, h3, h4, h5⟩ := hr.ex
  refine ⟨_, pps_cons pe_str hv.pe h1, fun σ H Q u => ?_, by simpa using h3, by simp [h4], by simp [h5]⟩
  obtain ⟨r, h, e, s, en, p⟩ := u
  have p' : Post G (fun c d H' => W c d σ H') (fun r H ds ps => ∃ vs, ps = ((k :: ks).map fun k => V.str (toS k)).zip vs ∧ Reps G r H ds vs ∧ vs.length = (k :: ks).length) r H ((ma e h).bind fun x h1 => (ms e h1).bind fun xs h2 => .ok (x :: xs) h2) Q := p
  show uE G W ma σ H _
  refine uG_weak ⟨r, h, e, s, en, Post.bind p'⟩ ?_
  rintro v H1 ⟨r1, hh1, a, g1, s1, ra, p1⟩
  refine h2 σ H1 _ ⟨r1, hh1, e, s1, en.mono g1, (Post.bind p1).weak ?_⟩
  rintro ps H2 ⟨r2, hh2, as, g2, s2, ⟨vs, rfl, rs, lv⟩, p2⟩
  exact p2 _ H2 r2 Gr.refl s2 ⟨v :: vs, rfl, .cons (ra.mono g2) rs, by simp [lv]⟩
theorem merge_new : ∀ (kvs : List (Key × V)) (acc : List (Key × V)), (kvs.map (·.1)).Nodup → (∀ a ∈ acc, ∀ b ∈ kvs, a.1 ≠ b.1) → mergeK acc kvs = acc ++ kvs
  | [], acc, _, _ => by simp [mergeK]
  | kv :: r, acc, nd, dj => by
    have nd' := List.nodup_cons.mp nd
    have no : (acc.any fun c => decide (c.1 = kv.1)) = false := by
      rw [List.any_eq_false]
      intro a ha
      simpa using dj a ha kv List.mem_cons_self
    have e1 : mergeK acc (kv :: r) = mergeK (acc ++ [kv]) r := by
      show mergeK (putK acc kv.1 kv.2) r = _
      unfold putK
      rw [no, if_neg (by simp)]
    rw [e1, merge_new r (acc ++ [kv]) nd'.2 fun a ha b hb => ?_]
    · simp
    · rcases List.mem_append.mp ha with q | q
      · exact dj a q b (List.mem_cons_of_mem _ hb)
      · rw [List.mem_singleton.mp q]
        exact fun z => nd'.1 (List.mem_map.mpr ⟨b, hb, z.symm⟩)
theorem se_disp {keys : List (Option Expr)} {vals : List Expr} {ks : List (List Nat)} (hv : SP G X W pos keys vals ks ms) (nd : ks.Nodup) (h0 : keys ≠ []) (h15 : keys.length ≤ 15) : SE G X W (.Dict keys vals pos) (mDisp ks ms) := by
  obtain ⟨trs, h1, h2, h3, h4, h5⟩ := hv.ex
  refine ⟨pe_imp (pe_disp h1 h3 h4 h0 h15) fun σ H Q u => ?_⟩
  obtain ⟨r, h, e, s, en, p⟩ := u
  intro pp hn
  have s1 : Sim G (r ++ [pp]) (upd H pp (.dK [])) (h ++ [.dk []]) := s.new (ob := .dk []) hn ⟨[], upd_same, .nil⟩
  have g1 : Gr G r H (r ++ [pp]) (upd H pp (.dK [])) := gr_new hn
  have atp : (r ++ [pp])[h.length]? = some pp := new_at s pp
  refine h2 σ _ _ ⟨_, _, e, s1, en.mono g1, ?_⟩
  have pb := Post.mono g1 p
  unfold mDisp at pb
  revert pb
  cases q : ms e (h ++ [.dk []]) with
  | no => intro pb; exact pb
  | ex c d h' => intro pb; exact pb
  | ok ds hh2 =>
    intro pb ps H2 r2 g2 s2 ⟨vs, eps, rs, lv⟩
    have pb' : Post G (fun c d H' => W c d σ H') (RD G) (r ++ [pp]) (upd H pp (.dK [])) (match hh2[h.length]? with
      | some (.dk []) => if ds.length = ks.length ∧ ks.length ≤ 15 then .ok (.ref h.length) (hh2.set h.length (.dk ((ks.map Sum.inr).zip ds))) else .no
      | _ => .no) Q := pb
    have at2 := g2.pre _ _ atp
    obtain ⟨ob, e1, o⟩ := s2.get at2
    rw [e1] at pb'
    cases ob with
    | dk kvs =>
      cases kvs with
      | nil =>
        dsimp only at pb'
        split at pb'
        · rename_i c
          obtain ⟨us, q1, q2⟩ := o
          cases q2
          have lk : (((ks.map Sum.inr).map keyD).zip vs).length ≤ 15 := by rw [List.length_zip, List.length_map, List.length_map]; omega
          refine ⟨q1, ((ks.map Sum.inr).map keyD).zip vs, ?_, lk, ?_⟩
          · rw [eps]
            have : ∀ (ks : List (List Nat)) (vs : List V), (ks.map fun k => V.str (toS k)).zip vs = (((ks.map Sum.inr).map keyD).zip vs).map (fun kv => (kV kv.1, kv.2)) := by
              intro ks
              induction ks with
              | nil => intro vs; rfl
              | cons k ks ih =>
                intro vs
                cases vs with
                | nil => rfl
                | cons v vs => simp only [List.map_cons, List.zip_cons_cons, ih vs]; rfl
            exact this ks vs
          · rw [merge_new _ [] ?_ (fun a ha => by simp at ha)]
            · obtain ⟨s4, g4⟩ := s2.put (ob := .dk ((ks.map Sum.inr).zip ds)) (o := .dK ([] ++ ((ks.map Sum.inr).map keyD).zip vs)) at2 fun g => ⟨_, upd_same, by
                have : ∀ {ks : List KyD} {ds : List D} {vs : List V}, Reps G r2 (upd H2 pp (.dK ([] ++ ((ks.map keyD).zip vs)))) ds vs → True := fun _ => trivial
                have dk : ∀ (ks : List KyD) (ds : List D) (vs : List V) {H : Hp} {r : List Addr}, Reps G r H ds vs → DkR G r H (ks.zip ds) ((ks.map keyD).zip vs) := by
                  intro ks
                  induction ks with
                  | nil => intro ds vs H r _; exact .nil
                  | cons k ks ih =>
                    intro ds vs H r q
                    cases q with
                    | nil => exact .nil
                    | cons a t => exact .cons a (ih _ _ t)
                exact dk _ _ _ (rs.mono g)⟩
              exact pb' (.ref pp) _ r2 (g2.trans g4) s4 (.ref at2)
            · rw [List.map_fst_zip (by rw [List.length_map, List.length_map, lv]; exact Nat.le_refl _)]
              have inj : Function.Injective (fun k : List Nat => keyD (Sum.inr k)) := fun a b e => Sum.inr.inj (keyD_inj.mp e)
              rw [List.map_map]
              exact List.Pairwise.map _ (fun a b hab e => hab (inj e)) nd
        · exact pb'.elim
      | cons _ _ => exact pb'.elim
    | _ => exact pb'.elim
end
end L2.Lv
end
section
set_option maxRecDepth 100000
set_option maxHeartbeats 4000000
set_option autoImplicit false
namespace L2.Lv
open PySem PySem.Spec PyProof.Rows
section
variable {G : Gx} {X : Cx} {W : WX} {x y z : Expr} {xs : List Expr} {ma mb mc : ME} {mt mu : MT} {ms : MA} {pos apos : Pos} {r : List Addr} {H : Hp} {h : Hm}
/-! ### xs.index(a) -/
def pIndex (a : D) (as : List D) (h : Hm) : Re D := match a, as with
  | .ref n, [d] => match itemsOf h n with
    | some xs => if okD 60 h d && xs.all (okD 60 h) then match xs.findIdx? (fun z => eqB 60 h z d) with
        | some j => .ok (.int (j : Nat)) h
        | none => .no
      else .no
    | none => .no
  | _, _ => .no
theorem primM_index : PrimM G "list" (rIndexD G.K) pIndex := by
  intro W r H h a as x xs Q s ra rs p
  unfold pIndex at p
  split at p
  · rename_i n d
    cases ra with
    | ref hn =>
      cases rs with
      | cons q t =>
        cases t with
        | nil =>
          split at p
          · rename_i ds e
            split at p
            · rename_i c
              rw [Bool.and_eq_true] at c
              split at p
              · rename_i j e2
                obtain ⟨vs, q1, q2⟩ := items_seq s hn e
                obtain ⟨lj, ej, bj⟩ := List.findIdx?_eq_some_iff_getElem.mp e2
                have okj : ∀ (i : Nat) (z : D), ds[i]? = some z → okD 60 h z = true := fun i z ez => List.all_eq_true.mp c.2 z (List.mem_of_getElem? ez)
                have at_ : ∀ i : Nat, (ds.map (toP 60 h))[i]? = (ds[i]?).map (toP 60 h) := fun i => List.getElem?_map
                refine ⟨_, _, _, ds.map (toP 60 h), j, toP 60 h ds[j], rfl, rfl, .lst q1 (dpAll_of (dp_of s 60) c.2 q2), dp_of s 60 d _ c.1 q, shaped_l c.2, shaped_of c.1, by rw [at_, List.getElem?_eq_getElem lj]; rfl, ?_, ?_, p (.int _) H r Gr.refl s (.int _)⟩
                · rw [eqv_of 60 _ _ (okj j _ (List.getElem?_eq_getElem lj)) c.1]; exact ej
                · intro m z' hm hz
                  rw [at_] at hz
                  have lm : m < ds.length := by omega
                  rw [List.getElem?_eq_getElem lm] at hz
                  cases hz
                  rw [eqv_of 60 _ _ (okj m _ (List.getElem?_eq_getElem lm)) c.1]
                  simpa using bj m hm
              · exact p.elim
            · exact p.elim
          · exact p.elim
  · exact p.elim
theorem e_index {k : Nat} (hK : X.K = G.K) (hr : Room k X.A) (ho : SE G X W z ma) (ha : SE G X W x mb)
    (hbase : attributeBase z "index" X.env (eval z X.env) = eval z X.env := by rfl)
    (hfew : ((backTo pos (starEach [x] X.env)).all (fun x => !x.1) && (backToKw pos (keywordEach [] X.env)).all (fun x => x.1.isSome)
      && decide (([x] : List Expr).length + ([] : List Keyword).length + (if ([] : List Keyword).isEmpty then 0 else 1) < 30)) = true := by rfl)
    (hline : (apos.endLine == pos.line) = true := by rfl) (hs : starEach [x] X.env = (false, eval x X.env) :: starEach [] X.env := by rfl) (hplain : (backTo pos (starEach [] X.env)).any (·.1) = false := by rfl) : SE G X W (.Call (.Attribute z "index" apos) [x] [] pos) (mMethL pIndex ma (mCons mb mNil)) :=
  se_methL PySem.F.slot_list_index PySem.F.type_list_index (hK ▸ mt_indexD (by have := hr.un; omega)) primM_index hK ho (sa_cons ha sa_nil hs) hbase hfew hline hs hplain
/-! ### xs.pop(0) -/
def pPop0 (a : D) (as : List D) (h : Hm) : Re D := match a, as with
  | .ref n, [.int i] => match h[n]? with
    | some (.lst (d :: ds)) => if i = 0 then .ok d (h.set n (.lst ds)) else .no
    | _ => .no
  | _, _ => .no
theorem primM_pop0 : PrimM G "list" rPopAt pPop0 := by
  intro W r H h a as x xs Q s ra rs p
  unfold pPop0 at p
  split at p
  · rename_i n i
    cases ra with
    | ref hn =>
      cases rs with
      | cons q t =>
        cases t with
        | nil =>
          cases q with
          | int _ =>
            obtain ⟨ob, e1, o⟩ := s.get hn
            rw [e1] at p
            cases ob with
            | lst ys =>
              cases ys with
              | nil => exact p.elim
              | cons d ds =>
                simp only at p
                split at p
                · rename_i c
                  subst c
                  obtain ⟨vs, h1, h2⟩ := o
                  cases h2 with
                  | @cons _ v _ vs q1 q2 =>
                    refine ⟨_, v :: vs, 0, 0, v, rfl, rfl, h1, by decide, by decide, ?_, rfl, ?_⟩
                    · simp [seqIndex?]
                    · obtain ⟨s', g⟩ := s.put (ob := .lst ds) (o := .lst vs) hn fun g => ⟨_, upd_same, q2.mono g⟩
                      exact p v _ r g s' (q1.mono g)
                · exact p.elim
            | _ => exact p.elim
  · exact p.elim
theorem e_pop0 (hK : X.K = G.K) (ho : SE G X W z ma) (ha : SE G X W x mb)
    (hbase : attributeBase z "pop" X.env (eval z X.env) = eval z X.env := by rfl)
    (hfew : ((backTo pos (starEach [x] X.env)).all (fun x => !x.1) && (backToKw pos (keywordEach [] X.env)).all (fun x => x.1.isSome)
      && decide (([x] : List Expr).length + ([] : List Keyword).length + (if ([] : List Keyword).isEmpty then 0 else 1) < 30)) = true := by rfl)
    (hline : (apos.endLine == pos.line) = true := by rfl) (hs : starEach [x] X.env = (false, eval x X.env) :: starEach [] X.env := by rfl) (hplain : (backTo pos (starEach [] X.env)).any (·.1) = false := by rfl) : SE G X W (.Call (.Attribute z "pop" apos) [x] [] pos) (mMethL pPop0 ma (mCons mb mNil)) :=
  se_methL PySem.F.slot_list_pop PySem.F.type_list_pop mt_popAt primM_pop0 hK ho (sa_cons ha sa_nil hs) hbase hfew hline hs hplain
/-! ### divmod -/
def pDivmod (as : List D) (h : Hm) : Re D := match as with
  | [.int i, .int j] => if cFd i j = true then .ok (.tup [.int (i / j), .int (i % j)]) h else .no
  | _ => .no
end
end L2.Lv
end
section
set_option maxRecDepth 100000
set_option maxHeartbeats 4000000
set_option autoImplicit false
namespace L2.Lv
open PySem PySem.Spec PyProof.Rows
/-! ### a comprehension over a dict: locked while it runs -/
def mLockE (i : Nat) (m : ME) : ME := fun e h => match e[i]? with
  | some (some (.ref n)) => match h[n]? with
    | some (.dk kvs) => (m e (h.set n (.fdk kvs))).bind fun d h1 => match h1[n]? with
      | some (.fdk kvs') => .ok d (h1.set n (.dk kvs'))
      | _ => .no
    | _ => .no
  | _ => .no
def mKeys (i : Nat) : MI := fun e h => match e[i]? with
  | some (some (.ref n)) => match h[n]? with
    | some (.fdk _) => .ok (.dky n) h
    | _ => .no
  | _ => .no
section
variable {G : Gx} {X : Cx} {W : WX} {x y z : Expr} {xs : List Expr} {ma mb mc : ME} {mt mu : MT} {ms : MA} {pos apos : Pos} {r : List Addr} {H : Hp} {h : Hm}
mutual
theorem Rep.monoT {H H' : Hp} (tp : ∀ b us, SqT G.K H b us → SqT G.K H' b us) : ∀ {d : D} {v : V}, Rep G r H d v → Rep G r H' d v
  | _, _, .non => .non
  | _, _, .bl b => .bl b
  | _, _, .int i => .int i
  | _, _, .str s => .str s
  | _, _, .tup q t => .tup (tp _ _ q) (Reps.monoT tp t)
  | _, _, .ref q => .ref q
theorem Reps.monoT {H H' : Hp} (tp : ∀ b us, SqT G.K H b us → SqT G.K H' b us) : ∀ {ds : List D} {vs : List V}, Reps G r H ds vs → Reps G r H' ds vs
  | _, _, .nil => .nil
  | _, _, .cons a t => .cons (Rep.monoT tp a) (Reps.monoT tp t)
end
theorem Reps.monoV {H H' : Hp} (gv : ∀ {d : D} {v : V}, Rep G r H d v → Rep G r H' d v) : ∀ {ds : List D} {vs : List V}, Reps G r H ds vs → Reps G r H' ds vs
  | _, _, .nil => .nil
  | _, _, .cons a t => .cons (gv a) (Reps.monoV gv t)
theorem DkR.monoT {H H' : Hp} (gv : ∀ {d : D} {v : V}, Rep G r H d v → Rep G r H' d v) : ∀ {kvs : List (KyD × D)} {vs : List (Key × V)}, DkR G r H kvs vs → DkR G r H' kvs vs
  | _, _, .nil => .nil
  | _, _, .cons a t => .cons (gv a) (DkR.monoT gv t)
theorem FsR.monoT {H H' : Hp} (gv : ∀ {d : D} {v : V}, Rep G r H d v → Rep G r H' d v) : ∀ {fs : List (Nat × D)} {vs : List (Str × V)}, FsR G r H fs vs → FsR G r H' fs vs
  | _, _, .nil => .nil
  | _, _, .cons e a t => .cons e (gv a) (FsR.monoT gv t)
theorem ObR.monoT {H H' : Hp} {a : Addr} (gv : ∀ {d : D} {v : V}, Rep G r H d v → Rep G r H' d v) (e : H' a = H a) : ∀ {ob : Ob}, ObR G r H a ob → ObR G r H' a ob
  | .lst _, ⟨vs, q, t⟩ => ⟨vs, e.trans q, Reps.monoV gv t⟩
  | .frz _, ⟨o, vs, q, t⟩ => ⟨o, vs, e.trans q, Reps.monoV gv t⟩
  | .ins _ _, ⟨dx, vs, q, t⟩ => ⟨dx, vs, e.trans q, FsR.monoT gv t⟩
  | .dk _, ⟨vs, q, t⟩ => ⟨vs, e.trans q, DkR.monoT gv t⟩
  | .fdk _, ⟨o, vs, q, t⟩ => ⟨o, vs, e.trans q, DkR.monoT gv t⟩
theorem DkR.get {kvs : List (KyD × D)} {vs : List (Key × V)} (q : DkR G r H kvs vs) : ∀ {i : Nat} {k : KyD} {d : D}, kvs[i]? = some (k, d) → ∃ v, vs[i]? = some (keyD k, v) ∧ Rep G r H d v := by
  induction q with
  | nil => intro i k d e; simp at e
  | @cons k0 d0 v0 fs us a t ih =>
    intro i k d e
    cases i with
    | zero => simp at e; obtain ⟨rfl, rfl⟩ := e; exact ⟨v0, by simp, a⟩
    | succ i => simpa using ih (by simpa using e)
theorem si_keys (i : Nat) {tg : Expr} {n : Str} (hN : X.N[i]? = some n := by rfl) (hv : Vis X.env.scope n := by first | exact Or.inl rfl | exact Or.inr (Or.inl rfl) | exact Or.inr (Or.inr rfl)) (hd : (n == ("__debug__" : Str)) = false := by decide)
    (hcd : (n == ("__classdict__" : Str)) = false := by decide) : SI G X W tg (.Name n pos) (mKeys i) := by
  refine ⟨pi_imp (pi_keys (pe_var hN hv hd hcd)) fun σ H Q u => ?_⟩
  obtain ⟨r, h, e, s, en, p⟩ := u
  unfold mKeys at p
  cases q : e[i]? with
  | none => rw [q] at p; exact p.elim
  | some o =>
    cases o with
    | none => rw [q] at p; exact p.elim
    | some d =>
      rw [q] at p
      obtain ⟨v, e1, e2⟩ := en.at_ i d q
      cases e2 with
      | @ref m a hm =>
        dsimp only at p
        obtain ⟨ob, f1, oo⟩ := s.get hm
        rw [f1] at p
        cases ob with
        | fdk kvs =>
          obtain ⟨o, vs, q1, q2⟩ := oo
          refine ⟨_, e1, a, o, rfl, .inl ⟨vs, q1, p _ H r Gr.refl s ?_⟩⟩
          intro r' H' h' j g s'
          have q1' := g.frz _ _ _ q1
          have hm' := g.pre _ _ hm
          obtain ⟨ob', f1', oo'⟩ := s'.get hm'
          have key : ∀ kvs', ob' = .fdk kvs' → DkR G r' H' kvs' vs := by
            rintro kvs' rfl
            obtain ⟨o2, vs2, z1, z2⟩ := oo'
            rw [q1'] at z1
            cases z1
            exact z2
          constructor
          · intro d hd
            simp only [nxt, f1'] at hd
            cases ob' with
            | fdk kvs' =>
              have k2 := key kvs' rfl
              dsimp only at hd
              cases kj : kvs'[j]? with
              | none => rw [kj] at hd; cases hd
              | some kv =>
                obtain ⟨k, dd⟩ := kv
                rw [kj] at hd
                obtain ⟨v, z1, z2⟩ := k2.get kj
                refine ⟨⟨q1', (List.getElem?_eq_some_iff.mp z1).1⟩, ?_⟩
                rintro x H'' ⟨rfl, k', v', z3, rfl⟩
                rw [z1] at z3
                cases z3
                refine ⟨Gr.refl, s', ?_⟩
                have ed : d = keyToD k := by
                  cases k <;> (simp at hd; exact hd.symm)
                rw [ed]
                exact keyTo_rep k
            | _ => cases hd
          · intro hd
            simp only [nxt, f1'] at hd
            cases ob' with
            | fdk kvs' =>
              have k2 := key kvs' rfl
              dsimp only at hd
              cases kj : kvs'[j]? with
              | none =>
                refine ⟨q1', ?_⟩
                rw [← k2.len]
                exact List.getElem?_eq_none_iff.mp kj
              | some kv => rw [kj] at hd; cases hd
            | _ => cases hd
        | _ => exact p.elim
      | _ => exact p.elim
theorem se_lock (i : Nat) {m : ME} (hm : SE G X W x m) (hi : ∃ n, X.N[i]? = some n) : SE G X W x (mLockE i m) := by
  refine ⟨pe_imp (pe_lock hm.pe) fun σ H Q u => ?_⟩
  obtain ⟨r, h, e, s, en, p⟩ := u
  unfold mLockE at p
  cases q : e[i]? with
  | none => rw [q] at p; exact p.elim
  | some o =>
    cases o with
    | none => rw [q] at p; exact p.elim
    | some d =>
      rw [q] at p
      obtain ⟨v, e1, e2⟩ := en.at_ i d q
      cases e2 with
      | @ref n a hn =>
        dsimp only at p
        obtain ⟨ob, f1, oo⟩ := s.get hn
        rw [f1] at p
        cases ob with
        | dk kvs =>
          obtain ⟨vs, q1, q2⟩ := oo
          dsimp only at p
          refine ⟨a, .dK vs, q1, trivial, fun od => ?_⟩
          obtain ⟨s1, g1⟩ := s.put (ob := .fdk kvs) (o := .frz od (.dK vs)) hn fun g => ⟨od, vs, upd_same, q2.mono g⟩
          refine ⟨r, h.set n (.fdk kvs), e, s1, en.mono g1, ?_⟩
          revert p
          cases qm : m e (h.set n (.fdk kvs)) with
          | no => intro p; exact p
          | ex c dd h' => intro p v H' r' dx g sx rv hx; exact p v H' r' dx (g1.trans g) sx rv hx
          | ok dd h' =>
            intro p v H' r' g sx rv
            have at_ := g.frz _ _ _ (show upd H a (.frz od (.dK vs)) a = some (.frz od (.dK vs)) from upd_same)
            have hn' := g.pre _ _ hn
            refine ⟨at_, ?_⟩
            have pb : Post G (fun c d H' => W c d σ H') (RD G) r H (match h'[n]? with | some (.fdk kvs') => .ok dd (h'.set n (.dk kvs')) | _ => .no) Q := p
            obtain ⟨ob', f1', oo'⟩ := sx.get hn'
            rw [f1'] at pb
            cases ob' with
            | fdk kvs' =>
              obtain ⟨o2, vs2, z1, z2⟩ := oo'
              rw [at_] at z1
              cases z1
              -- unlocked again
              have gu : Gr G r H r' (upd H' a (.dK vs)) := by
                refine ⟨g.pre, fun b us w => ?_, fun b pp w q => ?_⟩
                · have w1 := (g1.trans g).tup b us w
                  rcases w1 with (w1 | ⟨o3, w1⟩) | w1
                  · refine .inl (.inl ?_)
                    rw [upd_ne (fun e => by rw [e, at_] at w1; cases w1)]; exact w1
                  · refine .inl (.inr ⟨o3, ?_⟩)
                    rw [upd_ne (fun e => by rw [e, at_] at w1; cases w1)]; exact w1
                  · exact .inr w1
                · have w1 := (g1.trans g).frz b pp w q
                  rw [upd_ne (fun e => by rw [e, q1] at q; cases q)]; exact w1
              have gv : ∀ {d : D} {v : V}, Rep G r' H' d v → Rep G r' (upd H' a (.dK vs)) d v := by
                have tp : ∀ b us, SqT G.K H' b us → SqT G.K (upd H' a (.dK vs)) b us := by
                  intro b us w1
                  rcases w1 with (w1 | ⟨o3, w1⟩) | w1
                  · refine .inl (.inl ?_)
                    rw [upd_ne (fun e => by rw [e, at_] at w1; cases w1)]; exact w1
                  · refine .inl (.inr ⟨o3, ?_⟩)
                    rw [upd_ne (fun e => by rw [e, at_] at w1; cases w1)]; exact w1
                  · exact .inr w1
                intro d v q
                exact Rep.monoT tp q
              refine pb v (upd H' a (.dK vs)) r' gu ?_ (gv rv)
              refine ⟨by rw [List.length_set]; exact sx.len, sx.nd, fun m ob'' b y1 y2 => ?_, tb_upd at_ (fun _ z => by cases z) (fun _ z => by cases z) sx.tb⟩
              by_cases hm2 : n = m
              · subst hm2
                rw [hn'] at y2
                cases y2
                rw [List.getElem?_set_self (List.getElem?_eq_some_iff.mp f1').1] at y1
                cases y1
                refine ⟨vs, upd_same, ?_⟩
                exact DkR.monoT gv z2
              · rw [List.getElem?_set_ne hm2] at y1
                have hb : b ≠ a := fun z => hm2 (nodup_get sx.nd hn' (z ▸ y2))
                exact ObR.monoT gv (upd_ne hb) (sx.at_ m ob'' b y1 y2)
            | _ => exact pb.elim
        | _ => exact p.elim
      | _ => exact p.elim
end
end L2.Lv
end
section
set_option maxRecDepth 100000
set_option maxHeartbeats 4000000
set_option autoImplicit false
namespace L2.Lv
open PySem PySem.Spec PyProof.Rows
section
variable {G : Gx} {X : Cx} {W : WX} {x y z x' y' : Expr} {xs : List Expr} {ma mb mc na nb : ME} {mt mu : MT} {ms : MA} {pos : Pos} {r : List Addr} {H : Hp} {h : Hm}
theorem se_globS (l : List Nat) {t : Str} {n : Str} (h : ∃ u, X.mg n = some (.str t u)) (ht : t = ⟨l.toArray⟩ := by decide +kernel) (hg : Gl X n := by rfl) (hd : (n == ("__debug__" : Str)) = false := by decide) : SE G X W (.Name n pos) (mC (.str l)) := by
  obtain ⟨u, h⟩ := h
  subst ht
  exact se_glob (v := .str ⟨l.toArray⟩) h ⟨u, rfl⟩ (fun _ _ => .str l) hg hd
/-! several classes at once -/
theorem kta_nil {K : PySem.W.Frag} {f : Nat → Value} {n : Nat} : ∀ j, j < n → PySem.W.kitAny K (f j) [] = some (([] : List Nat).contains j) := fun _ _ => rfl
theorem kta_cons {K : PySem.W.Frag} {f : Nat → Value} {n : Nat} {u : Value} {us : List Value} {k1 k2 : List Nat} (a : ∀ j, j < n → PySem.W.kitOne K (f j) u = some (k1.contains j)) (b : ∀ j, j < n → PySem.W.kitAny K (f j) us = some (k2.contains j)) :
    ∀ j, j < n → PySem.W.kitAny K (f j) (u :: us) = some ((k1 ++ k2).contains j) := fun j hj => by
  refine kitAny_cons (a j hj) (fun e => ?_) (fun e => ?_)
  · rw [b j hj]
    congr 1
    simp only [List.contains_eq_mem, List.mem_append, decide_eq_decide]
    simp only [List.contains_eq_mem, decide_eq_false_iff_not] at e
    exact ⟨.inr, fun q => q.elim (fun q => absurd q e) id⟩
  · simp only [List.contains_eq_mem, decide_eq_true_eq] at e
    simp [e]
/-! xs[-k] = v -/
def mSubN (o i v : ME) : MS := fun e h => (v e h).bs e fun d h1 => (o e h1).bs e fun x h2 => (i e h2).bs e fun k h3 => match x, k with
  | .ref n, .int j => match h3[n]? with
    | some (.lst xs) => if j < 0 ∧ -(xs.length : Int) ≤ j then .nx e (h3.set n (.lst (xs.set (j + xs.length).toNat d))) else .no
    | _ => .no
  | _, _ => .no
theorem ss_subN {pt : Pos} (hv : SE G X W z mc) (ho : SE G X W x ma) (hi : SE G X W y mb)
    (has : ∀ v, assign (.Subscript x y pt) X.env v = (do
      let ov ← holding [v] (eval x X.env)
      let iv ← holding [v, ov] (eval y X.env)
      standAt pt
      holding [v, ov, iv] (setItem ov iv v)
      release [v, ov, iv] []) := by intro _; rfl)
    (hs : swapsWithSole [.Subscript x y pt] z pos.line X.env = pure false := by rfl) (hw : swappedStores [.Subscript x y pt] z X.env = pure none := by rfl)
    (h1 : (assignEach [.Subscript x y pt] X.env).map (·.2) = [assign (.Subscript x y pt) X.env] := by rfl) : SS G X W (.Assign [.Subscript x y pt] z pos) (mSubN ma mb mc) := by
  refine ⟨ps_imp (ps_asg hv.pe (pg_sub ho.pe hi.pe set_list has) hs hw h1) fun Z σ H u => ?_⟩
  obtain ⟨r, h, e, s, en, p⟩ := u
  refine uG_weak (stepS s en p) ?_
  rintro v H1 ⟨r1, h1, d, g1, s1, en1, rd, p1⟩
  refine uG_weak (stepS s1 en1 p1) ?_
  rintro o H2 ⟨r2, h2, x, g2, s2, en2, rx, p2⟩
  refine uG_weak (stepS s2 en2 p2) ?_
  rintro w H3 ⟨r3, h3, k, g3, s3, en3, rk, p3⟩
  have rx3 := rx.mono g3
  split at p3
  · rename_i n j
    cases rx3 with
    | ref hn =>
      cases rk with
      | int _ =>
        obtain ⟨ob, e1, oo⟩ := s3.get hn
        rw [e1] at p3
        cases ob with
        | lst xs =>
          simp only at p3
          split at p3
          · rename_i c
            obtain ⟨vs, q1, q2⟩ := oo
            have hl := q2.length
            refine ⟨_, vs, j, (j + xs.length).toNat, rfl, rfl, q1, ?_, ?_⟩
            · unfold ixN
              rw [if_neg (by omega), if_pos (by omega), hl]
            · obtain ⟨s4, g4⟩ := s3.put (ob := .lst (xs.set (j + xs.length).toNat d)) (o := .lst (vs.set (j + xs.length).toNat v)) hn fun g => ⟨_, upd_same, (q2.mono g).set (((rd.mono g2).mono g3).mono g) _⟩
              exact p3 σ _ r3 g4 s4 (en3.mono g4)
          · exact p3.elim
        | _ => exact p3.elim
  · exact p3.elim
/-! a[k], b[l] = v, w: dicts -/
def putAt (x y d : D) (h3 : Hm) : Re Unit := match x, keyOfD y with
  | .ref n, some k => match h3[n]? with
    | some (.dk kvs) => if kvs.length < big then .ok () (h3.set n (.dk (putKD kvs k d))) else .no
    | _ => .no
  | _, _ => .no
def putKD1 (o i : ME) (d : D) (e : En) (h1 : Hm) : Re Unit := (o e h1).bind fun x h2 => (i e h2).bind fun y h3 => putAt x y d h3
theorem bind_bs {α β : Type} (r : Re α) (k : α → Hm → Re β) (e : En) (f : β → Hm → Rs) : (r.bind k).bs e f = r.bs e fun a h => (k a h).bs e f := by cases r <;> rfl
def mPut2K (o i o2 i2 : ME) (a : MA) : MS := fun e h => (a e h).bs e fun ds h1 => match ds with
  | [d, d'] => (putKD1 o i d e h1).bs e fun _ h2 => (putKD1 o2 i2 d' e h2).bs e fun _ h3 => .nx e h3
  | _ => .no
theorem put_step {Z : Ends} {σ : L2.St} {e : En} {d : D} {v : V} {k : Unit → Hm → Rs} (s : Sim G r H h) (en : EnR G r H e σ) (rd : Rep G r H d v) (p : PostS G W Z r H ((putKD1 ma mb d e h).bs e k)) :
    gSub (uE G W ma) (uE G W mb) rSetD v σ H fun σ' H' => ∃ r' h', σ' = σ ∧ Gr G r H r' H' ∧ Sim G r' H' h' ∧ PostS G W Z r' H' (k () h') := by
  unfold putKD1 at p
  rw [bind_bs] at p
  show uE G W ma σ H _
  refine uG_weak (stepS s en p) ?_
  rintro o H2 ⟨r2, h2, x, g2, s2, en2, rx, p2⟩
  rw [bind_bs] at p2
  refine uG_weak (stepS s2 en2 p2) ?_
  rintro w H3 ⟨r3, h3, y, g3, s3, en3, ry, p3⟩
  have rx3 := rx.mono g3
  unfold putAt at p3
  cases rx3 with
  | @ref n aa hn =>
    cases ek : keyOfD y with
    | none => rw [ek] at p3; exact p3.elim
    | some k =>
      rw [ek] at p3
      dsimp only at p3
      obtain ⟨ob, e1, oo⟩ := s3.get hn
      rw [e1] at p3
      cases ob with
      | dk kvs =>
        obtain ⟨vs, q1, q2⟩ := oo
        dsimp only at p3
        split at p3
        · rename_i c
          obtain ⟨s4, g4⟩ := s3.put (ob := .dk (putKD kvs k d)) (o := .dK (putK vs (keyD k) v)) hn fun g => ⟨_, upd_same, (q2.mono g).put (((rd.mono g2).mono g3).mono g)⟩
          refine ⟨aa, _, rfl, ?_, r3, _, rfl, (g2.trans g3).trans g4, s4, PostS.mono g4 p3⟩
          rw [key_rep ry ek]
          exact DPut.k q1 (by rw [← q2.len]; have := big_le (Nat.le_of_lt c); rw [sizeLine_eq] at *; unfold big at c; omega)
        · exact p3.elim
      | _ => exact p3.elim
  | _ => exact p3.elim
theorem ss_put2K {k : Nat} {p1 p2 pt : Pos} {kt k2 : Nat} {pt2 : Pos} {v w : Expr} (hc : X.calm = true) (hr : Room k X.A) (hv : SA G X W [v, w] ms) (ho : SE G X W x ma) (hi : SE G X W y mb) (ho2 : SE G X W x' na) (hi2 : SE G X W y' nb)
    (has : ∀ v, assign (.Subscript x y p1) X.env v = (do
      let ov ← holding [v] (eval x X.env)
      let iv ← holding [v, ov] (eval y X.env)
      standAt p1
      holding [v, ov, iv] (setItem ov iv v)
      release [v, ov, iv] []) := by intro _; rfl)
    (has2 : ∀ v, assign (.Subscript x' y' p2) X.env v = (do
      let ov ← holding [v] (eval x' X.env)
      let iv ← holding [v, ov] (eval y' X.env)
      standAt p2
      holding [v, ov, iv] (setItem ov iv v)
      release [v, ov, iv] []) := by intro _; rfl)
    (hn : (assignEach [.Subscript x y p1, .Subscript x' y' p2] X.env).length = 2 := by rfl) (hst : (assignEach [.Subscript x y p1, .Subscript x' y' p2] X.env).findIdx? (·.1) = none := by rfl)
    (hs1 : (assignEach [.Subscript x y p1, .Subscript x' y' p2] X.env).map (·.2) = assign (.Subscript x y p1) X.env :: (assignEach [.Subscript x' y' p2] X.env).map (·.2) := by rfl)
    (hs2 : (assignEach [.Subscript x' y' p2] X.env).map (·.2) = assign (.Subscript x' y' p2) X.env :: (assignEach [] X.env).map (·.2) := by rfl)
    (hs : swapsWithSole [.Tuple [.Subscript x y p1, .Subscript x' y' p2] kt pt] (.Tuple [v, w] k2 pt2) pos.line X.env = pure false := by rfl) (hw : swappedStores [.Tuple [.Subscript x y p1, .Subscript x' y' p2] kt pt] (.Tuple [v, w] k2 pt2) X.env = pure none := by rfl)
    (h1 : (assignEach [.Tuple [.Subscript x y p1, .Subscript x' y' p2] kt pt] X.env).map (·.2) = [assign (.Tuple [.Subscript x y p1, .Subscript x' y' p2] kt pt) X.env] := by rfl) :
    SS G X W (.Assign [.Tuple [.Subscript x y p1, .Subscript x' y' p2] kt pt] (.Tuple [v, w] k2 pt2) pos) (mPut2K ma mb na nb ms) := by
  refine ⟨ps_imp (ps_asg (pe_tup hv.pa) (pg_tup hc (pgs_cons (pg_sub ho.pe hi.pe (set_dict (by have := hr.un; omega)) has) (pgs_cons (pg_sub ho2.pe hi2.pe (set_dict (by have := hr.un; omega)) has2) pgs_nil hs2) hs1) hn hst) hs hw h1) fun Z σ H u => ?_⟩
  obtain ⟨r, h, e, s, en, p⟩ := u
  refine uG_weak (stepS s en p) ?_
  rintro vs H1 ⟨r1, h1, ds, g1, s1, en1, rs, p1⟩
  cases rs with
  | nil => exact p1.elim
  | @cons d v ds vs q1 t =>
    cases t with
    | nil => exact p1.elim
    | @cons d' v' ds vs q2 t =>
      cases t with
      | cons _ _ => exact p1.elim
      | nil =>
        refine ⟨by show 2 ≤ sizeLine; decide, fun q hq => ?_⟩
        have g2 := gr_fresh (G := G) (r := r1) (o := .tup [v, v']) hq
        have s2 := s1.fresh (o := .tup [v, v']) hq
        refine ⟨q, [v, v'], rfl, SqT.of upd_same, rfl, v, [v'], rfl, ?_⟩
        have st := put_step (Z := Z) s2 (en1.mono g2) (q1.mono g2) (PostS.mono g2 p1)
        refine uG_weak st ?_
        rintro o H3 q3
        refine uG_weak q3 ?_
        rintro i H4 ⟨a4, H5, eo, dp, r5, h5, _, g5, s5, p5⟩
        refine ⟨a4, H5, eo, dp, v', [], rfl, ?_⟩
        have st2 := put_step (Z := Z) s5 ((en1.mono g2).mono g5) ((q2.mono g2).mono g5) p5
        refine uG_weak st2 ?_
        rintro o' H6 q6
        refine uG_weak q6 ?_
        rintro i' H7 ⟨a7, H8, eo', dp', r8, h8, _, g8, s8, p8⟩
        exact ⟨a7, H8, eo', dp', rfl, p8 _ H8 r8 Gr.refl s8 (((en1.mono g2).mono g5).mono g8)⟩
end
/-! a def that knows its code's value -/
section
variable {P : Program} {w : World} {K : PySem.W.Frag} {mg : Str → Option Value} {base : Heap} {G : Gx}
theorem fn_okD {x qual : Str} {st : Stmt} {f : Addr} {fd : FuncData} {N ps : List Str} {k : Nat} {b : MS} (F : Fun K x qual st f fd) (S : FnScope N ps (defScope st))
    (hb : ∀ (cdv : Value) (A : Around) (outer : List Env) (s : Shared) (H : Hp) (E : XK), fd.code = cdv → Room k (A.deeper (envOfC qual (defScope st) s.heap.objs.size f cdv)) →
      SSs G (cxOf (L2.CX P w) P w K mg base N qual (defScope st) f cdv A outer s H E) (fun c d _ H' => E c d H') (defBody st) b) : FnOk P w K mg base (L2.CX P w) (k + 1) f fd ps (spM G (mBody ps.length N.length b)) := by
  have F' := F
  obtain ⟨oc, od, kV, doc, pm, an, cdv, ct, osl, rfl, lk, hcd⟩ := F.ex
  have len : ∀ vs H Q E, spM G (mBody ps.length N.length b) vs H Q E → vs.length = ps.length := fun vs H Q E h => by
    obtain ⟨r, hm, ds, sm, rp, p⟩ := h
    unfold mBody at p
    split at p
    · rename_i c
      rw [← rp.length]
      exact c
    · exact p.elim
  refine ⟨len, fun A outer s H args us vs Q E hr e0 hbd rv h => ?_⟩
  refine LamX.run_ofS lk hcd S hr e0 hbd rv (len _ _ _ _ h) fun hr' => ⟨_, (hb cdv A outer s H E rfl hr').pss, ?_⟩
  obtain ⟨r, hm, ds, sm, rp, p⟩ := h
  refine ⟨r, hm, startE N.length ds, sm, ?_, ?_⟩
  · unfold startE start
    rw [rp.length]
    exact start_en rp _
  · unfold mBody at p
    split at p
    · unfold mRun at p
      cases q : b (startE N.length ds) hm with
      | nx e' h' => rw [q] at p; exact fun σ' H' r' g s' _ => p .non H' r' g s' .non
      | rt d h' => rw [q] at p; exact p
      | ex c d e' h' => rw [q] at p; exact fun v σ' H' r' dd g s' _ rv hd => p v H' r' dd g s' rv hd
      | bk e' h' => rw [q] at p; exact p.elim
      | ct e' h' => rw [q] at p; exact p.elim
      | no => rw [q] at p; exact p.elim
    · exact p.elim
/-- what a def that makes lambdas knows of its code and its table -/
structure LamT (base : Heap) (mg : Str → Option Value) (T : List (Addr × Str)) (cdv : Value) (q : Str) : Prop where
  mk :: (ex : ∃ cc Pt, cdv = .ref cc ∧ LamX.TabB base mg cc Pt ∧ (Pt, q) ∈ T ∧ ∀ y ∈ T, y.1 = Pt → y.2 = q)
end
end L2.Lv
end
section
set_option maxRecDepth 100000
set_option maxHeartbeats 4000000
set_option autoImplicit false
namespace L2.Lv
open PySem PySem.Spec PyProof.Rows
/-- the end, where any def of the top may make lambdas -/
theorem walkG2 {l : PySem.W.OpenLaw} {n k : Nat} {q : Program} {loose : List Str} {XP : (Str → Option Value) → Heap → Prop} {YP : World → Heap → Prop} {d : DefRec} {K : Params → PySem.W.Frag} {CX : World → CXT} {x : Str}
    (hn : l.most = some n) (hn2 : n ≤ sizeLine) (hdf : d.params.defaults = []) (hr : Room k callerA) (hrec : ((recsOf q).any fun e => e.name == d.name) = true) (hY : ∀ (w : World) (h : Heap), YP w h → (K w.params).In h)
    (F : ∀ (w : World) (mg : Str → Option Value) (fa : Addr) (h : Heap), YP w h → (K w.params).In h → h.Ns mainGlobals mg → mg d.name = some (.ref fa) →
      (∀ (nm : Str) (f : Addr), mg nm = some (.ref f) → (fun nm => (recsOf q).any fun e => e.name == nm) nm = true → LamX.OwnTab (K w.params) f h) → LawG l w (K w.params) (CX w) k n x mg fa h)
    (hCX : ∀ (w : World) (H : Hp) (s : Shared) (e : Value) (s' : Shared), CX w [] H s never e s' → False) :
    PySem.W.WalkO q loose XP YP l.row.toRowW d [] (fun f vs => PySem.call f vs) := by
  refine Att.attach_callB hn hdf fun w s₀ s₁ mg mb fa o pm cd doc a vs ns Gh Y ho hd hcd hmg hobj hints hlen hbits hg => ?_
  have KX := hY w _ Y
  have own : ∀ (nm : Str) (f : Addr), mg nm = some (.ref f) → (fun nm => (recsOf q).any fun e => e.name == nm) nm = true → LamX.OwnTab (K w.params) f s₁.heap := fun nm f hf hq c Pt o1 fd1 e dd vs1 sl k1 k2 k3 k4 k5 => by
    obtain ⟨dL, hm, hn1⟩ := List.any_eq_true.mp hq
    have en : dL.name = nm := beq_iff_eq.mp hn1
    obtain ⟨a', o', fd', c', P', h1, h2, h3, h4, _, ⟨oc, vc, e1, _, e3, e4⟩, hP⟩ := Gh.T.tab dL hm
    rw [en, hf] at h1
    cases h1
    rw [KX _ _ k1] at h2
    cases h2
    rw [k2] at h3
    cases h3
    rw [k3] at h4
    cases h4
    rw [KX _ _ k4] at e1
    cases e1
    cases e3
    rw [k5] at e4
    cases e4
    exact hP
  obtain ⟨fd, cs, sp, hT, nT, C, hb, nl, hsp, hF⟩ := F w mg fa _ Y KX Gh.T.g hmg own
  exact call_lawG KX Gh.T.g Gh.T.b Gh.T.builtins Gh.T.nolimit hg hT nT C Gh.T.bmain hobj hints (Nat.le_trans hlen hn2) hr hF hb nl (fun H o h1 h2 => hsp H a o ns hlen hbits h1 h2) fun H e s' => hCX w H s₁ e s'
end L2.Lv
end
section
set_option maxRecDepth 100000
set_option maxHeartbeats 4000000
set_option autoImplicit false
namespace L2.Lv
open PySem PySem.Spec PyProof.Rows
/-- a comprehension within another one's frame -/
theorem bkx {N0 N : List Str} {sc0 : Scope} {scope : Scope} {own : List (Str × Nat)} (hN : N0 = N := by rfl) (h : blkB N sc0 scope own = true := by kernel_rfl) : BlkOk N0 sc0 scope own := by
  subst hN
  exact blk_by h
end L2.Lv
end
section
set_option maxRecDepth 100000
set_option maxHeartbeats 4000000
set_option autoImplicit false
namespace L2.Lv
open PySem PySem.Spec PyProof.Rows
/-! ### calls with keywords, and with defaults that fill up -/
inductive Ar where
  | p (i : Nat) | k (i : Nat) | c (i : Nat)
def Ar.of {α : Type} (xs zs cs : List α) : Ar → Option α
  | .p i => xs[i]?
  | .k i => zs[i]?
  | .c i => cs[i]?
def arr {α : Type} (ar : List Ar) (xs zs cs : List α) : List α := ar.filterMap (Ar.of xs zs cs)
section
variable {G : Gx} {r : List Addr} {H : Hp}
theorem arr_reps {xs zs cs : List D} {vs ws us : List V} (h1 : Reps G r H xs vs) (h2 : Reps G r H zs ws) (h3 : Reps G r H cs us) : ∀ ar : List Ar, Reps G r H (arr ar xs zs cs) (arr ar vs ws us) := by
  have one : ∀ a : Ar, (∃ d v, Ar.of xs zs cs a = some d ∧ Ar.of vs ws us a = some v ∧ Rep G r H d v) ∨ (Ar.of xs zs cs a = none ∧ Ar.of vs ws us a = none) := by
    have gen : ∀ {ds : List D} {qs : List V} (q : Reps G r H ds qs) (i : Nat), (∃ d v, ds[i]? = some d ∧ qs[i]? = some v ∧ Rep G r H d v) ∨ (ds[i]? = none ∧ qs[i]? = none) := fun {ds qs} q i => by
      cases e : ds[i]? with
      | none => exact .inr ⟨rfl, by rw [List.getElem?_eq_none_iff] at e ⊢; rw [← q.length]; exact e⟩
      | some d => obtain ⟨v, a, b⟩ := q.get e; exact .inl ⟨d, v, rfl, a, b⟩
    intro a
    cases a with
    | p i => exact gen h1 i
    | k i => exact gen h2 i
    | c i => exact gen h3 i
  intro ar
  induction ar with
  | nil => exact .nil
  | cons a ar ih =>
    unfold arr at ih ⊢
    rcases one a with ⟨d, v, e1, e2, q⟩ | ⟨e1, e2⟩
    · rw [List.filterMap_cons_some e1, List.filterMap_cons_some e2]; exact .cons q ih
    · rw [List.filterMap_cons_none e1, List.filterMap_cons_none e2]; exact ih
theorem arr_vals {xs zs cs : List V} {vs ws us : List Value} (h1 : Vals xs vs) (h2 : Vals zs ws) (h3 : Vals cs us) : ∀ ar : List Ar, Vals (arr ar xs zs cs) (arr ar vs ws us) := by
  have one : ∀ a : Ar, (∃ d v, Ar.of xs zs cs a = some d ∧ Ar.of vs ws us a = some v ∧ RelV d v) ∨ (Ar.of xs zs cs a = none ∧ Ar.of vs ws us a = none) := by
    have gen : ∀ {ds : List V} {qs : List Value} (q : Vals ds qs) (i : Nat), (∃ d v, ds[i]? = some d ∧ qs[i]? = some v ∧ RelV d v) ∨ (ds[i]? = none ∧ qs[i]? = none) := fun {ds qs} q i => by
      cases e : ds[i]? with
      | none => exact .inr ⟨rfl, by rw [List.getElem?_eq_none_iff] at e ⊢; rw [← q.length]; exact e⟩
      | some d => obtain ⟨v, a, b⟩ := q.get e; exact .inl ⟨d, v, rfl, a, b⟩
    intro a
    cases a with
    | p i => exact gen h1 i
    | k i => exact gen h2 i
    | c i => exact gen h3 i
  intro ar
  induction ar with
  | nil => exact .nil
  | cons a ar ih =>
    unfold arr at ih ⊢
    rcases one a with ⟨d, v, e1, e2, q⟩ | ⟨e1, e2⟩
    · rw [List.filterMap_cons_some e1, List.filterMap_cons_some e2]; exact .cons q ih
    · rw [List.filterMap_cons_none e1, List.filterMap_cons_none e2]; exact ih
end
/-- what a call binds: n values by position, keywords ks, constants cs that fill up -/
def KbA (K : PySem.W.Frag) (fd : FuncData) (ps : List Str) (n : Nat) (ks : List Str) (ar : List Ar) (cs : List D) : Prop :=
  ∃ (cv : List V) (cu : List Value), (∀ G r H, Reps G r H cs cv) ∧ Vals cv cu ∧ ∀ (s : Shared) (us ws : List Value), K.In s.heap → us.length = n → ws.length = ks.length → BindsTo s fd ⟨us, ks.zip ws⟩ (ps.zip (arr ar us ws cu))
/-- no constant is wanted -/
theorem kba_0 {K : PySem.W.Frag} {fd : FuncData} {ps : List Str} {n : Nat} {ks : List Str} {ar : List Ar} (h : ∀ (us ws : List Value), us.length = n → ws.length = ks.length → bindArgs fd ⟨us, ks.zip ws⟩ = pure (ps.zip (arr ar us ws []))) : KbA K fd ps n ks ar [] :=
  ⟨[], [], fun _ _ _ => .nil, .nil, fun s us ws X l1 l2 => .of_eq (h us ws l1 l2)⟩
/-- one keyword-only default, of False -/
theorem kba_f {K : PySem.W.Frag} {fd : FuncData} {ps : List Str} {n : Nat} {ks : List Str} {ar : List Ar} {D0 : Addr} {q : Str} {b : Bool} (hq : PySem.W.nsIn K D0 q = some (some (.bool b)))
    (h : ∀ (us ws : List Value), us.length = n → ws.length = ks.length → KwChain D0 [(q, .bool b)] (bindArgs fd ⟨us, ks.zip ws⟩) (ps.zip (arr ar us ws [.bool b]))) : KbA K fd ps n ks ar [.bl b] :=
  ⟨[.bl b], [.bool b], fun _ _ _ => .cons (.bl b) .nil, .cons rfl .nil, fun s us ws X l1 l2 => L2.BindsTo.of_looks fun M => KwChain.looks X (fun p hp => by rw [List.mem_singleton.mp hp]; exact hq) (h us ws l1 l2)⟩

structure SK (G : Gx) (X : Cx) (W : WX) (xs : List Keyword) (m : MA) : Prop where
  pk : PK X xs (uA G W m)
section
variable {G : Gx} {X : Cx} {W : WX} {x : Expr} {xs : List Expr} {ma : ME} {ms mk : MA} {pos kpos np : Pos} {kws : List Keyword} {nm : Option Str} {n k : Nat} {nk : Str} {f : Addr} {fd : FuncData} {ps ks : List Str} {m : List D → Hm → Re D} {ar : List Ar} {cs : List D} {x0 : Str}
theorem pk_imp {t t' : TA} (h : PK X kws t) (w : ∀ σ H Q, t' σ H Q → t σ H Q) : PK X kws t' := ⟨fun pos pins s σ H Q I q => h.run pos pins s σ H Q I (w _ _ _ q)⟩
theorem sk_nil : SK G X W [] mNil := by
  refine ⟨pk_imp pk_nil fun σ H Q u => ?_⟩
  obtain ⟨r, h, e, s, en, p⟩ := u
  exact p [] H r Gr.refl s .nil
theorem sk_cons (ha : SE G X W x ma) (hr : SK G X W kws ms) : SK G X W (⟨nm, x, kpos⟩ :: kws) (mCons ma ms) := by
  refine ⟨pk_imp (pk_cons ha.pe hr.pk) fun σ H Q u => ?_⟩
  obtain ⟨r, h, e, s, en, p⟩ := u
  refine uG_weak (stepP s en p) ?_
  rintro v H1 ⟨r1, h1, a, g1, s1, en1, ra, p1⟩
  refine uG_weak (stepP s1 en1 p1) ?_
  rintro vs H2 ⟨r2, h2, as, g2, s2, en2, rs, p2⟩
  exact p2 _ H2 r2 Gr.refl s2 (.cons (ra.mono g2) rs)
/-- f(e, .., k = v, ..) -/
def mCallK (m : List D → Hm → Re D) (n j : Nat) (ar : List Ar) (cs : List D) (a b : MA) : ME := fun e h => (a e h).bind fun xs h1 => (b e h1).bind fun zs h2 => if xs.length = n ∧ zs.length = j then m (arr ar xs zs cs) h2 else .no
theorem run_fnK {pins : List (Addr × Obj)} {σ : L2.St} {H : Hp} {s : Shared} {Q : VK} {us ws : List Value} {vs zs cv : List V} {cu : List Value} {sp : Sp} {E : L2.St → XK} (F : FnOk X.prog X.w X.K X.mg X.base (L2.CX X.prog X.w) k f fd ps sp) (hr : Room k X.A)
    (hb : ∀ (s : Shared) (us ws : List Value), X.K.In s.heap → us.length = n → ws.length = ks.length → BindsTo s fd ⟨us, ks.zip ws⟩ (ps.zip (arr ar us ws cu))) (hc : Vals cv cu) (hx : PassesAt (L2.CX X.prog X.w) X σ (E σ))
    (I : Inv X pins σ H s) (r : Vals vs us) (rz : Vals zs ws) (l1 : vs.length = n) (l2 : zs.length = ks.length) (h : sp (arr ar vs zs cv) H Q (E σ)) : wpAny (model X.prog X.w) X.A (call (.ref f) us (ks.zip ws)) (EP X pins σ Q) X.xe s := by
  have r2 := arr_vals r rz hc ar
  refine wpAny_call (codeAny_mono (F.run X.A X.stack s H ⟨us, ks.zip ws⟩ (arr ar us ws cu) (arr ar vs zs cv) Q (E σ) hr I.env0 (hb s us ws I.kIn (r.length.symm.trans l1) (rz.length.symm.trans l2)) r2 h) fun r s' hq => ?_)
  cases r with
  | error e => exact hx pins H s e s' I hq
  | ok fl =>
    cases fl with
    | ret u => exact I.after hq
    | next => exact False.elim hq
    | brk => exact False.elim hq
    | cont => exact False.elim hq
theorem se_callK (F : FnOk X.prog X.w X.K X.mg X.base (L2.CX X.prog X.w) k f fd ps (spM G m)) (hr : Room k X.A) (tk : Takes X W) (hm : X.mg x0 = some (.ref f)) (hk : PySem.W.keepIn X.K (.ref f) = true) (hb : KbA X.K fd ps n ks ar cs)
    (ha : SA G X W (x :: xs) ms) (hkw : SK G X W kws mk) {j : Nat} (hj : ks.length = j := by rfl) (hg : Gl X x0 := by rfl) (hall : (backToKw pos (keywordEach kws X.env)).all (·.1.isSome) = true := by rfl) (hks : (backToKw pos (keywordEach kws X.env)).filterMap (·.1) = ks := by rfl)
    (hdb : (x0 == ("__debug__" : Str)) = false := by decide) (he : starEach (x :: xs) X.env = (false, eval x X.env) :: starEach xs X.env := by rfl)
    (hpl : ((backTo pos (starEach (x :: xs) X.env)).any (·.1) || (backToKw pos (keywordEach kws X.env)).any (·.1.isNone)) = false := by rfl) :
    SE G X W (.Call (.Name x0 np) (x :: xs) kws pos) (mCallK m n j ar cs ms mk) := by
  refine ⟨⟨fun pins s σ H Q I u => ?_⟩⟩
  obtain ⟨cv, cu, hcr, hcv, hbd⟩ := hb
  refine wpAny_Call_Name_kw (ld_glob I hg hm ?_ hdb)
  obtain ⟨r, h, e, sm, en, p⟩ := u
  refine PySem.W.callWith_KW (h₀ := X.base) I.ok.mod.kin hk hall (thn (ha.pa.run pos pins s σ H _ I (stepP sm en p)) fun us s1 ⟨vs, H1, I1, r, q⟩ => ?_) hpl he
  obtain ⟨r1, h1, as, g1, sm1, en1, rs1, p1⟩ := q
  refine thn (hkw.pk.run pos pins s1 σ H1 _ I1 (stepP sm1 en1 p1)) fun ws s2 ⟨zs, H2, I2, rz, q2⟩ => ⟨I2.kIn, ?_⟩
  obtain ⟨r2, h2, bs, g2, sm2, en2, rs2, p2⟩ := q2
  split at p2
  · rename_i c
    rw [hks]
    have ra := rs1.mono g2
    exact run_fnK (E := WE W) F hr hbd hcv (passAt tk σ) I2 r rz (by rw [← ra.length]; exact c.1) (by rw [← rs2.length, hj]; exact c.2) ⟨r2, h2, _, sm2, arr_reps ra rs2 (hcr _ _ _) ar, p2⟩
  · exact p2.elim
end
end L2.Lv
end
section
set_option maxRecDepth 100000
set_option maxHeartbeats 4000000
set_option autoImplicit false
namespace L2.Lv
open PySem PySem.Spec PyProof.Rows
section
variable {P : Program} {w : World} {A : Around} {E : Value → Shared → Prop} {s : Shared}
set_option maxHeartbeats 6400000 in
/-- set(xs), xs a tuple of texts -/
theorem call_set_txsT {l : Addr} {items : Array Value} (zs : List Str) {Q : Value → Shared → Prop} (hh : A.handled = none) (hl : s.heap.IsTuple l items) (it : TxAre items.toList zs) (hb : zs.length + 1 < scanBound)
    (k : ∀ (h' : Heap) (tk c : Nat), TSet P w h' s.heap.objs.size (fun j => decide (j ∈ zs)) c → (∀ b o, s.heap.get? b = some o → h'.get? b = some o) → Q (.ref s.heap.objs.size) { s with heap := h', toks := tk }) :
    wpAny (model P w) A (call (.type "set") [.ref l]) Q E s := by
  have sz : items.size = zs.length := by have q := it.length; rwa [Array.length_toList] at q
  obtain ⟨c0, tl0, hmro⟩ := F.called_set.mro
  have hmade := F.called_set.made
  have hsub := F.called_set.sub
  refine wpAny_call (codeAny_of_tree ?_)
  show wpAny _ _ (callAny (.type "set") _) _ _ _
  refine wpAny_pure ⟨Code.quiet_builtin _ (by decide +kernel), codeAny_builtin F.entry_type_call ?_⟩
  rw [Around.under_plain (weight_type_call_type "set" [.ref l] []) rfl]
  have notT := F.called_set.notType
  have can := F.called_set.canCreate
  have tc := F.typeCall_set_1 (.ref l)
  repeat (any_goals (first | assumption | wp_step))
  refine codeAny_mono (code_set_led1 (.ref l) (E := E) (Q₁ := fun ob u => ob = .ref s.heap.objs.size ∧ u = { s with heap := s.heap.push (set0 w) }) ⟨rfl, rfl⟩) fun r u hr => ?_
  cases r with
  | error e => exact hr
  | ok fl =>
    cases fl with
    | ret ob =>
      obtain ⟨rfl, rfl⟩ := hr
      have atS : (s.heap.push (set0 w)).get? s.heap.objs.size = some (set0 w) := Heap.get?_push_size _ rfl
      have tyS : Shared.TypeIs { s with heap := s.heap.push (set0 w) } (.ref s.heap.objs.size) "set" := ⟨_, atS, rfl⟩
      have ini := F.called_set.init.lookup
      have inb := F.called_set.init.bind (.ref s.heap.objs.size)
      repeat (any_goals (first | assumption | wp_step))
      refine codeAny_mono (codeAny_call_builtin (R := wants (fun r u2 => r = .none ∧ ∃ h' tk c, u2 = { s with heap := h', toks := tk } ∧ TSet P w h' s.heap.objs.size (fun j => decide (j ∈ zs)) c ∧
          (∀ b o, s.heap.get? b = some o → h'.get? b = some o)) E) F.called_set.init.plain F.entry_set_init (check_set_init_1 tyS ?_)) fun r2 u2 hr2 => ?_
      · obtain ⟨⟨oc, od, odt, osl⟩, hol, hcl, nl, hdl⟩ := hl
        simp only at hcl hdl
        subst hcl; subst hdl
        have hol1 : (s.heap.push (set0 w)).get? l = some { cls := .type "tuple", dict := od, data := .seq items nl, slots := osl } := Heap.get?_push_of_some _ hol
        have e1 := F.sub_tuple_set
        have e2 := F.sub_tuple_frozenset
        have e3 : (Value.type "tuple" == Value.type "dict") = false := by decide
        have il : (s.heap.push (set0 w)).IsTuple l items := ⟨_, hol1, rfl, nl, rfl⟩
        unfold Builtin.«set.__init__» noKeywords Builtin.Frozenset.updateFrom
        generalize hPI : pyIter = PI
        wp_walk
        subst hPI
        refine wpAny_pyIter_tuple il (wpAny_bind (wpAny_runValue ?_))
        have lS : l < s.heap.objs.size := Heap.lt_size hol
        have hh3 : A.in1.in1.in1.handled = none := by simp [hh]
        have sz1 : (s.heap.push (set0 w)).objs.size = s.heap.objs.size + 1 := Heap.size_push ..
        have neI : l ≠ (s.heap.push (set0 w)).objs.size := by rw [sz1]; exact Nat.ne_of_lt (Nat.lt_succ_of_lt lS)
        have nS : s.heap.objs.size ∉ [(s.heap.push (set0 w)).objs.size, l] := by
          rw [sz1]; simp only [List.mem_cons, List.not_mem_nil, or_false, not_or]
          exact ⟨Nat.ne_of_lt (Nat.lt_succ_self _), Nat.ne_of_gt lS⟩
        refine update_txs ((Walks.tuple hh3 _ l neI items).toS) s.heap.objs.size nS zs sz hb (fun i v hv => it.get (by rw [Array.getElem?_toList]; exact hv)) (items.size - 0) 0 _ (by omega) (Nat.zero_le _)
          ⟨⟨_, Heap.get?_push_size _ rfl, rfl, rfl⟩, (il.push _)⟩ ⟨0, Nat.le_refl 0, tset_0 (Heap.get?_push_of_some _ atS)⟩ fun u3 c3 mv hc r3 => ?_
        obtain ⟨h3, g3, d3, tk3, os3⟩ := u3
        have eg : g3 = s.gens := mv.gens
        have ed : d3 = s.drawn := mv.drawn
        have eo : os3 = s.os := mv.os
        subst eg; subst ed; subst eo
        show wpAny _ _ _ _ _ _
        refine wpAny_pure ?_
        show wpAny _ _ (ret Value.none) _ _ _
        refine wpAny_pure ⟨rfl, h3, tk3, c3, rfl, r3, fun b o q => ?_⟩
        have b0 : b < s.heap.objs.size := Heap.lt_size q
        refine mv.heap b o ?_ (Heap.get?_push_of_some _ (Heap.get?_push_of_some _ q))
        simp only [List.mem_cons, List.not_mem_nil, or_false, not_or]
        exact ⟨Nat.ne_of_lt b0, Nat.ne_of_lt (by rw [sz1]; exact Nat.lt_succ_of_lt b0)⟩
      · cases r2 with
        | error e => exact hr2
        | ok fl2 =>
          cases fl2 with
          | ret r =>
            obtain ⟨rfl, h', tk, c, rfl, r3, kk⟩ := hr2
            repeat (any_goals (first | assumption | wp_step))
            exact k _ _ _ r3 kk
          | _ => exact hr2.elim
    | _ => exact hr.elim
end
end L2.Lv
end
section
set_option maxRecDepth 100000
set_option maxHeartbeats 4000000
set_option autoImplicit false
namespace L2.Lv
open PySem PySem.Spec PyProof.Rows
/-! ### len(set(xs)) of texts -/
def uniqB : List (List Nat) → List (List Nat)
  | [] => []
  | z :: zs => if z ∈ uniqB zs then uniqB zs else z :: uniqB zs
theorem mem_uniq {z : List Nat} : ∀ {zs : List (List Nat)}, z ∈ uniqB zs ↔ z ∈ zs
  | [] => Iff.rfl
  | y :: zs => by
    unfold uniqB
    split
    · rename_i c
      rw [mem_uniq, List.mem_cons]
      exact ⟨.inr, fun q => q.elim (fun e => by rw [e]; exact mem_uniq.mp c) id⟩
    · rw [List.mem_cons, List.mem_cons, mem_uniq]
theorem nd_uniq : ∀ zs : List (List Nat), (uniqB zs).Nodup
  | [] => List.nodup_nil
  | y :: zs => by
    unfold uniqB
    split
    · exact nd_uniq zs
    · rename_i c
      exact List.nodup_cons.mpr ⟨c, nd_uniq zs⟩
def seqD (h : Hm) : D → Option (List D)
  | .ref n => itemsOf h n
  | .tup xs => some xs
  | _ => none
def pLenSet (d : D) (h : Hm) : Re D := match seqD h d with
  | some xs => match strsD xs with
    | some zs => if zs.length < 4000 then .ok (.int (uniqB zs).length) h else .no
    | none => .no
  | none => .no
theorem toS_inj {a b : List Nat} (e : toS a = toS b) : a = b := by
  have q : a.toArray = b.toArray := congrArg Str.cps e
  simpa using congrArg Array.toList q
def tLenSetX (K : PySem.W.Frag) (ta : TE) : TE := fun σ H Q => ta σ H fun x H1 => ∃ (l : Addr) (zs : List Str), x = V.ref l ∧ (SqL K H1 l (zs.map V.str) ∨ SqT K H1 l (zs.map V.str)) ∧ zs.length < 4000 ∧
  ∀ n : Nat, (∃ ys : List Str, ys.Nodup ∧ (∀ z, z ∈ ys ↔ z ∈ zs) ∧ ys.length = n) → Q (.int n) H1
section
variable {X : Cx} {p p2 q pos : Pos} {a : Expr} {ta : TE}
theorem pe_lenSetX (hc : X.calm = true) (hg : Gl X "len") (hm : X.mg "len" = none) (hg2 : Gl X "set") (hm2 : X.mg "set" = none) (ha : PE X a ta)
    (na : starEach [a] X.env = (false, eval a X.env) :: starEach [] X.env := by rfl) : PE X (.Call (.Name "len" p) [.Call (.Name "set" p2) [a] [] q] [] pos) (tLenSetX X.K ta) := by
  refine ⟨fun pins s σ H Q I h => Call_ (ld_blt I hg hm boot_len (PyProof.Rows.callWith_builtin1 (PyProof.Rows.args_cons (Call_ (ld_blt I hg2 hm2 PyProof.Rows.boot_set ?_)) rfl) rfl rfl))⟩
  refine PyProof.Rows.callWith_type1 (PyProof.Rows.args_cons (thn (ha.run pins s σ H _ I h) fun v s1 ⟨x, H1, I1, r1, q1⟩ => PyProof.Rows.args_nil ?_) na) na rfl
  obtain ⟨l, zs, rfl, hq, h1, q1⟩ := q1
  cases r1
  have fin : ∀ (h' : Heap) (tk c : Nat), TSet X.prog X.w h' s1.heap.objs.size (fun j => decide (j ∈ zs)) c → (∀ b o, s1.heap.get? b = some o → h'.get? b = some o) →
      wpAny (model X.prog X.w) X.A (spliced (backTo pos (starEach [] X.env))) (fun vs s₂ => wpAny (model X.prog X.w) X.A (call (.builtin "len") (Value.ref s1.heap.objs.size :: vs)) (EP X pins σ Q) X.xe s₂) X.xe { s1 with heap := h', toks := tk } := fun h' tk c ts kk => by
    refine PyProof.Rows.args_nil ?_
    obtain ⟨o, es, ep, t, ho, hex, hd, _, nd, mm, hb, hf, hn, _⟩ := ts
    have J : Inv X pins σ H1 { s1 with heap := h', toks := tk } := I1.kept kk
    have small : (es.size : Int) < 2 ^ 63 := by unfold scanBound at hb; omega
    refine call_len_set ho hex hd hf small ⟨.int es.size, H1, J.tok _, ⟨_, rfl⟩, q1 _ ⟨es.toList.map tx, nd, fun z => ?_, by rw [List.length_map, Array.length_toList]⟩⟩
    rw [← mm z]
    simp
  rcases hq with hq | hq
  · obtain ⟨its, r, pl, _⟩ := I1.list hq
    exact call_set_txs zs (I1.ok.hd hc) pl.isList (by simpa using txare_of r) (by unfold scanBound; omega) fin
  · obtain ⟨its, r, pl, _⟩ := I1.tuple hq
    exact call_set_txsT zs (I1.ok.hd hc) pl (by simpa using txare_of r) (by unfold scanBound; omega) fin
end
section
variable {G : Gx} {X : Cx} {W : WX} {x y z : Expr} {ma mb : ME} {pos np np2 q apos : Pos} {r : List Addr} {H : Hp} {h : Hm}
theorem se_lenSet (hK : X.K = G.K) (hc : X.calm = true) (hm : X.mg "len" = none) (hm2 : X.mg "set" = none) (ha : SE G X W x ma) (hg : Gl X "len" := by rfl) (hg2 : Gl X "set" := by rfl)
    (na : starEach [x] X.env = (false, eval x X.env) :: starEach [] X.env := by rfl) : SE G X W (.Call (.Name "len" np) [.Call (.Name "set" np2) [x] [] q] [] pos) (mUn pLenSet ma) := by
  refine ⟨pe_imp (pe_lenSetX hc hg hm hg2 hm2 ha.pe na) fun σ H Q u => ?_⟩
  obtain ⟨r, h, e, s, en, p⟩ := u
  refine uG_weak (stepP s en p) ?_
  rintro v H1 ⟨r1, h1, a, g1, s1, en1, ra, p1⟩
  unfold pLenSet at p1
  have sq : ∀ xs, seqD h1 a = some xs → ∃ l vs, v = V.ref l ∧ (SqL G.K H1 l vs ∨ SqT G.K H1 l vs) ∧ Reps G r1 H1 xs vs := fun xs e => by
    cases ra with
    | tup hq rs => cases e; exact ⟨_, _, rfl, .inr hq, rs⟩
    | ref hn => obtain ⟨vs, q1, q2⟩ := items_seq s1 hn e; exact ⟨_, vs, rfl, .inl q1, q2⟩
    | _ => cases e
  split at p1
  · rename_i xs e1
    split at p1
    · rename_i zs e2
      split at p1
      · rename_i c
        obtain ⟨l, vs, rfl, hq, rs⟩ := sq xs e1
        have ev := strsD_rep rs e2
        subst ev
        rw [hK]
        refine ⟨l, zs.map toS, rfl, hq, by rw [List.length_map]; exact c, fun n ⟨ys, nd, mm, el⟩ => ?_⟩
        have nd2 : ((uniqB zs).map toS).Nodup := List.Pairwise.map _ (fun a b ne e => ne (toS_inj e)) (nd_uniq zs)
        have pm : ys.Perm ((uniqB zs).map toS) := (List.perm_ext_iff_of_nodup nd nd2).mpr fun z => by
          rw [mm z, List.mem_map, List.mem_map]
          exact ⟨fun ⟨b, h1, h2⟩ => ⟨b, mem_uniq.mpr h1, h2⟩, fun ⟨b, h1, h2⟩ => ⟨b, mem_uniq.mp h1, h2⟩⟩
        have en : n = (uniqB zs).length := by rw [← el, pm.length_eq, List.length_map]
        rw [en]
        exact p1 _ H1 r1 Gr.refl s1 (.int _)
      · exact p1.elim
    · exact p1.elim
  · exact p1.elim

/-! ### xs.pop(i), xs.clear() -/
theorem Reps.eraseIdx : ∀ {ds : List D} {vs : List V} (n : Nat), Reps G r H ds vs → Reps G r H (ds.eraseIdx n) (vs.eraseIdx n)
  | _, _, _, .nil => by simp only [List.eraseIdx_nil]; exact .nil
  | _, _, 0, .cons _ t => t
  | _, _, n + 1, .cons a t => .cons a (Reps.eraseIdx n t)
def pPopI (a : D) (as : List D) (h : Hm) : Re D := match a, as with
  | .ref n, [.int i] => match h[n]? with
    | some (.lst ds) => if 0 ≤ i ∧ i < 2 ^ 63 then match ds[i.toNat]? with
      | some d => .ok d (h.set n (.lst (ds.eraseIdx i.toNat)))
      | none => .no
      else .no
    | _ => .no
  | _, _ => .no
theorem primM_popI : PrimM G "list" rPopAt pPopI := by
  intro W r H h a as x xs Q s ra rs p
  unfold pPopI at p
  split at p
  · rename_i n i
    cases ra with
    | ref hn =>
      cases rs with
      | cons q t =>
        cases t with
        | nil =>
          cases q with
          | int _ =>
            obtain ⟨ob, e1, o⟩ := s.get hn
            rw [e1] at p
            cases ob with
            | lst ds =>
              dsimp only at p
              split at p
              · rename_i c
                split at p
                · rename_i d e
                  obtain ⟨vs, h1, h2⟩ := o
                  obtain ⟨v, ev, rv⟩ := h2.get e
                  have lt : i.toNat < vs.length := (List.getElem?_eq_some_iff.mp ev).1
                  refine ⟨_, vs, i, i.toNat, v, rfl, rfl, h1, by omega, c.2, ?_, ev, ?_⟩
                  · unfold seqIndex?
                    have c1 : ¬ i < 0 := by omega
                    have c2 : (decide (0 ≤ i) && decide (i < (vs.length : Int))) = true := by simp; omega
                    rw [if_neg c1]
                    exact if_pos c2
                  · obtain ⟨s', g⟩ := s.put (ob := .lst (ds.eraseIdx i.toNat)) (o := .lst (vs.eraseIdx i.toNat)) hn fun g => ⟨_, upd_same, (h2.eraseIdx _).mono g⟩
                    exact p v _ r g s' (rv.mono g)
                · exact p.elim
              · exact p.elim
            | _ => exact p.elim
  · exact p.elim
theorem e_popI (hK : X.K = G.K) (ho : SE G X W z ma) (ha : SE G X W x mb)
    (hbase : attributeBase z "pop" X.env (eval z X.env) = eval z X.env := by rfl)
    (hfew : ((backTo pos (starEach [x] X.env)).all (fun x => !x.1) && (backToKw pos (keywordEach [] X.env)).all (fun x => x.1.isSome)
      && decide (([x] : List Expr).length + ([] : List Keyword).length + (if ([] : List Keyword).isEmpty then 0 else 1) < 30)) = true := by rfl)
    (hline : (apos.endLine == pos.line) = true := by rfl) (hs : starEach [x] X.env = (false, eval x X.env) :: starEach [] X.env := by rfl) (hplain : (backTo pos (starEach [] X.env)).any (·.1) = false := by rfl) : SE G X W (.Call (.Attribute z "pop" apos) [x] [] pos) (mMethL pPopI ma (mCons mb mNil)) :=
  se_methL PySem.F.slot_list_pop PySem.F.type_list_pop mt_popAt primM_popI hK ho (sa_cons ha sa_nil hs) hbase hfew hline hs hplain
def pClear (a : D) (as : List D) (h : Hm) : Re D := match a, as with
  | .ref n, [] => match h[n]? with
    | some (.lst _) => .ok .non (h.set n (.lst []))
    | _ => .no
  | _, _ => .no
theorem primM_clear : PrimM G "list" rClear pClear := by
  intro W r H h a as x xs Q s ra rs p
  unfold pClear at p
  split at p
  · cases ra with
    | ref hn =>
      cases rs
      obtain ⟨ob, e1, o⟩ := s.get hn
      rw [e1] at p
      cases ob with
      | lst ds =>
        obtain ⟨vs, h1, h2⟩ := o
        refine ⟨_, vs, rfl, rfl, h1, ?_⟩
        obtain ⟨s', g⟩ := s.put (ob := .lst []) (o := .lst []) hn fun g => ⟨_, upd_same, .nil⟩
        exact p .non _ r g s' .non
      | _ => exact p.elim
  · exact p.elim
theorem e_clear (hK : X.K = G.K) (ho : SE G X W z ma) (hbase : attributeBase z "clear" X.env (eval z X.env) = eval z X.env := by rfl) (hline : (apos.endLine == pos.line) = true := by rfl) :
    SE G X W (.Call (.Attribute z "clear" apos) [] [] pos) (mMethL0 pClear ma) :=
  se_methL0 PySem.F.slot_list_clear PySem.F.type_list_clear mt_clear primM_clear hK ho hbase hline

/-! ### x *= e -/
def ipM : TIp := fun x y H Q => ∃ i j, x = .int i ∧ y = .int j ∧ CMul i j ∧ Q (.int (i * j)) H
theorem ip_mul : PIp X .Mult ipM := by
  intro pins s σ H x y v u Q I r1 r2 h
  obtain ⟨i, j, rfl, rfl, hc, q⟩ := h
  obtain ⟨t, rfl⟩ := r1
  obtain ⟨t', rfl⟩ := r2
  exact imul_int ⟨.int _, H, I.tok _, ⟨_, rfl⟩, q⟩ hc.ok
theorem prim_ipmul : Prim2 G ipM pMulI := by
  intro W r H h a b x y Q s ra rb p
  obtain ⟨i, j, h1, h2, h3, h4⟩ := prim_mulI (G := G) W r H h a b x y Q s ra rb p
  exact ⟨i, j, h1, h2, h3, h4⟩
/-! ### divmod -/
def pDivm (as : List D) (h : Hm) : Re D := match as with
  | [.int i, .int j] => if 0 < j ∧ j < 1073741824 then .ok (.tup [.int (i / j), .int (i % j)]) h else .no
  | _ => .no
theorem primC_divm : PrimC G (fun xs H Q => ∃ i j, xs = [V.int i, V.int j] ∧ CDiv i j ∧ ∀ p, H p = none → Q (V.ref p) (upd H p (.tup [.int (i / j), .int (i % j)]))) pDivm := by
  intro W r H h as xs Q s ra p
  unfold pDivm at p
  split at p
  · rename_i i j
    cases ra with
    | cons q1 t1 =>
      cases t1 with
      | cons q2 t2 =>
        cases t2
        cases q1
        cases q2
        split at p
        · rename_i c
          refine ⟨i, j, rfl, c, fun a ha => ?_⟩
          exact p (.ref a) _ r (gr_fresh ha) (s.fresh ha) (.tup (SqT.of upd_same) (.cons (.int _) (.cons (.int _) .nil)))
        · exact p.elim
  · exact p.elim
theorem e_divm {xs : List Expr} {ms : MA} (hm : X.mg "divmod" = none) (ha : SA G X W (x :: xs) ms) (hg : Gl X "divmod" := by rfl) (he : starEach (x :: xs) X.env = (false, eval x X.env) :: starEach xs X.env := by rfl) (hpl : (backTo pos (starEach xs X.env)).any (·.1) = false := by rfl) :
    SE G X W (.Call (.Name "divmod" np) (x :: xs) [] pos) (mApp pDivm ms) :=
  se_callB call_divmod primC_divm hm (by decide +kernel) ha hg (by decide) (by decide) he hpl
end
end L2.Lv
end
section
set_option maxRecDepth 100000
set_option maxHeartbeats 4000000
set_option autoImplicit false
namespace L2.Lv
open PySem PySem.Spec PyProof.Rows
/-! ### max(xs, default = d) -/
def bestM (b : Option Int) (x : Int) : Option Int := match b with
  | none => some x
  | some m => if x > m then some x else some m
def goM (f : Nat → Int) : Nat → Nat → Option Int → Option Int
  | _, 0, b => b
  | j, k + 1, b => goM f (j + 1) k (bestM b (f j))
/-- what stands in the loop's own list -/
def BestAt (S : Addr) (b : Option Int) (h : Heap) : Prop := ∃ (arr : Array Value) (c : Nat), h.get? S = some { cls := .type "list", dict := none, data := .seq arr c, slots := #[] } ∧
  match b with
  | none => arr = #[]
  | some m => ∃ t, arr = #[.int m t, .int m t]
def IsM (dv : Value) (b : Option Int) (v : Value) : Prop := match b with
  | none => v = dv
  | some m => ∃ t, v = .int m t
theorem max_dname : (toString "max" ++ toString ".loop" : String) = "max.loop" := by decide
theorem args_maxD (a v : Value) : argsOk "max" ⟨[a], [(Str.ofString "default", v)]⟩ := by unfold argsOk; kernel_rfl
section
variable {P : Program} {w : World} {A : Around} {E : Value → Shared → Prop} {R : Result → Shared → Prop} {I : Addr} {fp wr : List Addr} {n : Nat} {Pv : Nat → Value → Prop} {St : Nat → Heap → Prop} {s : Shared}
theorem gt_at {x m : Int} {t t' : Tok} {Q : Value → Shared → Prop} (q : Q (.bool (decide (x > m))) s) : wpAny (model P w) A (richCompare .Gt (.int x t) (.int m t')) Q E s :=
  CmpOf.ints_gt (prog := P) (w := w) (A := A) (P := fun i v => ∃ t, v = Value.int (if i = 0 then x else m) t) (fun i => if i = 0 then x else m) (fun _ _ h => h) 0 1 _ _ s Q E ⟨t, rfl⟩ ⟨t', rfl⟩ q
theorem maxd_loop (W : Walks P w A.in1 I fp wr n Pv St) (f : Nat → Int) (iv : ∀ i v, Pv i v → ∃ t, v = Value.int (f i) t) {S : Addr} (nS : S ∉ fp) (dv : Value) : ∀ (k j : Nat) (s : Shared) (b : Option Int), n - j = k → j ≤ n → St j s.heap → BestAt S b s.heap →
    (∀ v h' tk, IsM dv (goM f j k b) v → (∀ q o, q ∉ wr → q ≠ S → s.heap.get? q = some o → h'.get? q = some o) → R (.ok (.ret v)) { s with heap := h', toks := tk }) →
    codeAny (model P w) A (.builtin "max.loop" ⟨[.ref I, .none, .ref S], [(Str.ofString "default", dv)]⟩) R s := by
  have nw : S ∉ wr := fun z => nS (W.sub _ z)
  intro k
  induction k with
  | zero =>
    rintro j s b ek hj st ⟨arr, c, at0, hb⟩ fin
    have ej : j = n := by omega
    subst ej
    apply codeAny_builtin F.entry_max_loop
    rw [Around.under_plainId F.plain_max_loop _]
    show wpAny _ A.in1 (seqItems? (.ref S) >>= _) _ _ s
    apply wpAny_bind
    apply wpAny_seqItems at0 rfl
    show wpAny _ A.in1 (tryCatch (pyNext (.ref I)) _ >>= _) _ _ s
    apply wpAny_bind
    apply wpAny_tryCatch
    refine W.done s _ _ st fun h' tk kk => ?_
    have at1 := kk S _ nw at0
    cases b with
    | none =>
      cases hb
      show wpAny _ A.in1 (rule _ >>= fun _ => ret dv) _ _ _
      exact wpAny_bind (wpAny_rule (wpAny_pure (fin dv h' tk rfl fun q o n1 n2 e => kk q o n1 e)))
    | some m =>
      obtain ⟨t, rfl⟩ := hb
      show wpAny _ A.in1 (updateSeq S (fun _ => #[]) >>= _) _ _ _
      apply wpAny_bind
      refine wpAny_updateSeq at1 rfl (wpAny_bind (wpAny_letGo (wpAny_pure (fin (.int m t) _ tk ⟨t, rfl⟩ fun q o n1 n2 e => ?_))))
      exact (Heap.get?_update_other _ _ (Ne.symm n2)).trans (kk q o n1 e)
  | succ k ih =>
    rintro j s b ek hj st ⟨arr, c, at0, hb⟩ fin
    have lt : j < n := by omega
    apply codeAny_builtin F.entry_max_loop
    rw [Around.under_plainId F.plain_max_loop _]
    show wpAny _ A.in1 (seqItems? (.ref S) >>= _) _ _ s
    apply wpAny_bind
    apply wpAny_seqItems at0 rfl
    show wpAny _ A.in1 (tryCatch (pyNext (.ref I)) _ >>= _) _ _ s
    apply wpAny_bind
    apply wpAny_tryCatch
    refine W.item j s _ _ lt st fun v h' tk pv st' kk => ?_
    obtain ⟨t, rfl⟩ := iv j v pv
    have at1 := kk S _ nw at0
    have keepU : ∀ (g : Obj → Obj) (q : Addr) (o : Obj), q ∉ wr → q ≠ S → s.heap.get? q = some o → (h'.update S g).get? q = some o := fun g q o n1 n2 e =>
      (Heap.get?_update_other _ _ (Ne.symm n2)).trans (kk q o n1 e)
    have stU : ∀ g : Obj → Obj, St (j + 1) (h'.update S g) := fun g => W.frame _ _ _ st' fun q hq o e => (Heap.get?_update_other _ _ (fun z : S = q => nS (by rw [z]; exact hq))).trans e
    cases b with
    | none =>
      cases hb
      show wpAny _ A.in1 (updateSeq S (fun _ => #[Value.int (f j) t, Value.int (f j) t]) >>= _) _ _ _
      apply wpAny_bind
      apply wpAny_updateSeq at1 rfl
      rw [max_dname]
      refine wpAny_pure ⟨plainId_quiet F.plain_max_loop _, ih (j + 1) _ (some (f j)) (by omega) lt (stU _) ⟨_, _, Heap.get?_update_self _ at1 rfl, t, rfl⟩ fun v h2 tk2 hv k2 => fin v h2 tk2 hv fun q o n1 n2 e => k2 q o n1 n2 (keepU _ q o n1 n2 e)⟩
    | some m =>
      obtain ⟨t0, rfl⟩ := hb
      show wpAny _ A.in1 (tryCatch (holding [Value.int (f j) t, Value.int (f j) t] (richCompare .Gt (Value.int (f j) t) (Value.int m t0) >>= _)) _ >>= _) _ _ _
      apply wpAny_bind
      apply wpAny_tryCatch
      apply wpAny_holding
      apply wpAny_bind
      apply gt_at
      apply wpAny_bind
      apply wpAny_holding
      apply wpAny_truthy_bool
      apply wpAny_bind
      apply wpAny_letGo
      apply wpAny_pure
      by_cases c1 : f j > m
      · have e1 : decide (f j > m) = true := decide_eq_true c1
        rw [e1]
        simp only [if_true]
        apply wpAny_bind
        apply wpAny_updateSeq at1 rfl
        apply wpAny_bind
        apply wpAny_letGo
        rw [max_dname]
        refine wpAny_pure ⟨plainId_quiet F.plain_max_loop _, ih (j + 1) _ (some (f j)) (by omega) lt (stU _) ⟨_, _, Heap.get?_update_self _ at1 rfl, t, rfl⟩ fun v h2 tk2 hv k2 => fin v h2 tk2 ?_ fun q o n1 n2 e => k2 q o n1 n2 (keepU _ q o n1 n2 e)⟩
        have e2 : bestM (some m) (f j) = some (f j) := if_pos c1
        show IsM dv (goM f (j + 1) k (bestM (some m) (f j))) v
        rw [e2]; exact hv
      · have e1 : decide (f j > m) = false := decide_eq_false c1
        rw [e1]
        simp only [Bool.false_eq_true, if_false]
        apply wpAny_bind
        apply wpAny_letGo
        rw [max_dname]
        refine wpAny_pure ⟨plainId_quiet F.plain_max_loop _, ih (j + 1) _ (some m) (by omega) lt st' ⟨_, _, at1, t0, rfl⟩ fun v h2 tk2 hv k2 => fin v h2 tk2 ?_ fun q o n1 n2 e => k2 q o n1 n2 (kk q o n1 e)⟩
        have e2 : bestM (some m) (f j) = some m := if_neg c1
        show IsM dv (goM f (j + 1) k (bestM (some m) (f j))) v
        rw [e2]; exact hv
theorem goM_list {ns : List Int} {f : Nat → Int} (hf : ∀ i x, ns[i]? = some x → f i = x) : ∀ (k j : Nat) (b : Option Int), ns.length - j = k → j ≤ ns.length → goM f j k b = (ns.drop j).foldl bestM b := by
  intro k
  induction k with
  | zero =>
    intro j b ek hj
    have e : ns.drop j = [] := List.drop_eq_nil_of_le (by omega)
    rw [e]; rfl
  | succ k ih =>
    intro j b ek hj
    have lt : j < ns.length := by omega
    rw [List.drop_eq_getElem_cons lt, List.foldl_cons, ← ih (j + 1) _ (by omega) lt]
    show goM f (j + 1) k (bestM b (f j)) = _
    rw [hf j _ (List.getElem?_eq_getElem lt)]
/-- max(xs, default = d) of a list of ints -/
theorem call_maxD {l : Addr} {items : Array Value} {ns : List Int} {dv : Value} {Q : Value → Shared → Prop} (hh : A.handled = none) (hl : s.heap.IsList l items) (it : IntsAre items.toList ns)
    (k : ∀ v h' tk, (∀ b o, s.heap.get? b = some o → h'.get? b = some o) → IsM dv (ns.foldl bestM none) v → Q v { s with heap := h', toks := tk }) : wpAny (model P w) A (call (.builtin "max") [.ref l] [(Str.ofString "default", dv)]) Q E s := by
  have sz : items.size = ns.length := by have q := IntsAre.length it; rwa [Array.length_toList] at q
  refine wpAny_call (codeAny_call_builtin F.plain_max F.entry_max ?_)
  have hk : builtinKind "max" = none := F.kind_max
  simp only [checkBuiltinCall, hk]
  have body : wpAny (model P w) A.in1 (Builtin.«max» ⟨[.ref l], [(Str.ofString "default", dv)]⟩) (fun fin s' => match fin with
      | .done f => (match (Except.ok f : Result) with | .ok (.ret v) => Q v s' | .ok _ => False | .error e => E e s')
      | .again c' => c'.quiet = true ∧ codeAny (model P w) A c' (fun r s' => match r with | .ok (.ret v) => Q v s' | .ok _ => False | .error e => E e s') s') E s := by
    show wpAny _ A.in1 (Builtin.Builtins.bindParams "max" ["key", "default"] 0 ⟨[], [(Str.ofString "default", dv)]⟩ >>= _) _ _ s
    apply wpAny_bind
    apply wpAny_of_eq (show Builtin.Builtins.bindParams "max" ["key", "default"] 0 ⟨[], [(Str.ofString "default", dv)]⟩ = pure [none, some dv] from by first | rfl | kernel_rfl)
    apply wpAny_bind
    apply wpAny_pure
    apply wpAny_bind
    refine wpAny_pyIter_list hl ?_
    apply wpAny_bind
    refine wpAny_newObj_type ?_
    rw [max_dname]
    have lS : l < s.heap.objs.size := let ⟨_, e, _⟩ := hl; Heap.lt_size e
    refine wpAny_pure ⟨plainId_quiet F.plain_max_loop _, ?_⟩
    have hh3 : A.in1.handled = none := hh
    refine maxd_loop (Walks.list hh3 _ l (Nat.ne_of_lt lS) items) (fun i => ns.getD i 0) (fun i v hv => ?_) ?_ dv (items.size - 0) 0 _ none rfl (Nat.zero_le _) ?_ ⟨#[], _, Heap.get?_push_size _ rfl, rfl⟩ fun v h' tk hv kk => ?_
    · obtain ⟨t, e⟩ := PyProof.Rows.IntsAre.int_at it i v (by rw [Array.getElem?_toList]; exact hv)
      exact ⟨t, e⟩
    · rw [Heap.size_push]
      simp only [List.mem_cons, List.not_mem_nil, or_false, not_or]
      exact ⟨Nat.ne_of_gt (Nat.lt_succ_self _), Nat.ne_of_gt (Nat.lt_succ_of_lt lS)⟩
    · exact ⟨⟨_, Heap.get?_push_of_some _ (Heap.get?_push_size _ rfl), rfl, rfl⟩, (hl.push _).push _⟩
    · refine k v h' tk (fun q o e => ?_) ?_
      · have lq := Heap.lt_size e
        refine kk q o ?_ ?_ (Heap.get?_push_of_some _ (Heap.get?_push_of_some _ e))
        · simp only [List.mem_cons, List.not_mem_nil, or_false, not_or]
          first
            | exact Nat.ne_of_lt lq
            | exact ⟨Nat.ne_of_lt lq, fun z => by subst z; exact absurd rfl (Nat.ne_of_lt lq)⟩
        · rw [Heap.size_push]
          exact Nat.ne_of_lt (Nat.lt_succ_of_lt lq)
      · have eg := goM_list (ns := ns) (f := fun i => ns.getD i 0) (fun i x e => by simp [List.getD_eq_getElem?_getD, e]) ns.length 0 none (by omega) (by omega)
        rw [List.drop_zero] at eg
        rw [← eg]
        have es : items.size - 0 = ns.length := by omega
        rw [es] at hv
        exact hv
  cases hsig : Manifest.signature? "max" with
  | none => exact wpAny_pure body
  | some sig =>
    have ha := args_maxD (.ref l) dv
    simp only [argsOk, hsig] at ha
    have h2 : Bind.checkArgs "max" sig ⟨[.ref l], [(Str.ofString "default", dv)]⟩ = pure () := ha
    show wpAny _ A.in1 (Bind.checkArgs "max" sig ⟨[.ref l], [(Str.ofString "default", dv)]⟩) _ _ s
    rw [h2]; exact wpAny_pure body
end
end L2.Lv
end
section
set_option maxRecDepth 100000
set_option maxHeartbeats 4000000
set_option autoImplicit false
namespace L2.Lv
open PySem PySem.Spec PyProof.Rows
def pMaxD (a d : D) (h : Hm) : Re D := match a with
  | .ref n => match itemsOf h n with
    | some xs => match intsD xs with
      | some ns => match ns.foldl bestM none with
        | some m => .ok (.int m) h
        | none => .ok d h
      | none => .no
    | none => .no
  | _ => .no
section
variable {G : Gx} {X : Cx} {W : WX} {x y : Expr} {ma : ME} {mk : MA} {pos np kp : Pos} {r : List Addr} {H : Hp} {h : Hm}
def mMaxD (a : ME) (k : MA) : ME := fun e h => (a e h).bind fun d h1 => (k e h1).bind fun ds h2 => match ds with
  | [z] => pMaxD d z h2
  | _ => .no
theorem se_maxD (hK : X.K = G.K) (hc : X.calm = true) (hm : X.mg "max" = none) (ha : SE G X W x ma) (hk : SK G X W [⟨some "default", y, kp⟩] mk) (hg : Gl X "max" := by rfl)
    (na : starEach [x] X.env = (false, eval x X.env) :: starEach [] X.env := by rfl) : SE G X W (.Call (.Name "max" np) [x] [⟨some "default", y, kp⟩] pos) (mMaxD ma mk) := by
  refine ⟨⟨fun pins s σ H Q I u => ?_⟩⟩
  obtain ⟨r, h, e, sm, en, p⟩ := u
  refine wpAny_Call_Name_kw (ld_blt I hg hm (show bootBuiltins "max" = some (.builtin "max") by decide +kernel) ?_)
  refine PyProof.Rows.callWith_kw (PyProof.Rows.args_cons (thn (ha.pe.run pins s σ H _ I (stepP sm en p)) fun v s1 ⟨x1, H1, I1, r1, q1⟩ => PyProof.Rows.args_nil ?_) na) (by rw [na]; rfl) (by rw [na]; rfl) rfl rfl
  obtain ⟨r2, h2, a, g2, sm2, en2, ra, p2⟩ := q1
  refine thn (hk.pk.run pos pins s1 σ H1 _ I1 (stepP sm2 en2 p2)) fun ws s2 ⟨zs, H2, I2, rz, q2⟩ => ?_
  obtain ⟨r3, h3, bs, g3, sm3, en3, rb, p3⟩ := q2
  skip
  cases rb with
  | nil => exact p3.elim
  | cons qd tl =>
    rename_i z zv ds vs
    cases tl with
    | cons _ _ => exact p3.elim
    | nil =>
      cases rz with
      | @cons _ dv _ us rd tl2 =>
        cases tl2
        have ra2 := ra.mono g3
        unfold pMaxD at p3
        cases ra2 with
        | ref hn =>
          dsimp only at p3
          split at p3
          · rename_i xs e1
            split at p3
            · rename_i ns e2
              obtain ⟨vs, sq, rs⟩ := items_seq sm3 hn e1
              have ev := ints_rep rs e2
              subst ev
              rw [← hK] at sq
              obtain ⟨its, rv, pl, _⟩ := I2.list sq
              cases r1
              show wpAny _ _ (call (.builtin "max") [_] [(Str.ofString "default", dv)]) _ _ _
              refine call_maxD (ns := ns) (I2.ok.hd hc) pl.isList (by simpa using rv.ints) fun v h' tk kk hv => ?_
              have J : Inv X pins σ H2 { s2 with heap := h', toks := tk } := I2.kept kk
              split at p3
              · rename_i m em
                rw [em] at hv
                exact ⟨.int m, H2, J, hv, p3 _ H2 r3 Gr.refl sm3 (.int m)⟩
              · rename_i em
                rw [em] at hv
                have hv' : v = dv := hv
                subst hv'
                exact ⟨_, H2, J, rd, p3 _ H2 r3 Gr.refl sm3 qd⟩
            · exact p3.elim
          · exact p3.elim
        | _ => exact p3.elim
end
end L2.Lv
end
section
set_option maxRecDepth 100000
set_option maxHeartbeats 4000000
set_option autoImplicit false
namespace L2.Lv
open PySem PySem.Spec PyProof.Rows GenW
/-! ### a generator def, run to its end -/
inductive Rg where
  | nx (e : En) (h : Hm) (ys : List D) | rt (h : Hm) (ys : List D) | bk (e : En) (h : Hm) (ys : List D) | ct (e : En) (h : Hm) (ys : List D) | no
abbrev MY := En → Hm → List D → Rg
def PostG (G : Gx) (Z : GEnds) (r : List Addr) (H : Hp) (x : Rg) : Prop := match x with
  | .nx e h ys => ∀ σ' H' r' vs, Gr G r H r' H' → Sim G r' H' h → EnR G r' H' e σ' → Reps G r' H' ys vs → Z.nx vs σ' H'
  | .bk e h ys => ∀ σ' H' r' vs, Gr G r H r' H' → Sim G r' H' h → EnR G r' H' e σ' → Reps G r' H' ys vs → Z.bk vs σ' H'
  | .ct e h ys => ∀ σ' H' r' vs, Gr G r H r' H' → Sim G r' H' h → EnR G r' H' e σ' → Reps G r' H' ys vs → Z.ct vs σ' H'
  | .rt h ys => ∀ H' r' vs, Gr G r H r' H' → Sim G r' H' h → Reps G r' H' ys vs → Z.rt vs .non H'
  | .no => False
section
variable {G : Gx} {X : Cx} {W : WX} {x y z : Expr} {ma mb : ME} {mt : MT} {pos yp : Pos} {st : Stmt} {sts s1 s2 : List Stmt} {a b : MY} {ms : MS} {r r' : List Addr} {H H' : Hp} {h : Hm} {e : En} {σ : L2.St} {Z : GEnds} {ys : List D} {vs : List V}
theorem PostG.mono {x : Rg} (g : Gr G r H r' H') (p : PostG G Z r H x) : PostG G Z r' H' x := by
  cases x with
  | nx e h ys => exact fun σ H2 r2 vs g2 => p σ H2 r2 vs (g.trans g2)
  | bk e h ys => exact fun σ H2 r2 vs g2 => p σ H2 r2 vs (g.trans g2)
  | ct e h ys => exact fun σ H2 r2 vs g2 => p σ H2 r2 vs (g.trans g2)
  | rt h ys => exact fun H2 r2 vs g2 => p H2 r2 vs (g.trans g2)
  | no => exact p
def uY (G : Gx) (m : MY) : TGn := fun Z ys σ H => ∃ r h e ds, Sim G r H h ∧ EnR G r H e σ ∧ Reps G r H ds ys ∧ PostG G Z r H (m e h ds)
structure SY (G : Gx) (X : Cx) (x : Stmt) (m : MY) : Prop where
  gs : GS X x (uY G m)
structure SYs (G : Gx) (X : Cx) (xs : List Stmt) (m : MY) : Prop where
  gss : GSs X xs (uY G m)
theorem gs_imp {t t' : TGn} (h : GS X st t) (w : ∀ Z ys σ H, t' Z ys σ H → t Z ys σ H) : GS X st t' := ⟨fun A S ip R n ys s₀ c fs K J gd lv s σ H D g hn k hI ht => h.run A S ip R n ys s₀ c fs K J gd lv s σ H D g hn k hI (w _ _ _ _ ht)⟩
theorem gss_imp {t t' : TGn} (h : GSs X sts t) (w : ∀ Z ys σ H, t' Z ys σ H → t Z ys σ H) : GSs X sts t' := ⟨fun A S ip R n ys s₀ c fs K J gd lv s σ H D g hn k hI ht => h.run A S ip R n ys s₀ c fs K J gd lv s σ H D g hn k hI (w _ _ _ _ ht)⟩
/-- what an expression leaves -/
def Re.by {α : Type} (r : Re α) (k : α → Hm → Rg) : Rg := match r with
  | .ok a h => k a h
  | _ => .no
theorem stepY {α β : Type} {R : List Addr → Hp → α → β → Prop} {m : En → Hm → Re α} {k : α → Hm → Rg} (s : Sim G r H h) (en : EnR G r H e σ) (rs : Reps G r H ys vs) (p : PostG G Z r H ((m e h).by k)) :
    uG G W R m σ H fun b H1 => ∃ (r1 : List Addr) (h1 : Hm) (a : α), Gr G r H r1 H1 ∧ Sim G r1 H1 h1 ∧ EnR G r1 H1 e σ ∧ Reps G r1 H1 ys vs ∧ R r1 H1 a b ∧ PostG G Z r1 H1 (k a h1) := by
  refine ⟨r, h, e, s, en, ?_⟩
  cases q : m e h with
  | ok a h' =>
    rw [q] at p
    exact fun b H' r' g s' ra => ⟨r', h', a, g, s', en.mono g, rs.mono g, ra, PostG.mono g p⟩
  | ex c d h' => rw [q] at p; exact p.elim
  | no => rw [q] at p; exact p.elim
/-- a statement that hands out nothing -/
def gPlain (m : MS) : MY := fun e h ys => match m e h with
  | .nx e' h' => .nx e' h' ys
  | .bk e' h' => .bk e' h' ys
  | .ct e' h' => .ct e' h' ys
  | .rt .non h' => .rt h' ys
  | _ => .no
theorem plainP (s : Sim G r H h) (en : EnR G r H e σ) (rs : Reps G r H ys vs) (p : PostG G Z r H (gPlain ms e h ys)) : uS G W ms (Z.at vs) σ H := by
  refine ⟨r, h, e, s, en, ?_⟩
  unfold gPlain at p
  cases q : ms e h with
  | nx e' h' => simp only [q] at p; exact fun σ' H' r' g s' en' => p σ' H' r' vs g s' en' (rs.mono g)
  | bk e' h' => simp only [q] at p; exact fun σ' H' r' g s' en' => p σ' H' r' vs g s' en' (rs.mono g)
  | ct e' h' => simp only [q] at p; exact fun σ' H' r' g s' en' => p σ' H' r' vs g s' en' (rs.mono g)
  | rt d h' =>
    cases d with
    | non =>
      simp only [q] at p
      intro v H' r' g s' rv
      cases rv
      exact p H' r' vs g s' (rs.mono g)
    | _ => simp only [q] at p; exact p.elim
  | ex c d e' h' => simp only [q] at p; exact p.elim
  | no => simp only [q] at p; exact p.elim
theorem sy_plain (hs : SS G X W st ms) : SY G X st (gPlain ms) := by
  refine ⟨gs_imp (gs_ps hs.ps) fun Z ys σ H u => ?_⟩
  obtain ⟨r, h, e, ds, s, en, rs, p⟩ := u
  exact plainP s en rs p
theorem sys_plain (hs : SSs G X W sts ms) : SYs G X sts (gPlain ms) := by
  refine ⟨gss_imp (gss_pss hs.pss) fun Z ys σ H u => ?_⟩
  obtain ⟨r, h, e, ds, s, en, rs, p⟩ := u
  exact plainP s en rs p
def gSeq (a b : MY) : MY := fun e h ys => match a e h ys with
  | .nx e' h' ys' => b e' h' ys'
  | x => x
theorem sys_cons (h1 : SY G X st a) (h2 : SYs G X sts b) : SYs G X (st :: sts) (gSeq a b) := by
  refine ⟨gss_imp (gss_cons h1.gs h2.gss) fun Z ys σ H u => ?_⟩
  obtain ⟨r, h, e, ds, s, en, rs, p⟩ := u
  refine ⟨r, h, e, ds, s, en, rs, ?_⟩
  unfold gSeq at p
  cases q : a e h ds with
  | nx e' h' ys' => simp only [q] at p; exact fun σ' H' r' vs g s' en' rs' => ⟨r', h', e', ys', s', en', rs', PostG.mono g p⟩
  | bk e' h' ys' => simp only [q] at p; exact p
  | ct e' h' ys' => simp only [q] at p; exact p
  | rt h' ys' => simp only [q] at p; exact p
  | no => simp only [q] at p; exact p
def gPass : MY := fun e h ys => .nx e h ys
theorem sys_nil : SYs G X [] gPass := by
  refine ⟨gss_imp gss_nil fun Z ys σ H u => ?_⟩
  obtain ⟨r, h, e, ds, s, en, rs, p⟩ := u
  exact p σ H r ys Gr.refl s en rs
theorem sys_one (h1 : SY G X st a) : SYs G X [st] (gSeq a gPass) := sys_cons h1 sys_nil
def gYield (m : ME) : MY := fun e h ys => if ys.length < big then (m e h).by fun d h1 => .nx e h1 (ys ++ [d]) else .no
theorem sy_yield (ha : SE G X W x ma) (hco : X.env.scope.isCoroutine = false := by rfl) (hi : interactive X.env = false := by rfl) : SY G X (.Expr (.Yield (some x) yp) pos) (gYield ma) := by
  refine ⟨gs_imp (gs_yield ha.pe hco hi) fun Z ys σ H u => ?_⟩
  obtain ⟨r, h, e, ds, s, en, rs, p⟩ := u
  unfold gYield at p
  split at p
  · rename_i c
    refine ⟨?_, ?_⟩
    · rw [← rs.length]
      have := big_le (Nat.le_of_lt c)
      have e2 := big_le (Nat.le_refl big)
      omega
    · refine uG_weak (stepY s en rs p) ?_
      rintro v H1 ⟨r1, h1, d, g1, s1, en1, rs1, ra, p1⟩
      exact p1 σ H1 r1 _ Gr.refl s1 en1 (rs1.append (.cons ra .nil))
  · exact p.elim
/-! ### if with a yield in it -/
def tGIf (c : TT) (t u : TGn) : TGn := fun D ys σ H => c σ H fun v H1 => if v = true then t D ys σ H1 else u D ys σ H1
theorem gs_if {c : TT} {t u : TGn} (hc : PT X x c) (ha : GSs X s1 t) (hb : GSs X s2 u) : GS X (.If x s1 s2 pos) (tGIf c t u) := by
  refine ⟨fun A S ip R n ys s₀ c fs K J gd lv s σ H D g hn k hI ht => ?_⟩
  obtain ⟨acc, cc, ra, I⟩ := hI
  rw [exec_If]
  refine seg_at ?_
  refine seg_bind_wrap (wpAny_pure (seg_bind_wrap ?_))
  rw [g.over]
  refine wpAny_mono (hc.run _ s σ H _ I ht) (fun v s' ⟨H1, I1, q1⟩ => ?_) fun x s' hx => k.exc n s₀ x s' hx
  cases v with
  | true => exact ha.run A S ip R n ys s₀ c fs K J gd lv s' σ H1 D g hn k ⟨acc, cc, ra, I1⟩ q1
  | false => exact hb.run A S ip R n ys s₀ c fs K J gd lv s' σ H1 D g hn k ⟨acc, cc, ra, I1⟩ q1
def gIf (t : MT) (a b : MY) : MY := fun e h ys => (t e h).by fun c h1 => if c = true then a e h1 ys else b e h1 ys
theorem sy_if (ht : ST G X W x mt) (ha : SYs G X s1 a) (hb : SYs G X s2 b) : SY G X (.If x s1 s2 pos) (gIf mt a b) := by
  refine ⟨gs_imp (gs_if ht.pt ha.gss hb.gss) fun Z ys σ H u => ?_⟩
  obtain ⟨r, h, e, ds, s, en, rs, p⟩ := u
  refine uG_weak (stepY s en rs p) ?_
  rintro v H1 ⟨r1, h1, c, g1, s1, en1, rs1, rc, p1⟩
  have rc : c = v := rc
  subst rc
  cases c with
  | true => exact ⟨r1, h1, e, ds, s1, en1, rs1, p1⟩
  | false => exact ⟨r1, h1, e, ds, s1, en1, rs1, p1⟩
def gWhileN (t : MT) (b : MY) : Nat → MY
  | 0 => fun _ _ _ => .no
  | f + 1 => fun e h ys => (t e h).by fun c h1 => if c = true then match b e h1 ys with
      | .nx e' h' ys' => gWhileN t b f e' h' ys'
      | .ct e' h' ys' => gWhileN t b f e' h' ys'
      | .bk e' h' ys' => .nx e' h' ys'
      | x => x
    else .nx e h1 ys
def gWhile (t : MT) (b : MY) : MY := gWhileN t b lots
theorem sy_while (hp : PassesOwn (model X.prog X.w) X.A X.env X.xe) (ht : ST G X W x mt) (hb : SYs G X sts b) : SY G X (.While x sts [] pos) (gWhile mt b) := by
  refine ⟨gs_imp (gs_while hp ht.pt hb.gss) fun Z ys σ H u => ?_⟩
  obtain ⟨r, h, e, ds, s, en, rs, p⟩ := u
  refine ⟨fun m ys σ H => ∃ (r' : List Addr) (h : Hm) (e : En) (ds : List D), Sim G r' H h ∧ EnR G r' H e σ ∧ Reps G r' H ds ys ∧ PostG G Z r' H (gWhileN mt b m e h ds), ⟨lots, r, h, e, ds, s, en, rs, p⟩, ?_⟩
  rintro m ys2 σ2 H2 ⟨r2, h2, e2, ds2, s2, en2, rs2, p2⟩
  cases m with
  | zero => exact p2.elim
  | succ m =>
    simp only [gWhileN] at p2
    refine uG_weak (stepY s2 en2 rs2 p2) ?_
    rintro v H3 ⟨r3, h3, c, g3, s3, en3, rs3, rc, p3⟩
    have rc : c = v := rc
    subst rc
    cases c with
    | false => exact p3 σ2 H3 r3 ys2 Gr.refl s3 en3 rs3
    | true =>
      refine ⟨_, fun ys' σ' H' n => ⟨m, Nat.lt_succ_self m, n⟩, r3, h3, e2, ds2, s3, en3, rs3, ?_⟩
      cases eb : b e2 h3 ds2 with
      | nx e' h' ys' => simp only [eb, if_true] at p3; exact fun σ' H' r' vs g s' en' rs' => ⟨r', h', e', ys', s', en', rs', PostG.mono g p3⟩
      | ct e' h' ys' => simp only [eb, if_true] at p3; exact fun σ' H' r' vs g s' en' rs' => ⟨r', h', e', ys', s', en', rs', PostG.mono g p3⟩
      | bk e' h' ys' => simp only [eb, if_true] at p3; exact p3
      | rt h' ys' => simp only [eb, if_true] at p3; exact p3
      | no => simp only [eb, if_true] at p3; exact p3
end
end L2.Lv
end
section
set_option maxRecDepth 100000
set_option maxHeartbeats 4000000
set_option autoImplicit false
namespace L2.Lv
open PySem PySem.Spec PyProof.Rows GenW
def PostL (G : Gx) (r : List Addr) (H : Hp) (x : Re D) (Q : List V → Hp → Prop) : Prop := match x with
  | .ok (.tup ys) h' => ∀ H' r' vs, Gr G r H r' H' → Sim G r' H' h' → Reps G r' H' ys vs → Q vs H'
  | _ => False
def spG (G : Gx) (m : List D → Hm → Re D) : SpG := fun vs H Q _ => ∃ r h ds, Sim G r H h ∧ Reps G r H ds vs ∧ PostL G r H (m ds h) Q
/-- all that a generator def hands out, as a tuple -/
def mGen (np n : Nat) (b : MY) (ds : List D) (h : Hm) : Re D := if ds.length = np then match b (startE n ds) h [] with
  | .nx _ h' ys => .ok (.tup ys) h'
  | .rt h' ys => .ok (.tup ys) h'
  | _ => .no
  else .no
section
variable {P : Program} {w : World} {K : PySem.W.Frag} {mg : Str → Option Value} {base : Heap} {G : Gx}
theorem gfn_ok {x qual : Str} {st : Stmt} {f : Addr} {fd : FuncData} {N ps : List Str} {k : Nat} {b : MY} (F : Fun K x qual st f fd) (S : GScope N ps (defScope st))
    (hb : ∀ (cdv : Value) (A : Around) (outer : List Env) (s : Shared) (H : Hp) (E : XK) (pn : List (Addr × Obj)), Room k (A.deeper (envOfC qual (defScope st) s.heap.objs.size f cdv)) →
      SYs G (gcxOf P w K mg base N qual (defScope st) f cdv A outer s H E pn) (defBody st) b) : GFn P w K mg base (k + 1) f fd ps (spG G (mGen ps.length N.length b)) := by
  obtain ⟨oc, od, kV, doc, pm, an, cdv, ct, osl, rfl, lk, hcd⟩ := F.ex
  refine gfn_of lk hcd S (fun vs H Q E q => ?_) fun A outer s H vs Q E pn hr q => ⟨_, (hb cdv A outer s H E pn hr).gss, ?_⟩
  · obtain ⟨r, h, ds, sm, rp, p⟩ := q
    unfold mGen at p
    split at p
    · rename_i c
      rw [← rp.length]; exact c
    · exact p.elim
  · obtain ⟨r, h, ds, sm, rp, p⟩ := q
    unfold mGen at p
    split at p
    · refine ⟨r, h, startE N.length ds, [], sm, ?_, .nil, ?_⟩
      · unfold startE start
        rw [rp.length]
        exact start_en rp _
      · cases q : b (startE N.length ds) h [] with
        | nx e' h' ys => rw [q] at p; exact fun σ' H' r' vs g s' _ rs => p H' r' vs g s' rs
        | rt h' ys => rw [q] at p; exact fun H' r' vs g s' rs => ⟨rfl, p H' r' vs g s' rs⟩
        | bk e' h' ys => rw [q] at p; exact p.elim
        | ct e' h' ys => rw [q] at p; exact p.elim
        | no => rw [q] at p; exact p.elim
    · exact p.elim
theorem gfn_no {k : Nat} {f : Addr} {fd : FuncData} {ps : List Str} : GFn P w K mg base k f fd ps (spG G (fun _ _ => .no)) :=
  ⟨fun vs H Q E ⟨_, _, _, _, _, p⟩ => p.elim, fun A outer s H args us vs Q E _ _ _ _ ⟨_, _, _, _, _, p⟩ => p.elim⟩
end
section
variable {G : Gx} {X : Cx} {W : WX} {x : Expr} {xs : List Expr} {ms : MA} {pos pos' np np2 : Pos} {k : Nat} {f : Addr} {fd : FuncData} {ps : List Str} {n : Str} {m : List D → Hm → Re D}
def mListG (m : List D → Hm → Re D) (a : MA) : ME := fun e h => (a e h).bind fun ds h1 => match m ds h1 with
  | .ok (.tup ys) h2 => newL ys h2
  | _ => .no
theorem se_listG (F : GFn X.prog X.w X.K X.mg X.base k f fd ps (spG G m)) (hr : Room (k + 3) X.A) (hm : X.mg n = some (.ref f)) (hk : PySem.W.keepIn X.K (.ref f) = true) (hb : Binds X.K fd ps []) (ha : SA G X W (x :: xs) ms) (hml : X.mg "list" = none)
    (hg : Gl X n := by rfl) (hg2 : Gl X "list" := by rfl) (hdb : (n == ("__debug__" : Str)) = false := by decide) (he : starEach (x :: xs) X.env = (false, eval x X.env) :: starEach xs X.env := by rfl) (hpl : (backTo pos' (starEach xs X.env)).any (·.1) = false := by rfl)
    (he2 : starEach [.Call (.Name n np) (x :: xs) [] pos'] X.env = (false, eval (.Call (.Name n np) (x :: xs) [] pos') X.env) :: starEach [] X.env := by rfl) :
    SE G X W (.Call (.Name "list" np2) [.Call (.Name n np) (x :: xs) [] pos'] [] pos) (mListG m ms) := by
  have hr0 : Room k X.A := hr.mono (by omega)
  refine ⟨pe_imp (pe_listG (E := fun _ _ _ => False) (pgen_call (E := fun _ _ _ => False) F hr0 hg hm hk hb .nil ha.pa hdb he hpl) (fun pins σ H s e s' I c => ?_) (fun cls d H z => z.elim) hr hg2 hml (by decide +kernel) (by decide) (by decide) he2) fun σ H Q u => ?_⟩
  · obtain ⟨_, _, _, _, _, _, _, _, _, _, _, _, z⟩ := c
    exact z.elim
  · obtain ⟨r, h, e, s, en, p⟩ := u
    refine uG_weak (stepP s en p) ?_
    rintro vs H1 ⟨r1, h1, as, g1, s1, en1, rs, p1⟩
    refine ⟨r1, h1, as, s1, by rw [List.append_nil]; exact rs, ?_⟩
    cases q : m as h1 with
    | ok d h2 =>
      rw [q] at p1
      cases d with
      | tup ys => exact fun H' r' ws g s' rw' => (post_newL s' rw' (Post.mono g p1)).2
      | _ => exact p1.elim
    | ex c d h2 => rw [q] at p1; exact p1.elim
    | no => rw [q] at p1; exact p1.elim
end
end L2.Lv
end
section
set_option maxRecDepth 100000
set_option maxHeartbeats 4000000
set_option autoImplicit false
namespace L2.Lv
open PySem PySem.Spec PyProof.Rows
/-! ### in, of lists and tuples -/
def flatD : D → Bool
  | .tup _ => false
  | .ref _ => false
  | _ => true
def eqF : D → D → Bool
  | .non, .non => true
  | .bl a, .bl b => a == b
  | .bl a, .int b => (if a then 1 else 0) == b
  | .int a, .bl b => a == (if b then 1 else 0)
  | .int a, .int b => a == b
  | .str a, .str b => decide (a = b)
  | _, _ => false
def pInA (neg : Bool) (a b : D) (h : Hm) : Re D := match b with
  | .tup xs => if flatD a && xs.all flatD then .ok (.bl (if neg then !(xs.any fun z => eqF z a) else xs.any fun z => eqF z a)) h else .no
  | _ => pIn neg a b h
section
variable {G : Gx} {X : Cx} {W : WX} {x y : Expr} {ma mb : ME} {pos : Pos} {k : Nat} {r : List Addr} {H : Hp}
theorem flatV_rep {d : D} {v : V} (q : Rep G r H d v) (f : flatD d = true) : flatV v = true := by
  cases q with
  | tup _ _ => cases f
  | ref _ => cases f
  | _ => rfl
theorem eqF_rep {d e : D} {v w : V} (q1 : Rep G r H d v) (q2 : Rep G r H e w) (f1 : flatD d = true) (f2 : flatD e = true) : eqF d e = eqV v w := by
  cases q1 with
  | tup _ _ => cases f1
  | ref _ => cases f1
  | str a =>
    cases q2 with
    | tup _ _ => cases f2
    | ref _ => cases f2
    | str b => exact (str_eqv a b).symm
    | _ => rfl
  | _ =>
    cases q2 with
    | tup _ _ => cases f2
    | ref _ => cases f2
    | _ => rfl
theorem any_flat {e : D} {w : V} (q2 : Rep G r H e w) (f2 : flatD e = true) : ∀ {ds : List D} {vs : List V}, Reps G r H ds vs → ds.all flatD = true → vs.all flatV = true ∧ (ds.any fun z => eqF z e) = inV w vs
  | _, _, .nil, _ => ⟨rfl, rfl⟩
  | _, _, .cons q t, f => by
    rw [List.all_cons, Bool.and_eq_true] at f
    obtain ⟨i1, i2⟩ := any_flat q2 f2 t f.2
    refine ⟨by rw [List.all_cons, flatV_rep q f.1, i1]; rfl, ?_⟩
    unfold inV at i2 ⊢
    rw [List.any_cons, List.any_cons, i2, eqF_rep q q2 f.1 f2]
def rInA (K : PySem.W.Frag) : R2 := fun x y H Q => rInD K x y H Q ∨ rIn K false x y H Q
def rNinA (K : PySem.W.Frag) : R2 := fun x y H Q => rNotInD K x y H Q ∨ rIn K true x y H Q
theorem prim_inA : Prim2 G (rInA G.K) (pInA false) := by
  intro W r H h a b x y Q s ra rb p
  cases rb with
  | tup hq rs =>
    refine .inr ?_
    unfold pInA at p
    dsimp only at p
    split at p
    · rename_i c
      rw [Bool.and_eq_true] at c
      obtain ⟨i1, i2⟩ := any_flat ra c.1 rs c.2
      refine ⟨_, _, rfl, .inr hq, flatV_rep ra c.1, i1, ?_⟩
      rw [← i2]
      exact p _ H r Gr.refl s (.bl _)
    · exact p.elim
  | ref hn => exact .inl (prim_in W r H h a _ x _ Q s ra (.ref hn) p)
  | _ => exact p.elim
theorem prim_ninA : Prim2 G (rNinA G.K) (pInA true) := by
  intro W r H h a b x y Q s ra rb p
  cases rb with
  | tup hq rs =>
    refine .inr ?_
    unfold pInA at p
    dsimp only at p
    split at p
    · rename_i c
      rw [Bool.and_eq_true] at c
      obtain ⟨i1, i2⟩ := any_flat ra c.1 rs c.2
      refine ⟨_, _, rfl, .inr hq, flatV_rep ra c.1, i1, ?_⟩
      have z := p (.bl _) H r Gr.refl s (.bl _)
      rw [i2] at z
      exact z
    · exact p.elim
  | ref hn => exact .inl (prim_notIn W r H h a _ x _ Q s ra (.ref hn) p)
  | _ => exact p.elim
theorem e_inA (hK : X.K = G.K) (hr : Room k X.A) (ha : SE G X W x ma) (hb : SE G X W y mb) (hm : behindInMarks .In y = false := by rfl) : SE G X W (.Compare x [.In] [y] pos) (mBin (pInA false) ma mb) :=
  se_cmp (hK ▸ OpR.or (op_inD (by have := hu200 hr; omega)) op_in_seq) prim_inA ha hb hm
theorem e_ninA (hK : X.K = G.K) (hr : Room k X.A) (ha : SE G X W x ma) (hb : SE G X W y mb) (hm : behindInMarks .NotIn y = false := by rfl) : SE G X W (.Compare x [.NotIn] [y] pos) (mBin (pInA true) ma mb) :=
  se_cmp (hK ▸ OpR.or (op_notInD (by have := hu200 hr; omega)) op_notIn_seq) prim_ninA ha hb hm
theorem t_inA (hK : X.K = G.K) (hr : Room k X.A) (ha : SE G X W x ma) (hb : SE G X W y mb) (hm : behindInMarks .In y = false := by rfl) : ST G X W (.Compare x [.In] [y] pos) (mTb (mBin (pInA false) ma mb)) :=
  st_cmp (hK ▸ OpR.or (op_inD (by have := hu200 hr; omega)) op_in_seq) prim_inA ha hb hm
theorem t_ninA (hK : X.K = G.K) (hr : Room k X.A) (ha : SE G X W x ma) (hb : SE G X W y mb) (hm : behindInMarks .NotIn y = false := by rfl) : ST G X W (.Compare x [.NotIn] [y] pos) (mTb (mBin (pInA true) ma mb)) :=
  st_cmp (hK ▸ OpR.or (op_notInD (by have := hu200 hr; omega)) op_notIn_seq) prim_ninA ha hb hm
end
end L2.Lv
end
section
set_option maxRecDepth 100000
set_option maxHeartbeats 4000000
set_option autoImplicit false
namespace L2.Lv
open PySem PySem.Spec PyProof.Rows
section
variable {G : Gx} {X : Cx} {W : WX} {mk : MA} {pos np : Pos} {kws : List Keyword} {k : Nat} {f : Addr} {fd : FuncData} {ps ks : List Str} {m : List D → Hm → Re D} {ar : List Ar} {cs : List D} {x0 : Str}
/-- f(k = v, ..), no value by position -/
theorem se_callK0 (F : FnOk X.prog X.w X.K X.mg X.base (L2.CX X.prog X.w) k f fd ps (spM G m)) (hr : Room k X.A) (tk : Takes X W) (hm : X.mg x0 = some (.ref f)) (hk : PySem.W.keepIn X.K (.ref f) = true) (hb : KbA X.K fd ps 0 ks ar cs)
    (hkw : SK G X W kws mk) {j : Nat} (hj : ks.length = j := by rfl) (hg : Gl X x0 := by rfl) (hall : (backToKw pos (keywordEach kws X.env)).all (·.1.isSome) = true := by rfl) (hks : (backToKw pos (keywordEach kws X.env)).filterMap (·.1) = ks := by rfl)
    (hdb : (x0 == ("__debug__" : Str)) = false := by decide) (hpl : ((backTo pos (starEach [] X.env)).any (·.1) || (backToKw pos (keywordEach kws X.env)).any (·.1.isNone)) = false := by rfl) :
    SE G X W (.Call (.Name x0 np) [] kws pos) (mCallK m 0 j ar cs mNil mk) := by
  refine ⟨⟨fun pins s σ H Q I u => ?_⟩⟩
  obtain ⟨cv, cu, hcr, hcv, hbd⟩ := hb
  refine wpAny_Call_Name_kw (ld_glob I hg hm ?_ hdb)
  obtain ⟨r, h, e, sm, en, p⟩ := u
  have p1 : Post G (fun c d H' => W c d σ H') (RD G) r H ((mk e h).bind fun zs h2 => if ([] : List D).length = 0 ∧ zs.length = j then m (arr ar [] zs cs) h2 else .no) Q := p
  refine PySem.W.callWith_KW0 (h₀ := X.base) I.ok.mod.kin hk hall ?_ hpl
  refine thn (hkw.pk.run pos pins s σ H _ I (stepP sm en p1)) fun ws s2 ⟨zs, H2, I2, rz, q2⟩ => ⟨I2.kIn, ?_⟩
  obtain ⟨r2, h2, bs, g2, sm2, en2, rs2, p2⟩ := q2
  split at p2
  · rename_i c
    rw [hks]
    exact run_fnK (E := WE W) F hr hbd hcv (passAt tk σ) I2 .nil rz rfl (by rw [← rs2.length, hj]; exact c.2) ⟨r2, h2, _, sm2, arr_reps .nil rs2 (hcr _ _ _) ar, p2⟩
  · exact p2.elim
end
end L2.Lv
end
section
set_option maxRecDepth 100000
set_option maxHeartbeats 4000000
set_option autoImplicit false
namespace L2.Lv
open PySem PySem.Spec PyProof.Rows
/-! ### try with several clauses, all of one name -/
abbrev ClT := List (Value × (Addr → Value → Option Addr → TS))
def goneD (D : Ends) (i : Nat) : Ends := ⟨fun σ' H' => D.nx (σ'.set i none) H', D.rt, fun σ' H' => D.bk (σ'.set i none) H', fun σ' H' => D.ct (σ'.set i none) H'⟩
def wNm (K : PySem.W.Frag) (i : Nat) (Wo : WX) (D : Ends) : ClT → WX
  | [] => Wo
  | q :: l => fun cls d σ H => ∃ b, PySem.W.exmOne K cls q.1 = some b ∧ (b = true → ∀ a, H a = none → q.2 a cls d (goneD D i) (σ.set i (some (.ref a))) H) ∧ (b = false → wNm K i Wo D l cls d σ H)
inductive HdN (X : Cx) (n : Str) : List ExceptHandler → ClT → Prop
  | nil : HdN X n [] []
  | cons {x : Str} {c : Value} {ts : Addr → Value → Option Addr → TS} {b0 : Stmt} {bs : List Stmt} {p1 p2 : Pos} {hs : List ExceptHandler} {l : ClT} (nm : Names X x c)
      (su : ∀ (a : Addr) (oe : Obj) (cls : Value) (d : Option Addr) (pn : List (Addr × Obj)), Zc cls d oe → (∃ vs, oe.data = .fields vs) → PSs (X.suite a ((a, oe) :: pn)) (b0 :: bs) (ts a cls d)) (t : HdN X n hs l) :
      HdN X n (.ExceptHandler (some (.Name x p1)) (some n) (b0 :: bs) p2 :: hs) ((c, ts) :: l)
section
variable {X : Cx} {n : Str} {i : Nat} {body : List Stmt} {h0 : ExceptHandler} {hds : List ExceptHandler} {l : ClT} {pos : Pos} {tb : WX → TS} {Wo : WX}
theorem ps_tryN (hs : X.stack = X.env :: X.outer) (hf : X.env.frame = some X.env.locals) (hN : X.N.Nodup) (hi : X.N[i]? = some n) (hln : X.env.kindOf n = some .local) (tk : Takes X Wo)
    (hb : ∀ (W1 : WX) (pn : List (Addr × Obj)) (x1 : Value → Shared → Prop), Takes (X.tr pn x1) W1 → PassesOwn (model X.prog X.w) X.A X.env x1 → PSs (X.tr pn x1) body (tb W1))
    (hh : HdN X n (h0 :: hds) l) : PS X (.Try body (h0 :: hds) [] [] pos) (fun D σ H => tb (wNm X.K i Wo D l) D σ H) := by
  refine ⟨fun pins s σ H D I given => ?_⟩
  have ok := I.ok
  have frs_ : X.A.frames = some (X.env :: X.outer) := ok.frames.trans (congrArg some hs)
  have loc_ : Loc X.env.scope n := Or.inl hln
  have W0 := hb (wNm X.K i Wo D l) (X.pn ++ pins)
    (fun e sa => wpAny (model X.prog X.w) X.A (noteFrame e X.env) (fun _ sb => wpAny (model X.prog X.w) X.A (setFlight e none) (fun _ sc => wpAny (model X.prog X.w) X.A (handleBy e X.env (h0 :: hds)) (L2.SP X pins D) X.xe sc) X.xe sb) X.xe sa)
  refine wpAny_Try_except (wpAny_mono ((W0 (fun u s' xx => ?_) PassesOwn.looking).run [] s σ H D (I.toTry _) given) (fun f s1 done => ?_) (fun _ _ he => he))
  · obtain ⟨a, B, sI, pins', σ', H', cls, d, eu, Jt, nb, up, sky, na, os, ag, w⟩ := xx
    subst eu
    have J : Inv X pins σ' H' sI := Jt.ofTry ok
    rw [hs] at sky
    show wpAny (model X.prog X.w) X.A (noteFrame (.ref a) X.env) _ _ _
    refine Sky.land Zc.steady frs_ hf sky fun h3 fl3 up3 => ?_
    have J3 : Inv X pins σ' H' { s' with heap := h3 } := J.landed nb fl3.1 (up.trans up3) os ag
    obtain ⟨oe3, vs3, he3, hz3, hd3⟩ := fl3.there
    have away : a ∉ frs (X.env :: X.outer) := fun hm => by
      obtain ⟨_, o', e', hnf⟩ := fl3.2.2.1.mem hm
      have z := Option.some.inj (he3.symm.trans e')
      subst z
      exact hnf _ hd3
    have nL : a ≠ X.env.locals := fun z => away (List.mem_filterMap.mpr ⟨X.env, List.mem_cons_self, hf.trans (congrArg some z.symm)⟩)
    have nF : a ∉ X.fs := fun hm => by
      obtain ⟨e, q1, q2⟩ := List.mem_filterMap.mp hm
      exact away (List.mem_filterMap.mpr ⟨e, .tail _ q1, q2⟩)
    have S3 := J3.suite he3 hd3 na nL nF
    have all_ : ∀ {hs2 : List ExceptHandler} {l2 : ClT}, HdN X n hs2 l2 → wNm X.K i Wo D l2 cls d σ' H' → wpAny (model X.prog X.w) X.A (handleBy (.ref a) X.env hs2) (L2.SP X pins D) X.xe { s' with heap := h3 } := by
      intro hs2 l2 hk
      induction hk with
      | nil =>
        intro w
        refine wpAny_handleBy_nil ?_
        have flc := fl3
        obtain ⟨k1, k2, k3, oe, vs, T, oT, ts', he, hz, hd, h1, hr⟩ := flc
        unfold PySem.passOn
        refine wpAny_bind (wpAny_field he hd h1 ?_)
        rw [if_neg (by simp : ¬ ((Value.ref T == Value.none) = true))]
        have out : wpAny (model X.prog X.w) X.A (setFlight (.ref a) X.env.frame) (fun _ s5 => wpAny (model X.prog X.w) X.A (throw (.ref a) : Sem Flow) (L2.SP X pins D) X.xe s5) X.xe { s' with heap := h3 } := by
          rw [hf]
          refine HandSPX.setFlight_upZ fl3 fun h5 hh5 up5 => wpAny_throw (tk _ _ ⟨a, B, sI, pins, σ', H', cls, d, rfl, J, nb, (up.trans up3).trans up5, .inr (.inr (by rw [hs]; exact hh5)), na, os, ag, w⟩)
        first | exact wpAny_bind (wpAny_pure (wpAny_bind out)) | exact wpAny_bind out
      | @cons x c ts b0 bs p1 p2 hs3 l3 nm su t ih =>
        intro w
        obtain ⟨b, hb1, hyes, hno⟩ := w
        refine wpAny_handleBy_cons (codeAny_handlers_test ?_) (by intro q; cases q)
        have kind_ : PySem.W.Looks (model X.prog X.w) h3 (typeOf (.ref a)) cls := fun A Q E s k q => wpAny_typeOf_ref (k _ _ he3) (by rw [hz3.1]; exact q)
        have meets_ := PySem.W.exm_one (M := model X.prog X.w) (J3.kIn) kind_ hb1
        have test_ : ∀ {Q : Value → Shared → Prop} {E : Value → Shared → Prop}, Q c { s' with heap := h3 } → wpAny (model X.prog X.w) (X.A.mark (some (.ref a))) (eval (.Name x p1) X.env) Q E { s' with heap := h3 } := fun {Q E} q => by
          obtain ⟨hg, hdbg, hm | ⟨hm, hv, hnn⟩⟩ := nm
          · exact ld_glob (X := X.suite a ((a, oe3) :: (X.pn ++ pins))) S3 hg hm q hdbg
          · exact ld_blt (X := X.suite a ((a, oe3) :: (X.pn ++ pins))) S3 hg hm hv q hnn hdbg
        refine test_ (meets_.here ?_)
        cases b with
        | false =>
          show wpAny _ X.A (handleBy (.ref a) X.env hs3) _ _ _
          exact ih (hno rfl)
        | true =>
          refine codeAny_handlers_suite_as (HandSPX.lands_againZ fl3 fun h4 fl4 up4 => ?_)
          have J4 : Inv X pins σ' H' { s' with heap := h4 } := J.landed nb fl4.1 ((up.trans up3).trans up4) os ag
          obtain ⟨oe4, vs4, he4, hz4, hd4⟩ := fl4.there
          have S4 := J4.suite he4 hd4 na nL nF
          refine store_ok (X := X.suite a ((a, oe4) :: (X.pn ++ pins))) (v := .ref a) S4 hN hi loc_ rfl (fun s5 S5 => ?_) (.inr hln)
          refine wpAny_mono ((su a oe4 cls d (X.pn ++ pins) hz4 ⟨_, hd4⟩).run [] s5 _ H' _ S5 (hyes rfl a na)) (fun f s6 done => ?_) (fun _ _ z => z.elim)
          have tail_ : ∀ {σ6 : L2.St} {H6 : Hp} {Q : Shared → Prop}, Inv (X.suite a ((a, oe4) :: (X.pn ++ pins))) [] σ6 H6 s6 → (∀ s7, Inv X pins (σ6.set i none) H6 s7 → Q s7) →
              wpAny (model X.prog X.w) X.A (do bindName X.env n .none; unbindBehindTheSuite X.env n p2) (fun _ s7 => Q s7) X.xe s6 := fun S6 hq => gone_ok (S6.unsuite ok) hN hi hln hq
          cases f with
          | ret u =>
            obtain ⟨v6, σ6, H6, S6, r6, q6⟩ := done
            exact tail_ S6 fun s7 J7 => ⟨v6, _, _, J7, r6, q6⟩
          | next =>
            obtain ⟨σ6, H6, S6, q6⟩ := done
            exact tail_ S6 fun s7 J7 => ⟨_, H6, J7, q6⟩
          | brk =>
            obtain ⟨σ6, H6, S6, q6⟩ := done
            exact tail_ S6 fun s7 J7 => ⟨_, H6, J7, q6⟩
          | cont =>
            obtain ⟨σ6, H6, S6, q6⟩ := done
            exact tail_ S6 fun s7 J7 => ⟨_, H6, J7, q6⟩
    exact all_ hh w
  · cases f with
    | ret u =>
      obtain ⟨v, σ', H', J, r, q⟩ := done
      exact ⟨v, σ', H', J.ofTry ok, r, q⟩
    | next =>
      obtain ⟨σ', H', J, q⟩ := done
      exact wpAny_execs_nil ⟨σ', H', J.ofTry ok, q⟩
    | brk =>
      obtain ⟨σ', H', J, q⟩ := done
      exact ⟨σ', H', J.ofTry ok, q⟩
    | cont =>
      obtain ⟨σ', H', J, q⟩ := done
      exact ⟨σ', H', J.ofTry ok, q⟩
end
end L2.Lv
end
section
set_option maxRecDepth 100000
set_option maxHeartbeats 4000000
set_option autoImplicit false
namespace L2.Lv
open PySem PySem.Spec PyProof.Rows
section
variable {G : Gx} {X : Cx} {W : WX} {x y z tg : Expr} {xs : List Expr} {ma mb mc : ME} {mt mu : MT} {ms : MA} {pos : Pos} {st : Stmt} {sts : List Stmt} {a b : MS} {r : List Addr} {H : Hp} {h : Hm}
variable {c i : Nat} {m m2 : Hm → D → Option D} {mm : Hm → D → Option (List D)}
/-! ### isinstance(e, C) behind except .. as e -/
/-- what the class of a caught error must say for that -/
structure ExI (G : Gx) (c : Nat) : Prop where
  cl : (PySem.W.clsIn G.K (G.ga c)).isSome = true
  gg : PySem.W.findIn G.K (.ref (G.ga c)) "__getattribute__" = some (some (.builtin "BaseException.__getattribute__"))
  gt : PySem.W.findIn G.K (.ref (G.ga c)) "__getattr__" = some none
  sb : PySem.W.subIn G.K (.ref (G.ga c)) (.type "BaseException") = some true
  ca : PySem.W.findIn G.K (.ref (G.ga c)) "__class__" = some (some (.builtin "object.__class__"))
  cn : PySem.W.specialIn G.K (.builtin "object.__class__") "__get__" = some (some (.builtin "getset_descriptor.__get__"))
  ct : PySem.W.takesIn G.K (.builtin "object.__class__") = some true
  ob : PySem.W.mroIn G.K (G.ga c) (.type "object") = some true
def rIsX (K : PySem.W.Frag) (D a dd : Addr) (fl : Str) : List V → Hp → VK → Prop := fun xs H Q => ∃ (cv : V) (cu : Value) (b : Bool) (v : V), xs = [.ref a, cv] ∧ ClsV cv cu ∧ H dd = some (.xd [(fl, v)]) ∧ PySem.W.kitOne K (.ref D) cu = some b ∧ Q (.bl b) H
theorem call_isX {a dd : Addr} {fl : Str} {oe : Obj} {pn : List (Addr × Obj)} (hK : X.K = G.K) (E : ExI G c) (hz : Zc (.ref (G.ga c)) (some dd) oe) (hf : ∃ vs, oe.data = .fields vs) :
    CallR (X.suite a ((a, oe) :: pn)) (.builtin "isinstance") (rIsX X.K (G.ga c) a dd fl) := by
  intro pins s σ H xs us Q I r hh
  obtain ⟨cv, cu, b, v, rfl, k, hx, e, q⟩ := hh
  obtain ⟨u1, u2, rfl, r1, r2⟩ := vals2 r
  have e2 := k.eq r2
  subst e2
  obtain rfl : u1 = Value.ref a := r1
  obtain ⟨hget, _⟩ := I.pin (a, oe) (List.mem_append.mpr (.inl List.mem_cons_self))
  obtain ⟨vs, hv⟩ := hf
  have ok : ObjOk X.prog X.w H s.heap dd (.xd [(fl, v)]) := I.hok dd _ hx
  obtain ⟨mA, hns, _⟩ := ok
  obtain ⟨od, ho, _⟩ := lookIn_ns hns
  have J : PySem.W.InstAt s.heap a oe (G.ga c) (some od) := ⟨hget, hz.1, by unfold PySem.W.notCls; rw [hv] <;> rfl, by rw [hz.2]; exact ho⟩
  have KK : X.K.In s.heap := I.kIn
  have kx := PySem.W.kitx_exc (x := a) (ox := oe) (od := some od) (K := X.K) (by rw [hK]; exact E.cl) (by rw [hK]; exact E.gg) (by rw [hK]; exact E.gt) (by rw [hK]; exact E.sb) (by rw [hK]; exact E.ca) (by rw [hK]; exact E.cn) (by rw [hK]; exact E.ct) (by rw [hK]; exact E.ob)
  exact PySem.W.kia_one kx KK J e (fun z => nomatch z) fun tk => ⟨.bl b, H, I.tok tk, rfl, q⟩
theorem sx_isi {cv : V} {cu : Value} {bb : Bool} {n : Str} {ip np : Pos} (hK : X.K = G.K) (E : ExI G c) (ho : ∀ (a : Addr) (oe : Obj) (pn : List (Addr × Obj)), PE (X.suite a ((a, oe) :: pn)) y (tC cv)) (hv : ClsV cv cu) (hb : PySem.W.kitOne G.K (.ref (G.ga c)) cu = some bb)
    (hm : X.mg "isinstance" = none) (hN : X.N[i]? = some n := by rfl) (hvi : Vis X.env.scope n := by first | exact Or.inl rfl | exact Or.inr (Or.inl rfl) | exact Or.inr (Or.inr rfl)) (hg : Gl X "isinstance" := by rfl) (hd : (n == ("__debug__" : Str)) = false := by decide) (hcd : (n == ("__classdict__" : Str)) = false := by decide)
    (he : starEach [.Name n np, y] X.env = (false, eval (.Name n np) X.env) :: starEach [y] X.env := by rfl) (he2 : starEach [y] X.env = (false, eval y X.env) :: starEach [] X.env := by rfl) (hpl : (backTo pos (starEach [y] X.env)).any (·.1) = false := by rfl) :
    SX G X c i (.Call (.Name "isinstance" ip) [.Name n np, y] [] pos) (xC (.bl bb)) := by
  refine ⟨fun a dd oe pn hz hf => pe_imp (pe_callB (X := X.suite a ((a, oe) :: pn)) (call_isX (fl := G.xf c) hK E hz hf) hg hm (by decide +kernel) (pa_cons (pe_var (X := X.suite a ((a, oe) :: pn)) (i := i) hN hvi hd hcd) (pa_cons (ho a oe pn) pa_nil he2) he) (by decide) (by decide) he hpl) fun σ H Q q => ?_⟩
  obtain ⟨r, h, d, v, w', e1, e2, sm, rd, e3, k⟩ := q
  cases e3
  exact ⟨.ref a, e1, cv, cu, bb, v, rfl, hv, e2, by show PySem.W.kitOne X.K _ _ = _; rw [hK]; exact hb, k (.bl bb) (.bl bb)⟩
/-- x and y, truths -/
def xAnd (p q : Hm → D → Option D) : Hm → D → Option D := fun h d => match p h d with
  | some (.bl true) => q h d
  | some (.bl false) => some (.bl false)
  | _ => none
theorem sx_and (ha : SX G X c i x m) (hb : SX G X c i y m2) : SX G X c i (.BoolOp .And [x, y] pos) (xAnd m m2) := by
  refine ⟨fun a dd oe pn hz hf => pe_imp (pe_andT (ha.pe a dd oe pn hz hf) (pe_one (hb.pe a dd oe pn hz hf))) fun σ H Q q => ?_⟩
  obtain ⟨r, h, d, v, w', e1, e2, sm, rd, e3, k⟩ := q
  unfold xAnd at e3
  split at e3
  · rename_i em
    exact ⟨r, h, d, v, .bl true, e1, e2, sm, rd, em, fun u ru => ⟨true, by cases ru; rfl, ⟨r, h, d, v, w', e1, e2, sm, rd, e3, k⟩⟩⟩
  · rename_i em
    cases e3
    exact ⟨r, h, d, v, .bl false, e1, e2, sm, rd, em, fun u ru => ⟨false, by cases ru; rfl, k u ru⟩⟩
  · cases e3
end
/-! ### a def that calls its argument, with several clauses -/
abbrev ClM := List (Nat × (Hm → D → Re D))
def findM : ClM → Nat → Option (Hm → D → Re D)
  | [], _ => none
  | q :: l, k => if q.1 = k then some q.2 else findM l k
section
variable {G : Gx} {X : Cx} {W : WX} {x y z tg : Expr} {xs : List Expr} {ma mb mc : ME} {mt mu : MT} {ms : MA} {pos : Pos} {st : Stmt} {sts : List Stmt} {a b : MS} {r : List Addr} {H : Hp} {h : Hm} {c i : Nat}
inductive ClOk (G : Gx) (X : Cx) (en : Str) (i : Nat) : List ExceptHandler → ClM → Prop
  | nil : ClOk G X en i [] []
  | cons {cn : Str} {c : Nat} {M : Hm → D → Re D} {st : Stmt} {sts : List Stmt} {p1 p2 : Pos} {hs : List ExceptHandler} {l : ClM} (nm : Names X cn (.ref (G.ga c))) (su : SXb G X c i (st :: sts) M)
      (ow : PySem.W.exmOne G.K (.ref (G.ga c)) (.ref (G.ga c)) = some true) (lt : ∀ q ∈ l, PySem.W.exmOne G.K (.ref (G.ga q.1)) (.ref (G.ga c)) = some false) (t : ClOk G X en i hs l) :
      ClOk G X en i (.ExceptHandler (some (.Name cn p1)) (some en) (st :: sts) p2 :: hs) ((c, M) :: l)
def tsM (G : Gx) (i n : Nat) (q : Nat × (Hm → D → Re D)) : Value × (Addr → Value → Option Addr → TS) :=
  (.ref (G.ga q.1), fun a cls d Z σ H => cls = .ref (G.ga q.1) ∧ ∃ dd, d = some dd ∧ ∃ r h dv v, (∃ σ0 : L2.St, σ = σ0.set i (some (V.ref a)) ∧ σ0.length = n) ∧ H dd = some (.xd [(G.xf q.1, v)]) ∧ Sim G r H h ∧ Rep G r H dv v ∧ Post G never (RD G) r H (q.2 h dv) Z.rt)
theorem clOk_hd {en : Str} {n : Nat} {hs : List ExceptHandler} {l : ClM} (hi : i < n) (C : ClOk G X en i hs l) : HdN X en hs (l.map (tsM G i n)) := by
  induction C with
  | nil => exact .nil
  | @cons cn c M st sts p1 p2 hs l nm su ow lt t ih =>
    refine .cons nm (fun a oe cls d pn hz hf => ⟨fun pins s σ H Z I q => ?_⟩) ih
    obtain ⟨rfl, dd, rfl, r, h, dv, v, ⟨σ0, rfl, len⟩, rest⟩ := q
    exact (su.pss a dd oe pn hz hf).run pins s _ H Z I ⟨r, h, dv, v, List.getElem?_set_self (by omega), rest⟩
theorem mem_find {M : Hm → D → Re D} : ∀ {l : ClM}, findM l c = some M → (c, M) ∈ l
  | q :: l, e => by
    unfold findM at e
    split at e
    · rename_i k
      cases e
      rw [← k]
      exact List.mem_cons_self
    · exact List.mem_cons_of_mem _ (mem_find e)
theorem clOk_w {en : Str} {n : Nat} {K : PySem.W.Frag} {Wo : WX} {D0 : Ends} {hs : List ExceptHandler} {l : ClM} (hK : K = G.K) (C : ClOk G X en i hs l) {M : Hm → D → Re D} (e : findM l c = some M) {dd : Addr} {σ : L2.St} {dv : D} {v : V} (hn : σ.length = n)
    (hx : H dd = some (.xd [(G.xf c, v)])) (sm : Sim G r H h) (rp : Rep G r H dv v) (p : Post G never (RD G) r H (M h dv) D0.rt) : wNm K i Wo D0 (l.map (tsM G i n)) (.ref (G.ga c)) (some dd) σ H := by
  subst hK
  induction C with
  | nil => cases e
  | @cons cn c1 M1 st sts p1 p2 hs l nm su ow lt t ih =>
    have e0 := e
    unfold findM at e
    split at e
    · rename_i k
      cases e
      have k : c1 = c := k
      subst k
      exact ⟨true, ow, fun _ a _ => ⟨rfl, dd, rfl, r, h, dv, v, ⟨σ, rfl, hn⟩, hx, sm, rp, p⟩, fun z => nomatch z⟩
    · rename_i k
      exact ⟨false, lt _ (mem_find e), (fun z => nomatch z), fun _ => ih e⟩
/-- tl: the argument's own reading -/
def TTN (G : Gx) (cl : ClM) (K2 : VK → VK) : (XK → Hp → VK → Prop) → Hp → VK → Prop := fun tl H Q =>
  tl (fun cls d H' => ∃ c M dd r h dv v, findM cl c = some M ∧ cls = .ref (G.ga c) ∧ d = some dd ∧ H' dd = some (.xd [(G.xf c, v)]) ∧ Sim G r H' h ∧ Rep G r H' dv v ∧ Post G never (RD G) r H' (M h dv) Q) H (K2 Q)
theorem told_R {Ng : List Str} {nf an en q : Str} {sg : Scope} {g : Addr} {cdg : Value} {cl : ClM} {hd0 : ExceptHandler} {hds : List ExceptHandler} {p1 p2 p3 p8 : Pos} (hK : X.K = G.K)
    (hN : Ng.Nodup) (h1 : Ng[1]? = some en) (h2 : Ng.length = 2) (hln' : ∀ (a : Addr) (cd : Value), (envOfC nf sg a g cd).kindOf en = some .local)
    (hcl : ∀ (s : Shared) (H : Hp), ClOk G (cxOf C8.CX0 X.prog X.w X.K X.mg X.base Ng nf sg g cdg X.A X.stack s H C8.E0).nox en 1 (hd0 :: hds) cl) :
    LamX.GivesTo X Ng nf sg g cdg [.Try [.Return (some (.Call (.Name an p1) [] [] p2)) p3] (hd0 :: hds) [] [] p8] an q (TTN G cl id) := by
  intro f c' s H Q tl act hc hq
  have s0 : (L2.start Ng [V.ref f])[0]? = some (some (V.ref f)) := rfl
  have sl : (L2.start Ng [V.ref f]).length = 2 := by
    show (_ ++ List.replicate (Ng.length - 1) none).length = 2
    rw [List.length_append, List.length_replicate, h2]; rfl
  refine ⟨_, pss_one (ps_tryN (X := (cxOf C8.CX0 X.prog X.w X.K X.mg X.base Ng nf sg g cdg X.A X.stack s H C8.E0).nox) (i := 1) (n := en) (l := cl.map (tsM G 1 2))
      (tb := fun W D σ H => ∃ Ech : XK, (∀ cls d σ' H', σ'.length = 2 → Ech cls d H' → W cls d σ' H') ∧ σ.length = 2 ∧ σ[0]? = some (some (.ref f)) ∧ H c' = some (LamX.CodeO c' q) ∧ tl Ech H D.rt)
      rfl rfl hN h1 (hln' _ _) LamX.takes0 (fun W1 pn xe tk _ => ?_) (clOk_hd (by decide) (hcl s H))), ?_⟩
  · refine ⟨fun pins s' σ H' D I h' => ?_⟩
    obtain ⟨Ech, hW, kl, k1, k2, k3⟩ := h'
    have tk' : Takes ((cxOf C8.CX0 X.prog X.w X.K X.mg X.base Ng nf sg g cdg X.A X.stack s H C8.E0).nox.tr pn xe) (fun cls d σ' H' => σ'.length = 2 → W1 cls d σ' H') := fun u s2 xx => by
      obtain ⟨a, B, sI, pins', σ', H2, cls, d, eu, J, nb, up, sky, na, os, ag, w⟩ := xx
      have z : σ'.length = Ng.length := J.len
      exact tk u s2 ⟨a, B, sI, pins', σ', H2, cls, d, eu, J, nb, up, sky, na, os, ag, w (z.trans h2)⟩
    have hp := act (fun cls d σ' H' => σ'.length = 2 → W1 cls d σ' H') pn xe Ech p1 p2 tk' (fun cls d σ' H' z e => hW cls d σ' H' e z)
    exact (pss_one (ps_ret (pos := p3) hp)).run pins s' σ H' D I ⟨k1, k2, k3⟩
  · refine ⟨_, fun cls d σ' H' hl hE => ?_, sl, s0, hc, hq⟩
    obtain ⟨c, M, dd, r, h, dv, v, e, rfl, rfl, hx, sm, rp, p⟩ := hE
    exact clOk_w (by show X.K = _; exact hK) (hcl s H) e hl hx sm rp p
/-- what stands behind the try reads no name -/
theorem told_E {Ng : List Str} {nf an en q : Str} {sg : Scope} {g : Addr} {cdg : Value} {cl : ClM} {hd0 : ExceptHandler} {hds : List ExceptHandler} {p1 p2 p3 p8 : Pos} {rs : List Stmt} {mr : MS} (hK : X.K = G.K)
    (hN : Ng.Nodup) (h1 : Ng[1]? = some en) (h2 : Ng.length = 2) (hln' : ∀ (a : Addr) (cd : Value), (envOfC nf sg a g cd).kindOf en = some .local)
    (hcl : ∀ (s : Shared) (H : Hp), ClOk G (cxOf C8.CX0 X.prog X.w X.K X.mg X.base Ng nf sg g cdg X.A X.stack s H C8.E0).nox en 1 (hd0 :: hds) cl)
    (hrs : ∀ (s : Shared) (H : Hp), SSs G (cxOf C8.CX0 X.prog X.w X.K X.mg X.base Ng nf sg g cdg X.A X.stack s H C8.E0).nox (fun _ _ _ _ => False) rs mr)
    (hsw : ∀ (s : Shared) (H : Hp), swapsWith (.Call (.Name an p1) [] [] p2) none p3.line (cxOf C8.CX0 X.prog X.w X.K X.mg X.base Ng nf sg g cdg X.A X.stack s H C8.E0).env = pure false) :
    LamX.GivesTo X Ng nf sg g cdg (.Try [.Expr (.Call (.Name an p1) [] [] p2) p3] (hd0 :: hds) [] [] p8 :: rs) an q
      (TTN G cl fun Q _ H' => ∃ r h, Sim G r H' h ∧ PostS G (fun _ _ _ _ => False) { nx := fun _ H2 => Q .non H2, rt := Q } r H' (mr [none, none] h)) := by
  intro f c' s H Q tl act hc hq
  have s0 : (L2.start Ng [V.ref f])[0]? = some (some (V.ref f)) := rfl
  have sl : (L2.start Ng [V.ref f]).length = 2 := by
    show (_ ++ List.replicate (Ng.length - 1) none).length = 2
    rw [List.length_append, List.length_replicate, h2]; rfl
  refine ⟨_, pss_cons (ps_tryN (X := (cxOf C8.CX0 X.prog X.w X.K X.mg X.base Ng nf sg g cdg X.A X.stack s H C8.E0).nox) (i := 1) (n := en) (l := cl.map (tsM G 1 2))
      (tb := fun W D σ H => ∃ (Ech : XK) (K3 : VK), (∀ cls d σ' H', σ'.length = 2 → Ech cls d H' → W cls d σ' H') ∧ (∀ v H', K3 v H' → D.nx σ H') ∧ σ[0]? = some (some (.ref f)) ∧ H c' = some (LamX.CodeO c' q) ∧ tl Ech H K3)
      rfl rfl hN h1 (hln' _ _) LamX.takes0 (fun W1 pn xe tk _ => ?_) (clOk_hd (by decide) (hcl s H))) (hrs s H).pss, ?_⟩
  · refine ⟨fun pins s' σ H' D I h' => ?_⟩
    obtain ⟨Ech, K3, hW, kw, k1, k2, k3⟩ := h'
    have tk' : Takes ((cxOf C8.CX0 X.prog X.w X.K X.mg X.base Ng nf sg g cdg X.A X.stack s H C8.E0).nox.tr pn xe) (fun cls d σ' H' => σ'.length = 2 → W1 cls d σ' H') := fun u s2 xx => by
      obtain ⟨a, B, sI, pins', σ', H2, cls, d, eu, J, nb, up, sky, na, os, ag, w⟩ := xx
      have z : σ'.length = Ng.length := J.len
      exact tk u s2 ⟨a, B, sI, pins', σ', H2, cls, d, eu, J, nb, up, sky, na, os, ag, w (z.trans h2)⟩
    have hp := act (fun cls d σ' H' => σ'.length = 2 → W1 cls d σ' H') pn xe Ech p1 p2 tk' (fun cls d σ' H' z e => hW cls d σ' H' e z)
    refine (pss_one (ps_expr (X := (cxOf C8.CX0 X.prog X.w X.K X.mg X.base Ng nf sg g cdg X.A X.stack s H C8.E0).nox.tr pn xe) (pos := p3) (te := fun σ H Q => ∃ K3 : VK, (∀ v H', K3 v H' → Q v H') ∧ σ[0]? = some (some (.ref f)) ∧ H c' = some (LamX.CodeO c' q) ∧ tl Ech H K3) ⟨fun pins s σ H Q I hh => ?_⟩ (hsw s H))).run pins s' σ H' D I ⟨K3, kw, k1, k2, k3⟩
    obtain ⟨K4, w4, t4⟩ := hh
    exact thn (hp.run pins s σ H K4 I t4) fun u s1 ⟨v, H1, I1, r1, q1⟩ => ⟨v, H1, I1, r1, w4 _ _ q1⟩
  · refine ⟨_, _, fun cls d σ' H' hl hE => ?_, fun v H' q => ?_, s0, hc, hq⟩
    · obtain ⟨c, M, dd, r, h, dv, v, e, rfl, rfl, hx, sm, rp, p⟩ := hE
      exact clOk_w (by show X.K = _; exact hK) (hcl s H) e hl hx sm rp p
    · obtain ⟨r, h, sm, p⟩ := q
      refine ⟨r, h, [none, none], sm, ⟨sl.symm, fun j d e => ?_⟩, ?_⟩
      · match j, e with
        | 0, e => cases e
        | 1, e => cases e
        | j + 2, e => simp at e
      · exact p
/-- f(lambda: x), f such a def -/
def mToldN (cl : ClM) (kk : D → Hm → Re D) (lam : ME) : ME := fun e h => match lam e h with
  | .ok d h' => kk d h'
  | .ex c d h' => match findM cl c with
    | some M => noEx (M h' d)
    | none => .no
  | .no => .no
theorem se_lamN {Ng : List Str} {nf an : Str} {sg : Scope} {g cc P : Addr} {k : Nat} {pg : Arguments} {bg : List Stmt} {dV kV doc pm cdv ct oc : Value} {ano od : Option Addr} {osl : Array (Option Value)} {cl : ClM} {K2 : VK → VK} {kk : D → Hm → Re D} {lm : ME}
    {params : Arguments} {body : Expr} {scope : Scope} {np lpos : Pos} (hkk : ∀ {W1 : XK} {r : List Addr} {H : Hp} {h : Hm} {d : D} {v : V} {Q : VK}, Sim G r H h → Rep G r H d v → Post G W1 (RD G) r H (kk d h) Q → K2 Q v H) (hK : X.K = G.K) (hg : Gl X nf) (hm : X.mg nf = some (.ref g)) (hk : PySem.W.keepIn X.K (.ref g) = true)
    (lk : X.K.lookup g = some ⟨oc, od, .func (PySem.W.fnOf nf nf pg bg sg dV kV doc pm ano cdv ct), osl⟩) (hcg : PySem.W.codeIn X.K cdv nf = true) (hb : L2.Binds X.K (PySem.W.fnOf nf nf pg bg sg dV kV doc pm ano cdv ct) [an] []) (Sg : FnScope Ng [an] sg) (hNg : Ng[0]? = some an) (hva : Vis sg an)
    (hG : LamX.GivesTo X Ng nf sg g cdv bg an (X.env.qual ++ "<lambda>") (TTN G cl K2))
    (TB : LamX.TabB X.base X.mg cc P) (hcode : X.env.code = .ref cc) (hmT : (P, X.env.qual ++ "<lambda>") ∈ G.T) (hu : ∀ p ∈ G.T, p.1 = P → p.2 = X.env.qual ++ "<lambda>") (hr : Room (k + 2) X.A) (L : LamX.LamS X.env.scope scope) (hdef : defaultsOf params X.env = ([], []))
    (hbind : ∀ (q : Str) (cl : List (Str × Addr)) (pm cv ctv : Value), bindArgs (PySem.W.kla_fn "<lambda>" q params body scope cl pm cv ctv) ⟨[], []⟩ = pure [])
    (hbody : ∀ (A : Around) (outer : List Env) (s : Shared) (H : Hp) (E : XK) (f c' : Addr), Room k (A.deeper (LamX.lamEnv X scope s.heap.objs.size f c')) → SE G (LamX.lamCx X A outer s H E scope f c') (fun c d _ H' => E c d H') body lm)
    (hdb : (nf == ("__debug__" : Str)) = false := by decide) (hd : (an == ("__debug__" : Str)) = false := by decide) (hcd : (an == ("__classdict__" : Str)) = false := by decide) :
    SE G X W (.Call (.Name nf np) [.Lambda params body scope lpos] [] pos) (mToldN cl kk lm) := by
  have red := LamX.pe_lamcall (pos := pos) (p := np) (lpos := lpos) (t := fun E => uE G (fun c d _ H' => E c d H') lm) hg hm hk lk hcg hb Sg hNg hva hG TB hcode hmT hu hr L hdef hbind (fun A outer s H E f c' hr' => (hbody A outer s H E f c' hr').pe) hdb hd hcd
  refine ⟨pe_imp red fun σ H Q u => ?_⟩
  obtain ⟨r, h, e, s, en, p⟩ := u
  refine ⟨s.tb, fun H1 eN t1 => ?_⟩
  obtain ⟨s1, g1⟩ := sim_ext s eN t1
  refine ⟨r, h, e, s1, en.mono g1, ?_⟩
  replace p := Post.mono g1 p
  unfold mToldN at p
  cases q : lm e h with
  | no =>
    rw [q] at p
    exact p
  | ok d h' =>
    rw [q] at p
    exact fun v H' r' g s' rd => hkk s' rd (Post.mono g p)
  | ex c' d h' =>
    rw [q] at p
    dsimp only at p
    cases em : findM cl c' with
    | none =>
      rw [em] at p
      exact p.elim
    | some M =>
      rw [em] at p
      exact fun v H' r' dd g s' rd hx => ⟨c', M, dd, r', h', d, v, em, rfl, rfl, hx, s', rd, post_noEx (Post.mono g p)⟩
def kkR : D → Hm → Re D := fun d h => .ok d h
theorem kkR_ok {W1 : XK} {r : List Addr} {H : Hp} {h : Hm} {d : D} {v : V} {Q : VK} (s : Sim G r H h) (q : Rep G r H d v) (p : Post G W1 (RD G) r H (kkR d h) Q) : (id Q : VK) v H := p v H r Gr.refl s q
def kkE (mr : MS) : D → Hm → Re D := fun _ h => match mr [none, none] h with
  | .nx _ h' => .ok .non h'
  | .rt d h' => .ok d h'
  | _ => .no
theorem kkE_ok {mr : MS} {W1 : XK} {r : List Addr} {H : Hp} {h : Hm} {d : D} {v : V} {Q : VK} (s : Sim G r H h) (q : Rep G r H d v) (p : Post G W1 (RD G) r H (kkE mr d h) Q) :
    ∃ r h, Sim G r H h ∧ PostS G (fun _ _ _ _ => False) { nx := fun _ H2 => Q .non H2, rt := Q } r H (mr [none, none] h) := by
  refine ⟨r, h, s, ?_⟩
  unfold kkE at p
  cases e : mr [none, none] h with
  | nx e' h' => rw [e] at p; exact fun σ' H' r' g s' _ => p .non H' r' g s' .non
  | rt d h' => rw [e] at p; exact p
  | bk e' h' => rw [e] at p; exact p.elim
  | ct e' h' => rw [e] at p; exact p.elim
  | ex c d e' h' => rw [e] at p; exact p.elim
  | no => rw [e] at p; exact p.elim
end
end L2.Lv
end
section
set_option maxRecDepth 100000
set_option maxHeartbeats 4000000
set_option autoImplicit false
namespace L2.Lv
open PySem PySem.Spec PyProof.Rows
/-! ### a text's method with arguments -/
def mMethS (p : List Nat → List D → Hm → Re D) (a : ME) (b : MA) : ME := fun e h => (a e h).bind fun d h1 => match d with
  | .str s => (b e h1).bind fun as h2 => p s as h2
  | _ => .no
def PrimS (G : Gx) (rr : V → List V → Hp → VK → Prop) (p : List Nat → List D → Hm → Re D) : Prop := ∀ (W : XK) (r : List Addr) (H : Hp) (h : Hm) (s : List Nat) (as : List D) (xs : List V) (Q : VK), Sim G r H h → Reps G r H as xs → Post G W (RD G) r H (p s as h) Q → rr (.str ⟨s.toArray⟩) xs H Q
section
variable {G : Gx} {X : Cx} {W : WX} {x y z tg : Expr} {xs : List Expr} {ma mb mc : ME} {mt mu : MT} {ms : MA} {pos apos : Pos} {r : List Addr} {H : Hp} {h : Hm}
theorem se_methS {name : Str} {id : String} {rr : V → List V → Hp → VK → Prop} {p : List Nat → List D → Hm → Re D} (slot : Slot "str" name id) (hty : typeOf (.builtin id) = pure (.type "method_descriptor")) (hm : MtR X id rr) (hp : PrimS G rr p) (ho : SE G X W z ma) (ha : SA G X W (x :: xs) ms)
    (hbase : attributeBase z name X.env (eval z X.env) = eval z X.env := by rfl)
    (hfew : ((backTo pos (starEach (x :: xs) X.env)).all (fun x => !x.1) && (backToKw pos (keywordEach [] X.env)).all (fun x => x.1.isSome) && decide ((x :: xs).length + ([] : List Keyword).length + (if ([] : List Keyword).isEmpty then 0 else 1) < 30)) = true := by rfl)
    (hline : (apos.endLine == pos.line) = true := by rfl) (hs : starEach (x :: xs) X.env = (false, eval x X.env) :: starEach xs X.env := by rfl) (hplain : (backTo pos (starEach xs X.env)).any (·.1) = false := by rfl) :
    SE G X W (.Call (.Attribute z name apos) (x :: xs) [] pos) (mMethS p ma ms) := by
  refine ⟨pe_imp (pe_bm PySem.F.plainAttrs_str slot hty hm ho.pe ha.pa hbase hfew hline hs hplain) fun σ H Q u => ?_⟩
  obtain ⟨r, h, e, s, en, q⟩ := u
  refine uG_weak (stepP s en q) ?_
  rintro v H1 ⟨r1, h1, a, g1, s1, en1, ra, p1⟩
  cases ra with
  | str t =>
    refine ⟨rfl, uG_weak (stepP s1 en1 p1) ?_⟩
    rintro vs H2 ⟨r2, h2, as, g2, s2, en2, rs, p2⟩
    exact hp _ r2 H2 h2 t as vs Q s2 rs p2
  | _ => exact p1.elim
/-! ### sep.join(a list or a tuple of texts) -/
def pJoin (s : List Nat) (as : List D) (h : Hm) : Re D := match as with
  | [d] => match seqOf h d with
    | some xs => match strsD xs with
      | some ys => if (ys.map List.length).sum + ys.length * s.length ≤ big then .ok (.str (TL.joinL s ys)) h else .no
      | none => .no
    | none => .no
  | _ => .no
theorem join_is (s : List Nat) (ys : List (List Nat)) : Txt.join ⟨s.toArray⟩ (ys.map fun s => (⟨s.toArray⟩ : Str)) = ⟨(TL.joinL s ys).toArray⟩ := by
  refine TL.ext_tl ?_
  rw [TL.join_eq, TL.tl_join, List.map_map]
  have e : (TL.tl ∘ fun s : List Nat => (⟨s.toArray⟩ : Str)) = id := by funext s; simp [TL.tl]
  rw [e, List.map_id]
theorem primS_join : PrimS G (fun x xs H Q => ∃ a p, ∃ ys : List Str, x = .str a ∧ xs = [.ref p] ∧ (SqL G.K H p (ys.map V.str) ∨ SqT G.K H p (ys.map V.str)) ∧ (ys.map (·.length)).sum + ys.length * a.length ≤ 16777216 ∧ Q (.str (Txt.join a ys)) H) pJoin := by
  intro W r H h s as xs Q sm ra p
  unfold pJoin at p
  split at p
  · rename_i d
    cases ra with
    | cons q t =>
      cases t
      split at p
      · rename_i ds e1
        split at p
        · rename_i ys e2
          split at p
          · rename_i c
            obtain ⟨a, vs, rfl, hv, rs⟩ := seq_rep sm q e1
            have ev := strsD_rep rs e2
            subst ev
            refine ⟨_, a, _, rfl, rfl, hv, ?_, ?_⟩
            · rw [List.map_map, List.length_map]
              have e3 : ((fun x : Str => x.length) ∘ fun s : List Nat => (⟨s.toArray⟩ : Str)) = List.length := by funext s; simp [Str.length]
              rw [e3]
              have : (⟨s.toArray⟩ : Str).length = s.length := by simp [Str.length]
              rw [this]
              unfold big at c
              omega
            · rw [join_is]
              exact p _ H r Gr.refl sm (.str _)
          · exact p.elim
        · exact p.elim
      · exact p.elim
  · exact p.elim
theorem e_join (hK : X.K = G.K) (ho : SE G X W z ma) (ha : SE G X W x mb)
    (hbase : attributeBase z "join" X.env (eval z X.env) = eval z X.env := by rfl)
    (hfew : ((backTo pos (starEach [x] X.env)).all (fun x => !x.1) && (backToKw pos (keywordEach [] X.env)).all (fun x => x.1.isSome) && decide (([x] : List Expr).length + ([] : List Keyword).length + (if ([] : List Keyword).isEmpty then 0 else 1) < 30)) = true := by rfl)
    (hline : (apos.endLine == pos.line) = true := by rfl) (hs : starEach [x] X.env = (false, eval x X.env) :: starEach [] X.env := by rfl) (hplain : (backTo pos (starEach [] X.env)).any (·.1) = false := by rfl) :
    SE G X W (.Call (.Attribute z "join" apos) [x] [] pos) (mMethS pJoin ma (mCons mb mNil)) :=
  se_methS PySem.F.slot_str_join PySem.F.type_str_join (hK ▸ mt_join) primS_join ho (sa_cons ha sa_nil hs) hbase hfew hline hs hplain
end
end L2.Lv
end
section
set_option maxRecDepth 100000
set_option maxHeartbeats 4000000
set_option autoImplicit false
namespace L2.Lv
open PySem PySem.Spec PyProof.Rows
/-! ### repr of tuples with dicts of plain things in them -/
def flatP : D → Option PyData
  | .non => some .none
  | .bl b => some (.bool b)
  | .int i => some (.int i)
  | .str s => some (.str ⟨s.toArray⟩)
  | _ => none
def keyP : Sum Int (List Nat) → PyData
  | .inl i => .int i
  | .inr s => .str ⟨s.toArray⟩
def kvsP : List (Sum Int (List Nat) × D) → Option (List (PyData × PyData))
  | [] => some []
  | q :: l => match flatP q.2, kvsP l with
    | some d, some ds => some ((keyP q.1, d) :: ds)
    | _, _ => none
mutual
def toT (h : Hm) : D → Option PyData
  | .non => some .none
  | .bl b => some (.bool b)
  | .int i => some (.int i)
  | .str s => some (.str ⟨s.toArray⟩)
  | .tup xs => (toTs h xs).map .tuple
  | .ref i => match h[i]? with
    | some (.dk kvs) => (kvsP kvs).map .dict
    | _ => none
def toTs (h : Hm) : List D → Option (List PyData)
  | [] => some []
  | x :: xs => match toT h x, toTs h xs with
    | some d, some ds => some (d :: ds)
    | _, _ => none
end
def reprT (h : Hm) (d : D) : Option (List Nat) := match toT h d with
  | some p => if p.showable = true ∧ p.depth ≤ deep ∧ p.shown.length ≤ big then some p.shown.cps.toList else none
  | none => none
section
variable {G : Gx} {X : Cx} {W : WX} {x y z tg : Expr} {xs : List Expr} {ma mb mc : ME} {mt mu : MT} {ms : MA} {pos apos : Pos} {r : List Addr} {H : Hp} {h : Hm}
variable {pins : List (Addr × Obj)} {σ : L2.St} {s : Shared}
theorem flat_reads {d : D} {v : V} {u : Value} {p : PyData} (e : flatP d = some p) (q : Rep G r H d v) (rv : RelV v u) : Reads s.heap u p [] := by
  cases q with
  | non => cases e; cases (show u = Value.none from rv); exact .none
  | bl b => cases e; cases (show u = Value.bool b from rv); exact .bool b
  | int i =>
    cases e
    obtain ⟨t, z⟩ := (show ∃ t, u = Value.int i t from rv)
    cases z
    exact .int i t
  | str t =>
    cases e
    obtain ⟨k, z⟩ := (show ∃ k, u = Value.str ⟨t.toArray⟩ k from rv)
    cases z
    exact .str _ k
  | tup h1 h2 => cases e
  | ref hn => cases e
theorem kvs_reads {P : Program} {w : World} : ∀ {kvs : List (Sum Int (List Nat) × D)} {vs : List (Key × V)} {us : List (Key × Value)} {es : List DictEntry} {ps : List (PyData × PyData)}, kvsP kvs = some ps → DkR G r H kvs vs → KV vs us → Pairs (mixKind P w) es us →
    ReadsAll s.heap (es.map (·.key)) (ps.map (·.1)) [] ∧ ReadsAll s.heap (es.map (·.val)) (ps.map (·.2)) []
  | [], _, _, _, ps, e, .nil, .nil, .nil => by
    cases e
    exact ⟨.nil, .nil⟩
  | (k, d) :: l, _, _, _, ps, e, .cons rd t1, .cons kv t2, .cons (e := en) ik iv t3 => by
    unfold kvsP at e
    cases e1 : flatP d with
    | none => simp only [e1] at e; cases e
    | some p =>
      cases e2 : kvsP l with
      | none => simp only [e1, e2] at e; cases e
      | some l2 =>
        simp only [e1, e2] at e
        cases e
        obtain ⟨a1, a2⟩ := kvs_reads e2 t1 t2 t3
        obtain ⟨ek, rv⟩ := kv
        refine ⟨?_, ?_⟩
        · have rk : Reads s.heap en.key (keyP k) [] := by
            rcases keyIs_shape ik with ⟨i, tk, z1, z2⟩ | ⟨y, tk, z1, z2⟩
            · rw [z2]
              rw [← ek] at z1
              cases k with
              | inl j => cases z1; exact .int _ tk
              | inr j => cases z1
            · rw [z2]
              rw [← ek] at z1
              cases k with
              | inl j => cases z1
              | inr j => cases z1; exact .str _ tk
          exact .cons rk a1
        · refine .cons (as := []) (flat_reads e1 rd ?_) a2
          show RelV _ en.val
          rw [iv]
          exact rv
mutual
theorem reads_T (I : Inv X pins σ H s) (hK : X.K = G.K) (sm : Sim G r H h) : ∀ (d : D) (v : V) (u : Value) (p : PyData), toT h d = some p → Rep G r H d v → RelV v u → ∃ as, Reads s.heap u p as ∧ sysModules ∉ as
  | .non, v, u, p, e, q, rv => ⟨[], flat_reads (d := .non) (by simpa [toT, flatP] using e) q rv, by simp⟩
  | .bl b, v, u, p, e, q, rv => ⟨[], flat_reads (d := .bl b) (by simpa [toT, flatP] using e) q rv, by simp⟩
  | .int i, v, u, p, e, q, rv => ⟨[], flat_reads (d := .int i) (by simpa [toT, flatP] using e) q rv, by simp⟩
  | .str t, v, u, p, e, q, rv => ⟨[], flat_reads (d := .str t) (by simpa [toT, flatP] using e) q rv, by simp⟩
  | .tup ds, v, u, p, e, q, rv => by
    unfold toT at e
    cases e1 : toTs h ds with
    | none => rw [e1] at e; cases e
    | some ps =>
      rw [e1] at e
      cases e
      cases q with
      | tup h1 h2 =>
        cases rv
        rw [← hK] at h1
        obtain ⟨its, r1, ⟨o, ho, hc, n, hd⟩, _⟩ := I.tuple h1
        obtain ⟨as, hr, ha⟩ := reads_Ts I hK sm ds _ its ps e1 h2 r1
        exact ⟨as, Reads.tuple ho hc hd hr, ha⟩
  | .ref i, v, u, p, e, q, rv => by
    unfold toT at e
    cases q with
    | ref hn =>
      cases rv
      obtain ⟨ob, e1, o⟩ := sm.get hn
      rw [e1] at e
      cases ob with
      | dk kvs =>
        dsimp only at e
        cases e2 : kvsP kvs with
        | none => rw [e2] at e; cases e
        | some ps =>
          rw [e2] at e
          cases e
          obtain ⟨vs, q1, q2⟩ := o
          have ok : ObjOk X.prog X.w H s.heap _ (.dK vs) := I.hok _ _ q1
          obtain ⟨_, low, us, kv, ob2, es, ep, ho, ex, hd, _, pr, _⟩ := ok
          obtain ⟨a1, a2⟩ := kvs_reads e2 q2 kv pr
          refine ⟨_, Reads.dict ho ex.1 hd a1 a2, ?_⟩
          intro z
          have z : sysModules ∈ [_] := z
          rw [List.mem_singleton] at z
          rw [← z] at low
          simp at low
      | _ => cases e
theorem reads_Ts (I : Inv X pins σ H s) (hK : X.K = G.K) (sm : Sim G r H h) : ∀ (ds : List D) (vs : List V) (us : List Value) (ps : List PyData), toTs h ds = some ps → Reps G r H ds vs → Vals vs us → ∃ as, ReadsAll s.heap us ps as ∧ sysModules ∉ as
  | [], _, _, ps, e, .nil, .nil => by
    cases e
    exact ⟨[], .nil, by simp⟩
  | d :: ds, _, _, ps, e, .cons q t, .cons rv t2 => by
    unfold toTs at e
    cases e1 : toT h d with
    | none => simp only [e1] at e; cases e
    | some p =>
      cases e2 : toTs h ds with
      | none => simp only [e1, e2] at e; cases e
      | some ps2 =>
        simp only [e1, e2] at e
        cases e
        obtain ⟨as, k1, k2⟩ := reads_T I hK sm d _ _ p e1 q rv
        obtain ⟨bs, k3, k4⟩ := reads_Ts I hK sm ds _ _ ps2 e2 t t2
        exact ⟨as ++ bs, .cons k1 k3, by rw [List.mem_append]; rintro (z | z) <;> contradiction⟩
end
/-- what repr tells -/
def reprA (h : Hm) (d : D) : Option (List Nat) := match reprD h d with
  | some t => some t
  | none => reprT h d
def pReprA (as : List D) (h : Hm) : Re D := match as with
  | [d] => match reprA h d with
    | some t => .ok (.str t) h
    | none => .no
  | _ => .no
def rReprT (G : Gx) : List V → Hp → VK → Prop := fun xs H Q => ∃ (r : List Addr) (h : Hm) (d : D) (v : V) (t : List Nat), xs = [v] ∧ Sim G r H h ∧ Rep G r H d v ∧ reprT h d = some t ∧ Q (.str ⟨t.toArray⟩) H
theorem reprT_ok {d : D} {t : List Nat} (e : reprT h d = some t) : ∃ p, toT h d = some p ∧ p.showable = true ∧ p.depth ≤ deep ∧ p.shown.length ≤ sizeLine ∧ p.shown = ⟨t.toArray⟩ := by
  unfold reprT at e
  split at e
  · rename_i p e1
    split at e
    · rename_i c
      cases e
      exact ⟨p, e1, c.1, c.2.1, big_le c.2.2, (str_eta _).symm⟩
    · cases e
  · cases e
theorem call_reprT (hK : X.K = G.K) (hg : X.A.guards = some []) (hu : X.A.units + 200 < cLine) : CallR X (.builtin "repr") (rReprT G) := by
  intro pins s σ H xs us Q I rs q0
  obtain ⟨r, h, d, v, t, rfl, sm, rd, e, q⟩ := q0
  obtain ⟨u, rfl, ru⟩ := rs.one
  obtain ⟨p, e1, sh, dp, sz, es⟩ := reprT_ok e
  obtain ⟨as, rr, na⟩ := reads_T I hK sm d v u p e1 rd ru
  have room_ : X.A.units + (p.depth + 1) < cLine := by
    have z : deep = 110 := rfl
    omega
  rw [← es] at q
  have heap_ : ∀ {w : Value}, w = u → (∃ a, w = .ref a) → wpAny (model X.prog X.w) X.A (call (.builtin "repr") [u]) (EP X pins σ Q) X.xe s := by
    rintro _ rfl ⟨a, rfl⟩
    exact repr_of_reads' rr sh (fun _ => na) hg room_ (fun _ _ e => e) (fun h' u tk hk => ⟨.str p.shown, H, I.kept hk, ⟨u, rfl⟩, q⟩) sz
  cases rd with
  | non =>
    cases (show u = Value.none from ru)
    cases e1
    exact P.repr_of_none ⟨.str _, H, I.tok _, ⟨_, rfl⟩, q⟩
  | bl b =>
    cases (show u = Value.bool b from ru)
    cases e1
    refine P.repr_of_bool ⟨.str _, H, I.tok _, ⟨_, rfl⟩, ?_⟩
    cases b <;> exact q
  | int i =>
    obtain ⟨k, z⟩ := (show ∃ k, u = Value.int i k from ru)
    cases z
    cases e1
    refine P.repr_of_int (by simpa [PyData.showable] using sh) ⟨.str _, H, I.tok _, ⟨_, rfl⟩, ?_⟩
    have z : PyData.shown (.int i) = toString i := by simp [PyData.shown]
    rw [← z]
    exact q
  | str y =>
    obtain ⟨k, z⟩ := (show ∃ k, u = Value.str ⟨y.toArray⟩ k from ru)
    cases z
    cases e1
    have z : PyData.shown (.str ⟨y.toArray⟩) = reprText ⟨y.toArray⟩ := by simp [PyData.shown]
    rw [z] at q sz
    exact P.repr_of_str ⟨.str _, H, I.tok _, ⟨_, rfl⟩, q⟩ sz
  | @tup a vs ds h1 h2 => exact heap_ rfl ⟨a, ru⟩
  | @ref n a hn => exact heap_ rfl ⟨a, ru⟩
theorem CallR.or {b : Value} {p q : List V → Hp → VK → Prop} (h1 : CallR X b p) (h2 : CallR X b q) : CallR X b (fun xs H Q => p xs H Q ∨ q xs H Q) := fun pins s σ H xs us Q I rs z => z.elim (h1 pins s σ H xs us Q I rs) (h2 pins s σ H xs us Q I rs)
theorem primC_reprA : PrimC G (fun xs H Q => rRepr G.K xs H Q ∨ rReprT G xs H Q) pReprA := by
  intro W r H h as xs Q s ra p
  unfold pReprA at p
  split at p
  · rename_i d
    cases ra with
    | cons q t =>
      cases t
      unfold reprA at p
      cases e : reprD h d with
      | some t =>
        simp only [e] at p
        obtain ⟨dd, h1, h2, h3, h4, h5, h6⟩ := repr_rep s q e
        exact .inl ⟨_, dd, rfl, h1, h2, h3, h4, h5, by rw [h6]; exact p (.str ⟨t.toArray⟩) H r Gr.refl s (.str t)⟩
      | none =>
        simp only [e] at p
        cases e2 : reprT h d with
        | none => simp only [e2] at p; exact p.elim
        | some t =>
          simp only [e2] at p
          exact .inr ⟨r, h, d, _, t, rfl, s, q, e2, p _ H r Gr.refl s (.str t)⟩
  · exact p.elim
theorem e_reprA (hK : X.K = G.K) (hgd : X.A.guards = some []) {k : Nat} (hr : Room k X.A) (hm : X.mg "repr" = none) (ha : SE G X W x ma) (hg : Gl X "repr" := by rfl) (he : starEach [x] X.env = (false, eval x X.env) :: starEach [] X.env := by rfl) (hpl : (backTo pos (starEach [] X.env)).any (·.1) = false := by rfl) {np : Pos} : SE G X W (.Call (.Name "repr" np) [x] [] pos) (mApp pReprA (mCons ma mNil)) :=
  se_callB (CallR.or (hK ▸ call_repr hgd (hu200 hr)) (call_reprT hK hgd (hu200 hr))) primC_reprA hm (by decide +kernel) (sa_cons ha sa_nil he) hg (by decide) (by decide) he hpl
variable {c i : Nat} {m : Hm → D → Option D}
def xReprA (m : Hm → D → Option D) : Hm → D → Option D := fun h d => match m h d with
  | some w => match reprA h w with
    | some t => some (.str t)
    | none => none
  | none => none
theorem sx_reprA {np : Pos} (hK : X.K = G.K) (hgd : X.A.guards = some []) (hu : X.A.units + 200 < cLine) (ha : SX G X c i x m) (hm : X.mg "repr" = none) (hg : Gl X "repr" := by rfl) (he : starEach [x] X.env = (false, eval x X.env) :: starEach [] X.env := by rfl) (hpl : (backTo pos (starEach [] X.env)).any (·.1) = false := by rfl) :
    SX G X c i (.Call (.Name "repr" np) [x] [] pos) (xReprA m) := by
  refine ⟨fun a dd oe pn hz hf => pe_imp (pe_callB (X := X.suite a ((a, oe) :: pn)) (CallR.or (hK ▸ call_repr (X := X.suite a ((a, oe) :: pn)) hgd hu) (call_reprT (X := X.suite a ((a, oe) :: pn)) hK hgd hu)) hg hm (by decide +kernel) (pa_cons (ha.pe a dd oe pn hz hf) pa_nil he) (by decide) (by decide) he hpl) fun σ H Q q => ?_⟩
  obtain ⟨r, h, d, v, w', e1, e2, sm, rd, e3, k⟩ := q
  unfold xReprA at e3
  split at e3
  · rename_i w em
    split at e3
    · rename_i t et
      cases e3
      refine ⟨r, h, d, v, w, e1, e2, sm, rd, em, fun u ru => ?_⟩
      unfold reprA at et
      cases e : reprD h w with
      | some t2 =>
        simp only [e] at et
        cases et
        obtain ⟨d2, h1, h2, h3, h4, h5, h6⟩ := repr_rep sm ru e
        exact .inl ⟨u, d2, rfl, h1, h2, h3, h4, h5, by rw [h6]; exact k _ (.str t)⟩
      | none =>
        simp only [e] at et
        exact .inr ⟨r, h, w, u, t, rfl, sm, ru, et, k _ (.str t)⟩
    · cases e3
  · cases e3
end
end L2.Lv
end
section
set_option maxRecDepth 100000
set_option maxHeartbeats 4000000
set_option autoImplicit false
/-! ### an own error class directly under OverflowError -/
namespace PySem
namespace LvO
open PySem.W PySem.Calls PyProof.Rows PySem.HandSPX
open Builtin Builtin.ObjectAttr
abbrev oeT : List Value := [.type "OverflowError", .type "ArithmeticError", .type "Exception", .type "BaseException", .type "object"]
section
variable {prog : Program} {w : World} {A : Around} {E : Value → Shared → Prop} {R : Result → Shared → Prop} {hp : Heap} {g : Array GenState} {d : Drawn} {t : Nat} {os : OsState}
theorem osa_first {K : W.Frag} {nm : Str} {tk : Tok} {v : Value} {x C : Addr} {fv : Array Value} {cd : ClassData}
    (KX : K.In hp) (ex : hp.get? x = some { cls := .ref C, data := .fields fv }) (ec : W.clsIn K C = some cd) (em : cd.mro = .ref C :: oeT) (eh : cd.hasDict = true) (ea : W.findIn K (.ref C) nm = some none)
    (go : ∀ h' tk' dx, (∀ b o, b ≠ x → hp.get? b = some o → h'.get? b = some o) → hp.objs.size ≤ dx → dx ≠ x → h'.get? x = some { cls := .ref C, dict := some dx, data := .fields fv } →
      h'.Ns1 dx (fun y => if y = nm then some v else none) → R (.ok (.ret .none)) ⟨h', g, d, tk', os⟩) :
    codeAny (model prog w) A (.call (.builtin "object.__setattr__") ⟨[.ref x, .str nm tk, v], []⟩) R ⟨hp, g, d, t, os⟩ := by
  have J : W.InstAt hp x { cls := .ref C, data := .fields fv } C none := ⟨ex, rfl, rfl, trivial⟩
  have xs_ : x ≠ hp.objs.size := Nat.ne_of_lt (Heap.lt_size ex)
  have top_ : W.mroIn K C (.type "object") = some true := by
    unfold W.mroIn
    rw [ec, Option.bind_some, em]
    rfl
  have sub_ : W.Looks (model prog w) hp (isInstance (.ref x) (.type "object")) true := J.type.andThen (W.looks_mroIn KX top_)
  refine codeAny_call_builtin F.store_object.slot.plain F.store_object.entry (@W.check_slot (model prog w) _ _ ⟨hp, g, d, t, os⟩ "object.__setattr__" "object" "__setattr__" (.ref x) [.str nm tk, v] [] _ F.store_object.kind F.store_object.split sub_ (F.store_object.args (.ref x) (.str nm tk) v) ?_)
  have mro_ : W.Looks (model prog w) hp (mroOf (.ref C)) cd.mro := (W.looks_clsIn KX ec).andThen .now
  have none_ : W.Looks (model prog w) hp (storeTaker? none) none := .now
  have cls_ : W.Looks (model prog w) hp (classData C) cd := W.looks_clsIn KX ec
  have pass_ : refuseLoop (.ref x) "__setattr__" cd.mro = pure () := by
    rw [em, refuseLoop_ref]
    exact F.store_OverflowError.passes (.ref x)
  rw [W.osa_eq, refuse_eq]
  refine wpAny_bind (wpAny_bind (J.type.at (wpAny_bind (mro_.at ?_))))
  rw [pass_]
  refine wpAny_pure (wpAny_bind (J.type.at (wpAny_bind ((W.looks_findIn KX ea).at (wpAny_bind (none_.at ?_))))))
  show wpAny _ _ (storeInOwnDict (.ref x) (.ref C) (.str nm tk) nm v false) _ _ _
  obtain ⟨n1, n2, n3, n4, n5, n6, n7, n8, n9, n10, n11⟩ := cd
  dsimp only at eh
  subst eh
  unfold storeInOwnDict ownDictForStores
  repeat (first | with_reducible refine store_in_new ?_ ?_ | with_reducible refine wpAny_loadPart_at ex ?_ | with_reducible refine cls_.at ?_ | wp_step)
  · exact ⟨_, #[], _, (Heap.get?_update_ne _ _ _ _ xs_.symm).trans (Heap.get?_push_at rfl rfl), rfl, fun e he => absurd he (by simp), fun _ => rfl⟩
  · intro h' tk' hn' hs
    refine go h' tk' hp.objs.size (fun b o hb ho => ?_) (Nat.le_refl _) xs_.symm ?_ hn'
    · exact (hs.2 b (Nat.ne_of_lt (Heap.lt_size ho))).trans ((Heap.get?_update_ne _ _ _ _ hb).trans (Heap.get?_push_of_some _ ho))
    · exact (hs.2 x xs_).trans (Heap.get?_update_self _ (Heap.get?_push_of_some _ ex) rfl)
end
end LvO
end PySem
namespace L2.Lv
open PySem PySem.Spec PyProof.Rows
theorem exm_b {K : PySem.W.Frag} {S D : Addr} {b : Bool} (h1 : PySem.W.subIn K (.ref S) (.type "BaseException") = some true) (h2 : PySem.W.isClsIn K S = true) (h3 : PySem.W.typeIn K (.ref S) = some (.type "type")) (h4 : PySem.W.subIn K (.ref D) (.ref S) = some b) :
    PySem.W.exmOne K (.ref D) (.ref S) = some b := by
  have e2 : (PySem.W.clsIn K S).isSome = true := h2
  unfold PySem.W.exmOne
  rw [h1]
  show PySem.W.kitCls K (.ref D) (.ref S) = some b
  unfold PySem.W.kitCls
  dsimp only
  rw [e2, h3]
  exact h4
structure OexO (K : PySem.W.Frag) (C : Addr) : Prop where
  cls : ∃ nm q N bs sn sub ab col dd k0 k1 k2 k3 k5, K.lookup C = some (excClassObj nm q C N bs PySem.LvO.oeT true sn sub ab col dd k0 k1 k2 k3 k5 "OverflowError.__new__")
  sa : PySem.W.findIn K (.ref C) "__setattr__" = some (some (.builtin "object.__setattr__"))
  exC : PySem.W.subIn K (.ref C) (.type "BaseException") = some true
  tyC : PySem.W.typeIn K (.ref C) = some (.type "type")
  kC : PySem.W.keepIn K (.ref C) = true
section
variable {X : Cx} {pins : List (Addr × Obj)} {σ : L2.St} {H : Hp} {s : Shared} {a C dx : Addr} {f : Str} {y : V} {u : Value} {Q : Unit → Shared → Prop} {E : Value → Shared → Prop} {A : Around}
theorem osto_new (T : OexO X.K C) (I : Inv X pins σ H s) (e : H a = some (exo a C none)) (no : PySem.W.findIn X.K (.ref C) f = some none) (ry : RelV y u)
    (go : ∀ dx s', H dx = none → dx ≠ a → Inv X pins σ (upd (upd H dx (exd dx [(f, y)])) a (exo a C (some dx))) s' → Q () s') : wpAny (model X.prog X.w) A (setAttr (.ref a) f u) Q E s := by
  obtain ⟨nm, q, N, bs, sn, sub, ab, col, dd, k0, k1, k2, k3, k5, hC⟩ := T.cls
  have hcl : PySem.W.clsIn X.K C = some { name := nm, bases := bs, mro := .ref C :: PySem.LvO.oeT, ns := N, qualname := q, hasDict := true, slotNames := sn, subclasses := sub, abstract := ab, collection := col, hasDel := false } := by
    unfold PySem.W.clsIn
    rw [hC] <;> rfl
  obtain ⟨t1, ho⟩ := exo_at I.hok e
  obtain ⟨hp, g, d, t, os⟩ := s
  refine PySem.W.set_plain I.kIn (ox := { cls := .ref C, dict := none, data := .fields #[.ref t1, .none, .none, .none, .bool false, .none] }) (od := none) ⟨ho, rfl, rfl, trivial⟩ T.sa ?_
  refine PySem.LvO.osa_first I.kIn ho hcl rfl rfl no fun h' tk' dx k dn dne hx hn => ?_
  have free_ : H dx = none := I.hok.fresh dn
  have nd : ∀ {b : Addr} {o : Obj}, hp.get? b = some o → b ≠ dx := fun {b o} q => Nat.ne_of_lt (Nat.lt_of_lt_of_le (Heap.lt_size q) dn)
  have na : ∀ {b : Addr}, H b = none → b ≠ a := fun {b} n z => by
    rw [z, e] at n
    exact nomatch n
  have U : Un X.fs [] H (upd (upd H dx (exd dx [(f, y)])) a (exo a C (some dx))) hp h' := by
    refine ⟨fun b o q n _ _ => k b o (na n) q, fun b o q n _ _ => ⟨o.slots, k b o (na n) q⟩, fun b o q n _ => ?_, fun b o q _ => ?_, fun b xs q => ?_, fun b o v q => ?_, fun b ps q => ⟨#[], ?_⟩⟩
    · rw [upd_ne (na n), upd_ne (nd q), n]
    · by_cases hb : b = a
      · exact ⟨_, hb ▸ hx⟩
      · exact ⟨o, k b o hb q⟩
    · rw [upd_ne (at_ne e q exo_tup), upd_ne (ne_of_none q free_), q]
    · rw [upd_ne (at_ne e q exo_frz), upd_ne (ne_of_none q free_), q]
    · rw [upd_ne (at_ne e q exo_tbl), upd_ne (ne_of_none q free_), q, Array.append_empty]
  refine go dx _ free_ dne (I.un (t' := tk') U fun b o q => ?_)
  by_cases hb : b = a
  · subst hb
    rw [upd_same] at q
    exact Option.some.inj q ▸ exo_ok hx
  · rw [upd_ne hb] at q
    by_cases hd : b = dx
    · subst hd
      rw [upd_same] at q
      exact Option.some.inj q ▸ exd_ok hn (relO_put (fs := []) ry fun g => True.intro)
    · rw [upd_ne hd] at q
      refine (I.hok b o q).stay (fun c v hc z => k c v ?_ z) (fun c hc => ?_) (fun c xs hc => ?_)
      · rcases hc with hc | hc
        · exact hc ▸ hb
        · exact at_ne e hc exo_own
      · rw [upd_ne (at_ne e hc exo_own), upd_ne (ne_of_none hc free_), hc]
      · rw [upd_ne (at_ne e hc exo_tup), upd_ne (ne_of_none hc free_), hc]
end
def tOstO (K : PySem.W.Frag) (f : Str) (to te : TE) : TS := fun D σ H => te σ H fun y H1 => to σ H1 fun x H2 => ∃ a C : Addr, x = .ref a ∧ OexO K C ∧ PySem.W.findIn K (.ref C) f = some none ∧
  H2 a = some (exo a C none) ∧ ∀ dx, H2 dx = none → dx ≠ a → D.nx σ (upd (upd H2 dx (exd dx [(f, y)])) a (exo a C (some dx)))
section
variable {X : Cx} {o e : Expr} {es : List Expr} {to te : TE} {ta : TA} {f : Str} {p p' p1 p2 pos : Pos}
theorem ps_ostO (ho : PE X o to) (he : PE X e te) (hs : swapsWith e (some (.Attribute o f p')) pos.line X.env = pure false := by rfl) : PS X (.Assign [.Attribute o f p'] e pos) (tOstO X.K f to te) := by
  refine ⟨fun pins s σ H D I h => plainObj_wpAny_Assign_Attribute (thn (he.run pins s σ H _ I h) fun v s1 ⟨y, H1, I1, r1, q1⟩ => thn (ho.run pins s1 σ H1 _ I1 q1) fun u s2 ⟨x, H2, I2, r2, a, C, ex, T, no, ea, q⟩ => ?_) hs⟩
  subst ex
  obtain rfl : u = Value.ref a := r2
  exact osto_new T I2 ea no r1 fun dx s' n ne J => ⟨σ, _, J, q dx n ne⟩
theorem pmk_oexO {CX : CXT} {x : Str} {C fI : Addr} {k : Nat} {fd : FuncData} {ps : List Str} {sp : Sp} (T : OexO X.K C) (iC : PySem.W.findIn X.K (.ref C) "__init__" = some (some (.ref fI))) (tI : PySem.W.typeIn X.K (.ref fI) = some (.type "function"))
    (F1 : FnOk X.prog X.w X.K X.mg X.base CX k fI fd ps sp) (hr : Room (k + 1) X.A) (hb : Binds X.K fd ps []) (hx : Passes CX X (fun _ _ _ => False)) (hg : Gl X x) (hm : X.mg x = some (.ref C)) (ha : PA X (e :: es) ta)
    (hdb : (x == ("__debug__" : Str)) = false := by decide) (he : starEach (e :: es) X.env = (false, eval e X.env) :: starEach es X.env := by rfl) (hpl : (backTo pos (starEach es X.env)).any (·.1) = false := by rfl) :
    PMk X (.Call (.Name x p) (e :: es) [] pos) (tMkO C sp [] ta) := by
  intro pins s σ H Q I h
  obtain ⟨nm, q, N, bs, sn, sub, ab, col, dd, k0, k1, k2, k3, k5, hC⟩ := T.cls
  refine wpAny_Call_Name_kw (ld_glob I hg hm (PySem.W.callWith_K (h₀ := X.base) I.ok.mod.kin T.kC (thn (ha.run pos pins s σ H _ I h) fun us s1 ⟨vs, H1, I1, r1, hz, q1⟩ => ⟨I1.kIn, ?_⟩) he hpl) hdb)
  show wpAny _ _ (call (.ref C) us) _ _ _
  obtain ⟨hp, g, dr, tk, os⟩ := s1
  have up_ : hp.objs.size ≤ hp.objs.size + 1 := Nat.le_succ _
  have n1 : H1 (hp.objs.size + 1) = none := I1.hok.fresh up_
  have q2 := q1 (hp.objs.size + 1) n1
  rw [List.append_nil] at q2
  have kk : ∀ b o, hp.get? b = some o → ((hp.push (PySem.W.kdv_tup us)).push (PySem.HandSPX.excO C hp.objs.size)).get? b = some o := fun b o e => Heap.get?_push_of_some _ (Heap.get?_push_of_some _ e)
  have at_ : ((hp.push (PySem.W.kdv_tup us)).push (PySem.HandSPX.excO C hp.objs.size)).get? (hp.objs.size + 1) = some (PySem.HandSPX.excO C hp.objs.size) := by heap_get
  have I2 : Inv X pins σ (upd H1 (hp.objs.size + 1) (exo (hp.objs.size + 1) C none)) ⟨(hp.push (PySem.W.kdv_tup us)).push (PySem.HandSPX.excO C hp.objs.size), g, dr, tk, os⟩ := I1.laid (t' := tk) kk up_ (exo_ok at_)
  have r2 : Vals (V.ref (hp.objs.size + 1) :: vs) (Value.ref (hp.objs.size + 1) :: us) := .cons rfl r1
  have hl : (Value.ref (hp.objs.size + 1) :: us).length = ps.length := by
    rw [← r2.length]
    exact F1.len _ _ _ _ q2
  have few : us.length ≤ sizeLine := by
    have z := r1.length
    rw [sizeLine_eq]
    omega
  refine wpAny_call (PySem.HandSPX.call_own F.excBase_OverflowError (fun Y => rfl) (I1.kIn _ _ hC) (PySem.W.looks_findIn I1.kIn iC) (fun self => PySem.W.bind_fn I1.kIn self tI) few (codeAny_mono
    (F1.run _ X.stack _ _ ⟨Value.ref (hp.objs.size + 1) :: us, []⟩ (Value.ref (hp.objs.size + 1) :: us) _ _ (fun _ _ _ => False) (hr.make C us []) (I2.env0.make C us []) (by have z := hb _ (Value.ref (hp.objs.size + 1) :: us) I2.kIn (by rw [List.append_nil]; exact hl); rwa [List.append_nil] at z) r2 q2) fun r s' back => ?_))
  cases r with
  | error er => exact hx pins σ _ _ er s' I2 back
  | ok fl =>
    cases fl with
    | next => exact back.elim
    | brk => exact back.elim
    | cont => exact back.elim
    | ret u =>
      obtain ⟨v, H2, os2, bare2, un2, hok2, rv, ev, d, fs, ea, ed, hd1, q3⟩ := back
      subst ev
      obtain ⟨h2, g2, d2, t2, os'⟩ := s'
      exact ⟨rv, mk_end (raises_own T.exC T.tyC) I1 up_ kk un2 hok2 os2 bare2 ea ed hd1 q3⟩
end
section
variable {P : Program} {w : World} {K : PySem.W.Frag} {mg : Str → Option Value} {base : Heap}
theorem oex_initO {x qual fl sn vn : Str} {st : Stmt} {fI C : Addr} {fd : FuncData} {k : Nat} {p1 p2 p3 p4 : Pos} (T : OexO K C) (hno : PySem.W.findIn K (.ref C) fl = some none) (F : Fun K x qual st fI fd) (S : FnScope [sn, vn] [sn, vn] (defScope st))
    (hbody : defBody st = [.Assign [.Attribute (.Name sn p1) fl p2] (.Name vn p3) p4]) (h0 : Vis (defScope st) sn) (h1 : Vis (defScope st) vn) (d0 : (sn == ("__debug__" : Str)) = false) (d1 : (vn == ("__debug__" : Str)) = false) (c0 : (sn == ("__classdict__" : Str)) = false) (c1 : (vn == ("__classdict__" : Str)) = false)
    (hs : ∀ env : Env, swapsWith (.Name vn p3) (some (.Attribute (.Name sn p1) fl p2)) p4.line env = pure false) : FnOk P w K mg base (L2.CX P w) (k + 1) fI fd [sn, vn] (spI C fl) := by
  refine F.okX S (fun vs H Q E h => by obtain ⟨a, y, rfl, _⟩ := h; rfl) fun cdv A outer s H vs Q E hr h => ?_
  rw [hbody]
  refine ⟨_, pss_one (ps_ostO (pe_var (i := 0) rfl h0 d0 c0) (pe_var (i := 1) rfl h1 d1 c1) (hs _)), ?_⟩
  obtain ⟨a, y, rfl, ha, q⟩ := h
  exact ⟨y, rfl, .ref a, rfl, a, C, rfl, T, hno, ha, q⟩
end
structure OexV (G : Gx) (c : Nat) (fI : Addr) : Prop where
  T : OexO G.K (G.ga c)
  iC : PySem.W.findIn G.K (.ref (G.ga c)) "__init__" = some (some (.ref fI))
  tI : PySem.W.typeIn G.K (.ref fI) = some (.type "function")
section
variable {G : Gx} {X : Cx} {W : WX} {x : Expr} {ma : ME} {pos : Pos}
theorem ss_raiseO {c k : Nat} {fI : Addr} {fd : FuncData} {ps : List Str} {n : Str} {np pos2 : Pos} (hK : X.K = G.K) (hc : X.calm = true) (tk : Takes X W) (O : OexV G c fI) (F : FnOk X.prog X.w X.K X.mg X.base (L2.CX X.prog X.w) k fI fd ps (spI (G.ga c) (G.xf c))) (hr : Room (k + 1) X.A) (hb : Binds X.K fd ps [])
    (hm : X.mg n = some (.ref (G.ga c))) (ha : SE G X W x ma) (hg : Gl X n := by rfl) (hdb : (n == ("__debug__" : Str)) = false := by decide)
    (he : starEach [x] X.env = (false, eval x X.env) :: starEach [] X.env := by rfl) (hpl : (backTo pos (starEach [] X.env)).any (·.1) = false := by rfl) :
    SS G X W (.Raise (some (.Call (.Name n np) [x] [] pos)) none pos2) (mRaise c ma) := by
  have pm := pmk_oexO (X := X) (CX := L2.CX X.prog X.w) (x := n) (p := np) (pos := pos) (e := x) (es := []) (hK ▸ O.T) (hK ▸ O.iC) (hK ▸ O.tI) F hr hb (fun pins σ H s e s' I q => by obtain ⟨_, _, _, _, _, _, _, _, _, _, _, _, w⟩ := q; exact w.elim) hg hm (pa_cons ha.pe pa_nil he) hdb he hpl
  refine ⟨ps_imp (ps_raise (pos := pos2) hc tk pm) fun Z σ H u => ?_⟩
  obtain ⟨r, h, e, s, en, p⟩ := u
  refine uG_weak (stepS s en p) ?_
  rintro v H1 ⟨r1, h1, d, g1, s1, en1, ra, p1⟩
  refine ⟨by simp, fun a0 ha0 => ⟨a0, v, rfl, upd_same, fun dx hdx hne => ⟨rfl, dx, [(G.xf c, v)], upd_same, ?_, ?_, ?_⟩⟩⟩
  · rw [upd_ne hne, upd_same]
  · rwa [upd_ne hne] at hdx
  · have hd1 : H1 dx = none := by rwa [upd_ne hne] at hdx
    have ee : upd (del (upd (upd (upd H1 a0 (exo a0 (G.ga c) none)) dx (exd dx [(G.xf c, v)])) a0 (exo a0 (G.ga c) (some dx))) a0) dx (.xd [(G.xf c, v)]) = upd H1 dx (.xd [(G.xf c, v)]) := by
      funext b
      by_cases e : b = dx
      · rw [e, upd_same, upd_same]
      · rw [upd_ne e, upd_ne e]
        by_cases e2 : b = a0
        · rw [e2, del_same, ha0]
        · rw [del_ne e2, upd_ne e2, upd_ne e, upd_ne e2]
    rw [ee]
    exact p1 v σ _ r1 dx (gr_fresh hd1) (s1.fresh hd1) (en1.mono (gr_fresh hd1)) (ra.mono (gr_fresh hd1)) upd_same
end
end L2.Lv
end
section
set_option maxRecDepth 100000
set_option maxHeartbeats 4000000
set_option autoImplicit false
namespace L2.Lv
namespace K02
open PySem PySem.Spec PyProof.Rows
def top (i : Nat) : Stmt := PySem.Challenge.pw_livenames_k02_terms_refused.main.body.getD i (.Pass ⟨0, 0, 0, 0⟩)
def xfn : Nat → Str := fun c => match c with | 20 => "told" | 21 => "index" | 23 => "names" | 24 => "most" | _ => ""
def GG (K : PySem.W.Frag) (ga : Nat → Addr) (Tb : List (Addr × Str)) : Gx := ⟨K, ga, ["_tree", "_nodes", "_found"], xfn, Tb⟩
theorem GG_nd {K : PySem.W.Frag} {ga : Nat → Addr} {Tb : List (Addr × Str)} : (GG K ga Tb).fn.Nodup := by show List.Nodup [("_tree" : Str), ("_nodes" : Str), ("_found" : Str)]; decide +kernel
def st_7 : Stmt := top 9
abbrev nm_7 : List Str := ["value"]
theorem sc_7 : FnScope ["value"] ["value"] (defScope st_7) := ⟨rfl, rfl, rfl, by decide +kernel, rfl, by decide +kernel, by decide +kernel⟩
theorem bk_7 {scope : Scope} {own : List (Str × Nat)} (h : blkB ["value"] (defScope st_7) scope own = true) : BlkOk ["value"] (defScope st_7) scope own := blk_by h
def st_10 : Stmt := top 17
abbrev nm_10 : List Str := ["value"]
theorem sc_10 : FnScope ["value"] ["value"] (defScope st_10) := ⟨rfl, rfl, rfl, by decide +kernel, rfl, by decide +kernel, by decide +kernel⟩
theorem bk_10 {scope : Scope} {own : List (Str × Nat)} (h : blkB ["value"] (defScope st_10) scope own = true) : BlkOk ["value"] (defScope st_10) scope own := blk_by h
def st_11 : Stmt := top 18
abbrev nm_11 : List Str := ["names"]
theorem sc_11 : FnScope ["names"] ["names"] (defScope st_11) := ⟨rfl, rfl, rfl, by decide +kernel, rfl, by decide +kernel, by decide +kernel⟩
theorem bk_11 {scope : Scope} {own : List (Str × Nat)} (h : blkB ["names"] (defScope st_11) scope own = true) : BlkOk ["names"] (defScope st_11) scope own := blk_by h
def st_13 : Stmt := top 20
abbrev nm_13 : List Str := ["node"]
theorem sc_13 : FnScope ["node"] ["node"] (defScope st_13) := ⟨rfl, rfl, rfl, by decide +kernel, rfl, by decide +kernel, by decide +kernel⟩
theorem bk_13 {scope : Scope} {own : List (Str × Nat)} (h : blkB ["node"] (defScope st_13) scope own = true) : BlkOk ["node"] (defScope st_13) scope own := blk_by h
def st_14 : Stmt := top 21
abbrev nm_14 : List Str := ["row", "node", "tree"]
theorem sc_14 : FnScope ["row", "node", "tree"] ["row"] (defScope st_14) := ⟨rfl, rfl, rfl, by decide +kernel, rfl, by decide +kernel, by decide +kernel⟩
theorem bk_14 {scope : Scope} {own : List (Str × Nat)} (h : blkB ["row", "node", "tree"] (defScope st_14) scope own = true) : BlkOk ["row", "node", "tree"] (defScope st_14) scope own := blk_by h
def st_16 : Stmt := top 22
abbrev nm_16 : List Str := ["kind", "nodes", "number", "node"]
theorem sc_16 : FnScope ["kind", "nodes", "number", "node"] ["kind", "nodes"] (defScope st_16) := ⟨rfl, rfl, rfl, by decide +kernel, rfl, by decide +kernel, by decide +kernel⟩
theorem bk_16 {scope : Scope} {own : List (Str × Nat)} (h : blkB ["kind", "nodes", "number", "node"] (defScope st_16) scope own = true) : BlkOk ["kind", "nodes", "number", "node"] (defScope st_16) scope own := blk_by h
def st_17 : Stmt := top 23
abbrev nm_17 : List Str := ["tree", "depth", "row"]
theorem sc_17 : FnScope ["tree", "depth", "row"] ["tree"] (defScope st_17) := ⟨rfl, rfl, rfl, by decide +kernel, rfl, by decide +kernel, by decide +kernel⟩
theorem bk_17 {scope : Scope} {own : List (Str × Nat)} (h : blkB ["tree", "depth", "row"] (defScope st_17) scope own = true) : BlkOk ["tree", "depth", "row"] (defScope st_17) scope own := blk_by h
def st_18 : Stmt := (clsBody (top 26)).getD 0 (.Pass ⟨0, 0, 0, 0⟩)
abbrev nm_18 : List Str := ["self", "tree", "nodes", "broken"]
theorem sc_18 : FnScope ["self", "tree", "nodes", "broken"] ["self", "tree"] (defScope st_18) := ⟨rfl, rfl, rfl, by decide +kernel, rfl, by decide +kernel, by decide +kernel⟩
theorem bk_18 {scope : Scope} {own : List (Str × Nat)} (h : blkB ["self", "tree", "nodes", "broken"] (defScope st_18) scope own = true) : BlkOk ["self", "tree", "nodes", "broken"] (defScope st_18) scope own := blk_by h
def st_55 : Stmt := top 28
abbrev nm_55 : List Str := ["_law_script", "_law_k", "_law_cell", "_law_big", "_law_mixed"]
theorem sc_55 : FnScope ["_law_script", "_law_k", "_law_cell", "_law_big", "_law_mixed"] ["_law_script", "_law_k"] (defScope st_55) := ⟨rfl, rfl, rfl, by decide +kernel, rfl, by decide +kernel, by decide +kernel⟩
theorem bk_55 {scope : Scope} {own : List (Str × Nat)} (h : blkB ["_law_script", "_law_k", "_law_cell", "_law_big", "_law_mixed"] (defScope st_55) scope own = true) : BlkOk ["_law_script", "_law_k", "_law_cell", "_law_big", "_law_mixed"] (defScope st_55) scope own := blk_by h
def st_56 : Stmt := top 29
abbrev nm_56 : List Str := ["_law_source", "_law_top", "_law_told"]
theorem sc_56 : FnScope ["_law_source", "_law_top", "_law_told"] ["_law_source", "_law_top"] (defScope st_56) := ⟨rfl, rfl, rfl, by decide +kernel, rfl, by decide +kernel, by decide +kernel⟩
theorem bk_56 {scope : Scope} {own : List (Str × Nat)} (h : blkB ["_law_source", "_law_top", "_law_told"] (defScope st_56) scope own = true) : BlkOk ["_law_source", "_law_top", "_law_told"] (defScope st_56) scope own := blk_by h
def st_57 : Stmt := top 30
abbrev nm_57 : List Str := ["_law_source", "_law_things"]
theorem sc_57 : FnScope ["_law_source", "_law_things"] ["_law_source", "_law_things"] (defScope st_57) := ⟨rfl, rfl, rfl, by decide +kernel, rfl, by decide +kernel, by decide +kernel⟩
theorem bk_57 {scope : Scope} {own : List (Str × Nat)} (h : blkB ["_law_source", "_law_things"] (defScope st_57) scope own = true) : BlkOk ["_law_source", "_law_things"] (defScope st_57) scope own := blk_by h
def st_59 : Stmt := top 31
abbrev nm_59 : List Str := ["_law_source", "_law_some"]
theorem sc_59 : FnScope ["_law_source", "_law_some"] ["_law_source"] (defScope st_59) := ⟨rfl, rfl, rfl, by decide +kernel, rfl, by decide +kernel, by decide +kernel⟩
theorem bk_59 {scope : Scope} {own : List (Str × Nat)} (h : blkB ["_law_source", "_law_some"] (defScope st_59) scope own = true) : BlkOk ["_law_source", "_law_some"] (defScope st_59) scope own := blk_by h
def st_60 : Stmt := top 32
abbrev nm_60 : List Str := ["_law_source", "_law_words_here"]
theorem sc_60 : FnScope ["_law_source", "_law_words_here"] ["_law_source", "_law_words_here"] (defScope st_60) := ⟨rfl, rfl, rfl, by decide +kernel, rfl, by decide +kernel, by decide +kernel⟩
theorem bk_60 {scope : Scope} {own : List (Str × Nat)} (h : blkB ["_law_source", "_law_words_here"] (defScope st_60) scope own = true) : BlkOk ["_law_source", "_law_words_here"] (defScope st_60) scope own := blk_by h
def st_61 : Stmt := top 33
abbrev nm_61 : List Str := ["_law_source", "_law_words_here", "_law_room", "_law_parts", "_law_left", "_law_turn", "_law_tree_here"]
theorem sc_61 : FnScope ["_law_source", "_law_words_here", "_law_room", "_law_parts", "_law_left", "_law_turn", "_law_tree_here"] ["_law_source", "_law_words_here", "_law_room"] (defScope st_61) := ⟨rfl, rfl, rfl, by decide +kernel, rfl, by decide +kernel, by decide +kernel⟩
theorem bk_61 {scope : Scope} {own : List (Str × Nat)} (h : blkB ["_law_source", "_law_words_here", "_law_room", "_law_parts", "_law_left", "_law_turn", "_law_tree_here"] (defScope st_61) scope own = true) : BlkOk ["_law_source", "_law_words_here", "_law_room", "_law_parts", "_law_left", "_law_turn", "_law_tree_here"] (defScope st_61) scope own := blk_by h
def st_62 : Stmt := top 34
abbrev nm_62 : List Str := ["_law_source", "_law_words_here", "_law_room", "_law_ahead", "_law_left", "_law_turn", "_law_tree_here"]
theorem sc_62 : FnScope ["_law_source", "_law_words_here", "_law_room", "_law_ahead", "_law_left", "_law_turn", "_law_tree_here"] ["_law_source", "_law_words_here", "_law_room"] (defScope st_62) := ⟨rfl, rfl, rfl, by decide +kernel, rfl, by decide +kernel, by decide +kernel⟩
theorem bk_62 {scope : Scope} {own : List (Str × Nat)} (h : blkB ["_law_source", "_law_words_here", "_law_room", "_law_ahead", "_law_left", "_law_turn", "_law_tree_here"] (defScope st_62) scope own = true) : BlkOk ["_law_source", "_law_words_here", "_law_room", "_law_ahead", "_law_left", "_law_turn", "_law_tree_here"] (defScope st_62) scope own := blk_by h
def st_63 : Stmt := top 35
abbrev nm_63 : List Str := ["_law_source", "_law_words_here", "_law_deep", "_law_tree_here", "_law_turn", "_law_beside", "_law_one_here", "_law_core", "_law_ahead"]
theorem sc_63 : FnScope ["_law_source", "_law_words_here", "_law_deep", "_law_tree_here", "_law_turn", "_law_beside", "_law_one_here", "_law_core", "_law_ahead"] ["_law_source", "_law_words_here", "_law_deep"] (defScope st_63) := ⟨rfl, rfl, rfl, by decide +kernel, rfl, by decide +kernel, by decide +kernel⟩
theorem bk_63 {scope : Scope} {own : List (Str × Nat)} (h : blkB ["_law_source", "_law_words_here", "_law_deep", "_law_tree_here", "_law_turn", "_law_beside", "_law_one_here", "_law_core", "_law_ahead"] (defScope st_63) scope own = true) : BlkOk ["_law_source", "_law_words_here", "_law_deep", "_law_tree_here", "_law_turn", "_law_beside", "_law_one_here", "_law_core", "_law_ahead"] (defScope st_63) scope own := blk_by h
def st_64 : Stmt := top 36
abbrev nm_64 : List Str := ["_law_source", "_law_most_nodes", "_law_most_binders", "_law_words_here", "_law_way", "_law_half", "_law_one_here", "_law_other"]
theorem sc_64 : FnScope ["_law_source", "_law_most_nodes", "_law_most_binders", "_law_words_here", "_law_way", "_law_half", "_law_one_here", "_law_other"] ["_law_source", "_law_most_nodes", "_law_most_binders"] (defScope st_64) := ⟨rfl, rfl, rfl, by decide +kernel, rfl, by decide +kernel, by decide +kernel⟩
theorem bk_64 {scope : Scope} {own : List (Str × Nat)} (h : blkB ["_law_source", "_law_most_nodes", "_law_most_binders", "_law_words_here", "_law_way", "_law_half", "_law_one_here", "_law_other"] (defScope st_64) scope own = true) : BlkOk ["_law_source", "_law_most_nodes", "_law_most_binders", "_law_words_here", "_law_way", "_law_half", "_law_one_here", "_law_other"] (defScope st_64) scope own := blk_by h
def st_76 : Stmt := top 43
abbrev nm_76 : List Str := ["_law_script", "_law_k", "_law_source", "_law_tree_here", "_law_thing", "_law_wanted", "_law_bent"]
theorem sc_76 : FnScope ["_law_script", "_law_k", "_law_source", "_law_tree_here", "_law_thing", "_law_wanted", "_law_bent"] ["_law_script"] (defScope st_76) := ⟨rfl, rfl, rfl, by decide +kernel, rfl, by decide +kernel, by decide +kernel⟩
theorem bk_76 {scope : Scope} {own : List (Str × Nat)} (h : blkB ["_law_script", "_law_k", "_law_source", "_law_tree_here", "_law_thing", "_law_wanted", "_law_bent"] (defScope st_76) scope own = true) : BlkOk ["_law_script", "_law_k", "_law_source", "_law_tree_here", "_law_thing", "_law_wanted", "_law_bent"] (defScope st_76) scope own := blk_by h
def st_102 : Stmt := top 10
abbrev nm_102 : List Str := ["values", "value"]
theorem sc_102 : FnScope ["values", "value"] ["values"] (defScope st_102) := ⟨rfl, rfl, rfl, by decide +kernel, rfl, by decide +kernel, by decide +kernel⟩
theorem bk_102 {scope : Scope} {own : List (Str × Nat)} (h : blkB ["values", "value"] (defScope st_102) scope own = true) : BlkOk ["values", "value"] (defScope st_102) scope own := blk_by h
def st_103 : Stmt := top 11
abbrev nm_103 : List Str := ["text"]
theorem sc_103 : FnScope ["text"] ["text"] (defScope st_103) := ⟨rfl, rfl, rfl, by decide +kernel, rfl, by decide +kernel, by decide +kernel⟩
theorem bk_103 {scope : Scope} {own : List (Str × Nat)} (h : blkB ["text"] (defScope st_103) scope own = true) : BlkOk ["text"] (defScope st_103) scope own := blk_by h
def st_104 : Stmt := top 19
abbrev nm_104 : List Str := ["value", "nodes", "names", "waiting", "node", "kind", "name", "parts", "ahead", "body"]
theorem sc_104 : FnScope ["value", "nodes", "names", "waiting", "node", "kind", "name", "parts", "ahead", "body"] ["value"] (defScope st_104) := ⟨rfl, rfl, rfl, by decide +kernel, rfl, by decide +kernel, by decide +kernel⟩
theorem bk_104 {scope : Scope} {own : List (Str × Nat)} (h : blkB ["value", "nodes", "names", "waiting", "node", "kind", "name", "parts", "ahead", "body"] (defScope st_104) scope own = true) : BlkOk ["value", "nodes", "names", "waiting", "node", "kind", "name", "parts", "ahead", "body"] (defScope st_104) scope own := blk_by h
def st_105 : Stmt := top 24
abbrev nm_105 : List Str := ["nodes"]
theorem sc_105 : FnScope ["nodes"] ["nodes"] (defScope st_105) := ⟨rfl, rfl, rfl, by decide +kernel, rfl, by decide +kernel, by decide +kernel⟩
theorem bk_105 {scope : Scope} {own : List (Str × Nat)} (h : blkB ["nodes"] (defScope st_105) scope own = true) : BlkOk ["nodes"] (defScope st_105) scope own := blk_by h
def st_109 : Stmt := top 38
abbrev nm_109 : List Str := ["_law_tree_here", "_law_found"]
theorem sc_109 : FnScope ["_law_tree_here", "_law_found"] ["_law_tree_here"] (defScope st_109) := ⟨rfl, rfl, rfl, by decide +kernel, rfl, by decide +kernel, by decide +kernel⟩
theorem bk_109 {scope : Scope} {own : List (Str × Nat)} (h : blkB ["_law_tree_here", "_law_found"] (defScope st_109) scope own = true) : BlkOk ["_law_tree_here", "_law_found"] (defScope st_109) scope own := blk_by h
def st_110 : Stmt := top 39
abbrev nm_110 : List Str := ["_law_nodes", "_law_binders", "_law_parts"]
theorem sc_110 : FnScope ["_law_nodes", "_law_binders", "_law_parts"] ["_law_nodes", "_law_binders"] (defScope st_110) := ⟨rfl, rfl, rfl, by decide +kernel, rfl, by decide +kernel, by decide +kernel⟩
theorem bk_110 {scope : Scope} {own : List (Str × Nat)} (h : blkB ["_law_nodes", "_law_binders", "_law_parts"] (defScope st_110) scope own = true) : BlkOk ["_law_nodes", "_law_binders", "_law_parts"] (defScope st_110) scope own := blk_by h
def st_111 : Stmt := top 40
abbrev nm_111 : List Str := ["_law_deep", "_law_inner", "_law_tree_here", "_law_turn"]
theorem sc_111 : FnScope ["_law_deep", "_law_inner", "_law_tree_here", "_law_turn"] ["_law_deep", "_law_inner"] (defScope st_111) := ⟨rfl, rfl, rfl, by decide +kernel, rfl, by decide +kernel, by decide +kernel⟩
theorem bk_111 {scope : Scope} {own : List (Str × Nat)} (h : blkB ["_law_deep", "_law_inner", "_law_tree_here", "_law_turn"] (defScope st_111) scope own = true) : BlkOk ["_law_deep", "_law_inner", "_law_tree_here", "_law_turn"] (defScope st_111) scope own := blk_by h
def st_112 : Stmt := top 41
abbrev nm_112 : List Str := ["_law_tree_here"]
theorem sc_112 : FnScope ["_law_tree_here"] [] (defScope st_112) := ⟨rfl, rfl, rfl, by decide +kernel, rfl, by decide +kernel, by decide +kernel⟩
theorem bk_112 {scope : Scope} {own : List (Str × Nat)} (h : blkB ["_law_tree_here"] (defScope st_112) scope own = true) : BlkOk ["_law_tree_here"] (defScope st_112) scope own := blk_by h
def st_113 : Stmt := top 42
abbrev nm_113 : List Str := ["_law_name", "_law_thing"]
theorem sc_113 : FnScope ["_law_name", "_law_thing"] [] (defScope st_113) := ⟨rfl, rfl, rfl, by decide +kernel, rfl, by decide +kernel, by decide +kernel⟩
theorem bk_113 {scope : Scope} {own : List (Str × Nat)} (h : blkB ["_law_name", "_law_thing"] (defScope st_113) scope own = true) : BlkOk ["_law_name", "_law_thing"] (defScope st_113) scope own := blk_by h
def st_2 : Stmt := (clsBody (top 3)).getD 0 (.Pass ⟨0, 0, 0, 0⟩)
abbrev nm_2 : List Str := ["self", "told"]
theorem sc_2 : FnScope ["self", "told"] ["self", "told"] (defScope st_2) := ⟨rfl, rfl, rfl, by decide +kernel, rfl, by decide +kernel, by decide +kernel⟩
theorem bk_2 {scope : Scope} {own : List (Str × Nat)} (h : blkB ["self", "told"] (defScope st_2) scope own = true) : BlkOk ["self", "told"] (defScope st_2) scope own := blk_by h
def st_5 : Stmt := (clsBody (top 5)).getD 0 (.Pass ⟨0, 0, 0, 0⟩)
abbrev nm_5 : List Str := ["self", "names"]
theorem sc_5 : FnScope ["self", "names"] ["self", "names"] (defScope st_5) := ⟨rfl, rfl, rfl, by decide +kernel, rfl, by decide +kernel, by decide +kernel⟩
theorem bk_5 {scope : Scope} {own : List (Str × Nat)} (h : blkB ["self", "names"] (defScope st_5) scope own = true) : BlkOk ["self", "names"] (defScope st_5) scope own := blk_by h
def st_6 : Stmt := (clsBody (top 6)).getD 0 (.Pass ⟨0, 0, 0, 0⟩)
abbrev nm_6 : List Str := ["self", "most"]
theorem sc_6 : FnScope ["self", "most"] ["self", "most"] (defScope st_6) := ⟨rfl, rfl, rfl, by decide +kernel, rfl, by decide +kernel, by decide +kernel⟩
theorem bk_6 {scope : Scope} {own : List (Str × Nat)} (h : blkB ["self", "most"] (defScope st_6) scope own = true) : BlkOk ["self", "most"] (defScope st_6) scope own := blk_by h
def st_108 : Stmt := top 37
abbrev nm_108 : List Str := ["_law_function", "e"]
theorem sc_108 : FnScope ["_law_function", "e"] ["_law_function"] (defScope st_108) := ⟨rfl, rfl, rfl, by decide +kernel, rfl, by decide +kernel, by decide +kernel⟩
theorem bk_108 {scope : Scope} {own : List (Str × Nat)} (h : blkB ["_law_function", "e"] (defScope st_108) scope own = true) : BlkOk ["_law_function", "e"] (defScope st_108) scope own := blk_by h
theorem GG_no {K : PySem.W.Frag} {ga : Nat → Addr} {Tb : List (Addr × Str)} {n : Str} (h : n ∉ (["_tree", "_nodes", "_found"] : List Str)) : n ∉ (GG K ga Tb).fn := h
def psn : Nat → List Str := fun j => match j with
  | 7 => ["value"]
  | 10 => ["value"]
  | 11 => ["names"]
  | 13 => ["node"]
  | 14 => ["row"]
  | 16 => ["kind", "nodes"]
  | 17 => ["tree"]
  | 18 => ["self", "tree"]
  | 55 => ["_law_script", "_law_k"]
  | 56 => ["_law_source", "_law_top"]
  | 57 => ["_law_source", "_law_things"]
  | 59 => ["_law_source"]
  | 60 => ["_law_source", "_law_words_here"]
  | 61 => ["_law_source", "_law_words_here", "_law_room"]
  | 62 => ["_law_source", "_law_words_here", "_law_room"]
  | 63 => ["_law_source", "_law_words_here", "_law_deep"]
  | 64 => ["_law_source", "_law_most_nodes", "_law_most_binders"]
  | 76 => ["_law_script"]
  | 102 => ["values"]
  | 103 => ["text"]
  | 104 => ["value"]
  | 105 => ["nodes"]
  | 109 => ["_law_tree_here"]
  | 110 => ["_law_nodes", "_law_binders"]
  | 111 => ["_law_deep", "_law_inner"]
  | 112 => []
  | 113 => []
  | 2 => ["self", "told"]
  | 5 => ["self", "names"]
  | 6 => ["self", "most"]
  | 108 => ["_law_function"]
  | _ => []
abbrev CT := Nat → List D → Hm → Re D
def tc_108 : ClM := [(20, (xLst (xCons (xC (.str [116, 101, 114, 109])) (xCons (xReprA xF) (xCons (xAnd (xC (.bl true)) (xC (.bl true))) xNil))))), (23, (xLst (xCons (xC (.str [110, 97, 109, 101, 115])) (xCons (xReprA xF) (xCons (xC (.bl true)) xNil))))), (24, (xLst (xCons (xC (.str [109, 97, 110, 121])) (xCons xF (xCons (xC (.bl false)) xNil)))))]
def tm_108 : MS := (mRet (mC .non))
def b_7 (c : CT) : MS :=
  (mRet (mAndV (mUn (pIsi 1 [3]) (mVar 0)) (mAndV (mBin pLe (mApp pLen (mCons (mVar 0) mNil)) (mC (.int 8))) (mCall (c 103) (mCons (mVar 0) mNil)))))
def b_10 (c : CT) : MS :=
  (mRet (mBin pGt (mApp pLen (mCons (mCall (c 104) (mCons (mVar 0) mNil)) mNil)) (mC (.int 0))))
def b_11 (c : CT) : MS :=
  (mSeq (mIfS (mOrT (mNotT (mTru (mUn (pIsi 1 [5, 4]) (mVar 0)))) (mNotT (mTru (mCall (c 102) (mCons (mVar 0) mNil))))) (mRaise 23 (mVar 0)) mPass)
  (mRet (mUn (pSortS (isort lenLe)) (mUn (pSortS sortU) (mVar 0)))))
def b_13 (c : CT) : MS :=
  (mSeq (mIfS (mTb (mBin pEq (mBin pIdx (mVar 0) (mC (.int 0))) (mC (.str [117, 115, 101])))) (mRet (mTup mNil)) mPass)
  (mSeq (mIfS (mTb (mBin pEq (mBin pIdx (mVar 0) (mC (.int 0))) (mC (.str [106, 111, 105, 110])))) (mRet (mBin pIdx (mVar 0) (mC (.int 2)))) mPass)
  (mRet (mTup (mStar (mBin pIdx (mVar 0) (mNeg (mC (.int 2)))) (mCons (mBin pIdx (mVar 0) (mNeg (mC (.int 1)))) mNil))))))
def b_14 (c : CT) : MS :=
  (mRet (mComp2 (mSrc (mVar 0)) (gSet 1) mYes (mSrc (mCall (c 13) (mCons (mVar 1) mNil))) (gSet 2) mYes (mVar 2) [1, 2] [2]))
def b_16 (c : CT) : MS :=
  (mRet (mComp (mEnum (mCons (mVar 1) mNil)) (gTupM [(gSet 2), (gSet 3)]) (mTb (mBin pEq (mBin pIdx (mVar 3) (mC (.int 0))) (mVar 0))) (mVar 2) [2, 3]))
def b_17 (c : CT) : MS :=
  (mSeq (mSet 1 (mC (.int 0)))
  (mSeq (mSet 2 (mLst (mCons (mVar 0) mNil)))
  (mSeq (mWhile (mTru (mVar 2)) (mSeq (mAug 1 (pInt (fun _ _ => true) fun i j => i + j) (mC (.int 1)))
  (mSet 2 (mCall (c 14) (mCons (mVar 2) mNil)))))
  (mRet (mVar 1)))))
def b_18 (c : CT) : MS :=
  (mSeq (mSet 2 (mCall (c 104) (mCons (mVar 1) mNil)))
  (mSeq (mIfS (mTb (mBin pEq (mApp pLen (mCons (mVar 2) mNil)) (mC (.int 0)))) (mRaise 20 (mVar 1)) mPass)
  (mSeq (mSet 3 (mCall (c 105) (mCons (mVar 2) mNil)))
  (mSeq (mIfS (mTb (mBin (pIs true) (mVar 3) (mC .non))) (mRaise 24 (mVar 3)) mPass)
  (mSeq (mPutF [0] 0 (mVar 0) (mVar 1))
  (mSeq (mPutF [0] 1 (mVar 0) (mVar 2))
  (mPutF [0] 2 (mVar 0) mDict0)))))))
def b_55 (c : CT) : MS :=
  (mSeq (mSet 2 (mC (.int 0)))
  (mSeq (mIfS (mTb (mBin pLt (mVar 1) (mApp pLen (mCons (mVar 0) mNil)))) (mSet 2 (mBin pIdx (mVar 0) (mVar 1))) mPass)
  (mSeq (mSet 3 (mApp (pMM maxI) (mCons (mApp pInt1 (mCons (mVar 2) mNil)) (mCons (mApp pInt1 (mCons (mBin pSub (mNeg (mC (.int 1))) (mVar 2)) mNil)) mNil))))
  (mSeq (mSet 4 (mBin pMd (mApp pInt1 (mCons (mBin pMulA (mBin pAdd (mBin pAdd (mBin pAdd (mBin pMd (mApp pInt1 (mCons (mVar 3) mNil)) (mC (.int 2147483629))) (mBin pMulA (mBin pMulA (mC (.int 7919)) (mVar 1)) (mVar 1))) (mBin pMulA (mC (.int 31)) (mVar 1))) (mC (.int 17))) (mC (.int 48271))) mNil)) (mC (.int 2147483647))))
  (mRet (mLst (mCons (mBin pMulA (mVar 3) (mApp pInt1 (mCons (mBin pGe (mVar 3) (mBin pPw (mC (.int 10)) (mC (.int 18)))) mNil))) (mCons (mVar 4) mNil))))))))
def b_56 (c : CT) : MS :=
  (mSeq (mIfS (mTb (mBin pGt (mBin pIdx (mVar 0) (mC (.int 0))) (mC (.int 0)))) (mSeq (mSet 2 (mBin pMd (mApp pInt1 (mCons (mBin pIdx (mVar 0) (mC (.int 0))) mNil)) (mVar 1)))
  (mSeq (mSub (mVar 0) (mC (.int 0)) (mBin pFd (mBin pIdx (mVar 0) (mC (.int 0))) (mVar 1)))
  (mRet (mVar 2)))) mPass)
  (mSeq (mSub (mVar 0) (mC (.int 1)) (mBin pMd (mApp pInt1 (mCons (mBin pAdd (mBin pMulA (mBin pIdx (mVar 0) (mC (.int 1))) (mC (.int 39373))) (mC (.int 7))) mNil)) (mC (.int 2147483647))))
  (mRet (mBin pMd (mApp pInt1 (mCons (mBin pFd (mBin pMd (mApp pInt1 (mCons (mBin pMulA (mBin pIdx (mVar 0) (mC (.int 1))) (mBin pIdx (mVar 0) (mC (.int 1)))) mNil)) (mC (.int 2147483629))) (mC (.int 32))) mNil)) (mVar 1)))))
def b_57 (c : CT) : MS :=
  (mRet (mBin pIdx (mVar 1) (mCall (c 56) (mCons (mVar 0) (mCons (mApp pLen (mCons (mVar 1) mNil)) mNil)))))
def b_59 (c : CT) : MS :=
  (mSeq (mSet 1 (mLst (mCons (mLst (mCons (mC (.str [120])) (mCons (mC (.str [121])) mNil))) (mCons (mLst (mCons (mC (.str [120])) (mCons (mC (.str [121])) (mCons (mC (.str [122])) (mCons (mC (.str [97])) mNil))))) (mCons (mLst (mCons (mC (.str [97])) (mCons (mC (.str [98])) (mCons (mC (.str [99])) (mCons (mC (.str [100])) (mCons (mC (.str [101])) (mCons (mC (.str [102])) mNil))))))) (mCons (mLst (mCons (mC (.str [120])) (mCons (mC (.str [97, 98, 99, 100, 101, 102, 103, 104])) (mCons (mC (.str [97, 97])) (mCons (mC (.str [98])) (mCons (mC (.str [122, 122])) mNil)))))) mNil))))))
  (mRet (mCall (c 57) (mCons (mVar 0) (mCons (mVar 1) mNil)))))
def b_60 (c : CT) : MS :=
  (mRet (mTup (mCons (mC (.str [117, 115, 101])) (mCons (mCall (c 57) (mCons (mVar 0) (mCons (mVar 1) mNil))) mNil))))
def b_61 (c : CT) : MS :=
  (mSeq (mIfS (mOrT (mTb (mBin pLt (mBin pIdx (mVar 2) (mC (.int 0))) (mC (.int 3)))) (mTb (mBin pEq (mCall (c 56) (mCons (mVar 0) (mCons (mC (.int 7)) mNil))) (mC (.int 0))))) (mRet (mLst (mCons (mCall (c 60) (mCons (mVar 0) (mCons (mVar 1) mNil))) (mCons (mLst (mCons (mBin pSub (mBin pIdx (mVar 2) (mC (.int 0))) (mC (.int 1))) (mCons (mBin pIdx (mVar 2) (mC (.int 1))) mNil))) mNil)))) mPass)
  (mSeq (mIfS (mAndT (mTb (mBin pGt (mBin pIdx (mVar 2) (mC (.int 1))) (mC (.int 0)))) (mTb (mBin pGt (mCall (c 56) (mCons (mVar 0) (mCons (mC (.int 3)) mNil))) (mC (.int 0))))) (mRet (mCall (c 62) (mCons (mVar 0) (mCons (mVar 1) (mCons (mVar 2) mNil))))) mPass)
  (mSeq (mPar 3 4 (mCons (mLst mNil) (mCons (mLst (mCons (mBin pSub (mBin pIdx (mVar 2) (mC (.int 0))) (mC (.int 1))) (mCons (mBin pIdx (mVar 2) (mC (.int 1))) mNil))) mNil)))
  (mSeq (mFor (mRng1 (mCons (mCall (c 57) (mCons (mVar 0) (mCons (mLst (mCons (mC (.int 0)) (mCons (mC (.int 1)) (mCons (mC (.int 2)) (mCons (mC (.int 2)) (mCons (mC (.int 3)) mNil)))))) mNil))) mNil)) (gSet 5) (mIfS (mTb (mBin pGt (mBin pIdx (mVar 4) (mC (.int 0))) (mC (.int 0)))) (mSeq (mAsg (gTupM [(gSet 6), (gSet 4)]) (mCall (c 61) (mCons (mVar 0) (mCons (mVar 1) (mCons (mVar 4) mNil)))))
  (mDrop (mMethL pAppend (mVar 3) (mCons (mVar 6) mNil)))) mPass))
  (mRet (mLst (mCons (mTup (mCons (mC (.str [106, 111, 105, 110])) (mCons (mCall (c 57) (mCons (mVar 0) (mCons (mLst (mCons (mC (.str [102])) (mCons (mC (.str [120])) (mCons (mC (.str [106, 111, 105, 110])) mNil)))) mNil))) (mCons (mApp pTuple (mCons (mVar 3) mNil)) mNil)))) (mCons (mVar 4) mNil))))))))
def b_62 (c : CT) : MS :=
  (mSeq (mPar 3 4 (mCons (mLst mNil) (mCons (mLst (mCons (mBin pSub (mBin pIdx (mVar 2) (mC (.int 0))) (mC (.int 1))) (mCons (mBin pSub (mBin pIdx (mVar 2) (mC (.int 1))) (mC (.int 1))) mNil))) mNil)))
  (mSeq (mFor (mRng1 (mCons (mCall (c 57) (mCons (mVar 0) (mCons (mLst (mCons (mC (.int 0)) (mCons (mC (.int 0)) (mCons (mC (.int 0)) (mCons (mC (.int 1)) (mCons (mC (.int 1)) (mCons (mC (.int 2)) mNil))))))) mNil))) mNil)) (gSet 5) (mIfS (mTb (mBin pGt (mBin pIdx (mVar 4) (mC (.int 0))) (mC (.int 3)))) (mSeq (mAsg (gTupM [(gSet 6), (gSet 4)]) (mCall (c 61) (mCons (mVar 0) (mCons (mVar 1) (mCons (mVar 4) mNil)))))
  (mDrop (mMethL pAppend (mVar 3) (mCons (mVar 6) mNil)))) mPass))
  (mSeq (mIfS (mTb (mBin pLt (mBin pIdx (mVar 4) (mC (.int 0))) (mC (.int 1)))) (mRet (mLst (mCons (mTup (mCons (mC (.str [98, 105, 110, 100])) (mCons (mCall (c 57) (mCons (mVar 0) (mCons (mVar 1) mNil))) (mCons (mTup mNil) (mCons (mBin pIdx (mVar 3) (mC (.int 0))) mNil))))) (mCons (mVar 4) mNil)))) mPass)
  (mSeq (mAsg (gTupM [(gSet 6), (gSet 4)]) (mCall (c 61) (mCons (mVar 0) (mCons (mVar 1) (mCons (mVar 4) mNil)))))
  (mRet (mLst (mCons (mTup (mCons (mC (.str [98, 105, 110, 100])) (mCons (mCall (c 57) (mCons (mVar 0) (mCons (mVar 1) mNil))) (mCons (mApp pTuple (mCons (mVar 3) mNil)) (mCons (mVar 6) mNil))))) (mCons (mVar 4) mNil))))))))
def b_63 (c : CT) : MS :=
  (mSeq (mSet 3 (mTup (mCons (mC (.str [106, 111, 105, 110])) (mCons (mC (.str [102])) (mCons (mApp pTuple (mCons (mComp (mRng1 (mCons (mBin pAdd (mC (.int 1)) (mCall (c 56) (mCons (mVar 0) (mCons (mC (.int 4)) mNil)))) mNil)) (gSet 4) mYes (mCall (c 60) (mCons (mVar 0) (mCons (mVar 1) mNil))) [4]) mNil)) mNil)))))
  (mSeq (mFor (mRng1 (mCons (mVar 2) mNil)) (gSet 4) (mSeq (mSet 5 (mComp (mRng1 (mCons (mCall (c 56) (mCons (mVar 0) (mCons (mC (.int 2)) mNil))) mNil)) (gSet 6) mYes (mCall (c 60) (mCons (mVar 0) (mCons (mVar 1) mNil))) [6]))
  (mSeq (mSet 7 (mIf (mTb (mBin pEq (mVar 5) (mLst mNil))) (mVar 3) (mTup (mCons (mC (.str [106, 111, 105, 110])) (mCons (mC (.str [103])) (mCons (mApp pTuple (mCons (mBin pAdd (mVar 5) (mLst (mCons (mVar 3) mNil))) mNil)) mNil))))))
  (mSeq (mSet 8 (mIf (mTb (mBin pEq (mCall (c 56) (mCons (mVar 0) (mCons (mC (.int 4)) mNil))) (mC (.int 0)))) (mLst (mCons (mCall (c 60) (mCons (mVar 0) (mCons (mVar 1) mNil))) mNil)) (mLst mNil)))
  (mSet 3 (mTup (mCons (mC (.str [98, 105, 110, 100])) (mCons (mCall (c 57) (mCons (mVar 0) (mCons (mVar 1) mNil))) (mCons (mApp pTuple (mCons (mVar 8) mNil)) (mCons (mVar 7) mNil))))))))))
  (mRet (mVar 3))))
def b_64 (c : CT) : MS :=
  (mSeq (mPar 3 4 (mCons (mCall (c 59) (mCons (mVar 0) mNil)) (mCons (mCall (c 56) (mCons (mVar 0) (mCons (mC (.int 4)) mNil))) mNil)))
  (mSeq (mIfS (mTb (mBin pEq (mVar 4) (mC (.int 0)))) (mRet (mCall (c 63) (mCons (mVar 0) (mCons (mVar 3) (mCons (mCall (c 56) (mCons (mVar 0) (mCons (mBin pAdd (mApp (pMM minI) (mCons (mVar 2) (mCons (mBin pFd (mVar 1) (mC (.int 6))) mNil))) (mC (.int 1))) mNil))) mNil))))) mPass)
  (mSeq (mIfS (mTb (mBin pEq (mVar 4) (mC (.int 1)))) (mSeq (mSet 5 (mLst (mCons (mBin pFd (mVar 1) (mC (.int 2))) (mCons (mBin pFd (mVar 2) (mC (.int 2))) mNil))))
  (mSeq (mPar 6 7 (mCons (mBin pIdx (mCall (c 61) (mCons (mVar 0) (mCons (mVar 3) (mCons (mVar 5) mNil)))) (mC (.int 0))) (mCons (mBin pIdx (mCall (c 61) (mCons (mVar 0) (mCons (mVar 3) (mCons (mVar 5) mNil)))) (mC (.int 0))) mNil)))
  (mRet (mTup (mCons (mC (.str [106, 111, 105, 110])) (mCons (mC (.str [102])) (mCons (mTup (mCons (mVar 6) (mCons (mVar 7) mNil))) mNil))))))) mPass)
  (mRet (mBin pIdx (mCall (c 61) (mCons (mVar 0) (mCons (mVar 3) (mCons (mLst (mCons (mVar 1) (mCons (mVar 2) mNil))) mNil)))) (mC (.int 0)))))))
def b_76 (c q : CT) : MS :=
  (mSeq (mIfS (mOrT (mNotT (mTru (mCall (q 112) mNil))) (mNotT (mTru (mCall (c 113) mNil)))) (mRet (mC (.bl false))) mPass)
  (mSeq (mFor (mRng1 (mCons (mApp (pMM maxI) (mCons (mC (.int 1)) (mCons (mApp (pMM minI) (mCons (mC (.int 6)) (mCons (mApp pLen (mCons (mVar 0) mNil)) mNil))) mNil))) mNil)) (gSet 1) (mSeq (mSet 2 (mCall (c 55) (mCons (mVar 0) (mCons (mVar 1) mNil))))
  (mSeq (mSet 3 (mCall (c 64) (mCons (mVar 2) (mCons (mC (.int 10)) (mCons (mC (.int 3)) mNil)))))
  (mSeq (mFor (mSrc (mCall (c 109) (mCons (mVar 3) mNil))) (gSet 4) (mSeq (mSet 5 (mLst (mCons (mC (.str [116, 101, 114, 109])) (mCons (mApp pReprA (mCons (mVar 4) mNil)) (mCons (mC (.bl true)) mNil)))))
  (mSeq (mIfS (mOrT (mTru (mCall (c 10) (mCons (mVar 4) mNil))) (mTb (mBin pNe (mToldN tc_108 (kkE tm_108) (mMake 0 (c 18) (mCons (mVar 4) mNil))) (mVar 5)))) (mRet (mC (.bl false))) mPass)
  (mFor (mSrc (mLst (mCons (mTup (mCons (mC (.str [106, 111, 105, 110])) (mCons (mC (.str [102])) (mCons (mTup (mCons (mVar 3) (mCons (mVar 4) mNil))) mNil)))) (mCons (mTup (mCons (mC (.str [98, 105, 110, 100])) (mCons (mC (.str [120])) (mCons (mTup (mCons (mVar 4) mNil)) (mCons (mVar 3) mNil))))) (mCons (mTup (mCons (mC (.str [98, 105, 110, 100])) (mCons (mC (.str [120])) (mCons (mTup mNil) (mCons (mVar 4) mNil))))) mNil))))) (gSet 6) (mSeq (mIfS (mTru (mCall (c 10) (mCons (mVar 6) mNil))) (mRet (mC (.bl false))) mPass)
  (mIfS (mTb (mBin pNe (mToldN tc_108 (kkE tm_108) (mMake 0 (c 18) (mCons (mVar 6) mNil))) (mLst (mCons (mC (.str [116, 101, 114, 109])) (mCons (mApp pReprA (mCons (mVar 6) mNil)) (mCons (mC (.bl true)) mNil)))))) (mRet (mC (.bl false))) mPass))))))
  (mFor (mSrc (mLst (mCons (mC .non) (mCons (mC (.str [120])) (mCons (mLst (mCons (mC .non) mNil)) (mCons (mLst (mCons (mC (.str [88])) mNil)) (mCons (mTup (mCons (mC (.str [120])) (mCons (mC (.int 5)) mNil))) (mCons (mDisp [[120]] (mCons (mC (.int 1)) mNil)) (mCons (mC (.int 5)) mNil))))))))) (gSet 4) (mIfS (mTb (mBin pNe (mToldN tc_108 (kkE tm_108) (mCall (c 11) (mCons (mVar 4) mNil))) (mLst (mCons (mC (.str [110, 97, 109, 101, 115])) (mCons (mApp pReprA (mCons (mVar 4) mNil)) (mCons (mC (.bl true)) mNil)))))) (mRet (mC (.bl false))) mPass))))))
  (mRet (mC (.bl true)))))
def b_102 (c : CT) : MS :=
  (mSeq (mFor (mSrc (mVar 0)) (gSet 1) (mIfS (mOrT (mNotT (mTru (mUn (pIsi 1 [3]) (mVar 1)))) (mNotT (mTb (mChain pLt pLe (mC (.int 0)) (mApp pLen (mCons (mVar 1) mNil)) (mC (.int 8)))))) (mRet (mC (.bl false))) mPass))
  (mRet (mOrV (mBin pEq (mApp pLen (mCons (mVar 0) mNil)) (mC (.int 0))) (mCall (c 103) (mCons (mMethS pJoin (mC (.str [])) (mCons (mVar 0) mNil)) mNil)))))
def b_103 (c : CT) : MS :=
  (mRet (mAndV (mUn (pStrT Txt.isalpha) (mVar 0)) (mAndV (mUn (pStrT Txt.islower) (mVar 0)) (mUn (pStrT Txt.isascii) (mVar 0)))))
def b_104 (c : CT) : MS :=
  (mSeq (mSet 1 (mLst mNil))
  (mSeq (mSet 2 (mLst mNil))
  (mSeq (mSet 3 (mLst (mCons (mVar 0) mNil)))
  (mSeq (mWhile (mTru (mVar 3)) (mSeq (mSet 4 (mMethL0 pPop (mVar 3)))
  (mSeq (mIfS (mNotT (mTru (mUn (pIsi 1 [4]) (mVar 4)))) (mRet (mLst mNil)) mPass)
  (mSeq (mIfS (mTb (mBin pEq (mApp pLen (mCons (mVar 4) mNil)) (mC (.int 2)))) (mSeq (mAsg (gTupM [(gSet 5), (gSet 6)]) (mVar 4))
  (mIfS (mOrT (mNotT (mTru (mUn (pIsi 1 [3]) (mVar 5)))) (mTb (mBin pNe (mVar 5) (mC (.str [117, 115, 101]))))) (mRet (mLst mNil)) mPass)) (mIfS (mTb (mBin pEq (mApp pLen (mCons (mVar 4) mNil)) (mC (.int 3)))) (mSeq (mAsg (gTupM [(gSet 5), (gSet 6), (gSet 7)]) (mVar 4))
  (mSeq (mIfS (mOrT (mNotT (mTru (mUn (pIsi 1 [3]) (mVar 5)))) (mOrT (mTb (mBin pNe (mVar 5) (mC (.str [106, 111, 105, 110])))) (mNotT (mTru (mUn (pIsi 1 [4]) (mVar 7)))))) (mRet (mLst mNil)) mPass)
  (mDrop (mMethL pExtendA (mVar 3) (mCons (mUn pRevT (mVar 7)) mNil))))) (mIfS (mTb (mBin pEq (mApp pLen (mCons (mVar 4) mNil)) (mC (.int 4)))) (mSeq (mAsg (gTupM [(gSet 5), (gSet 6), (gSet 8), (gSet 9)]) (mVar 4))
  (mSeq (mIfS (mOrT (mNotT (mTru (mUn (pIsi 1 [3]) (mVar 5)))) (mOrT (mTb (mBin pNe (mVar 5) (mC (.str [98, 105, 110, 100])))) (mNotT (mTru (mUn (pIsi 1 [4]) (mVar 8)))))) (mRet (mLst mNil)) mPass)
  (mSeq (mDrop (mMethL pAppend (mVar 3) (mCons (mVar 9) mNil)))
  (mDrop (mMethL pExtendA (mVar 3) (mCons (mUn pRevT (mVar 8)) mNil)))))) (mRet (mLst mNil)))))
  (mSeq (mDrop (mMethL pAppend (mVar 1) (mCons (mVar 4) mNil)))
  (mDrop (mMethL pAppend (mVar 2) (mCons (mVar 6) mNil))))))))
  (mSeq (mIfS (mTru (mCall (c 102) (mCons (mVar 2) mNil))) (mRet (mVar 1)) mPass)
  (mRet (mLst mNil)))))))
def b_105 (c : CT) : MS :=
  (mSeq (mIfS (mTb (mBin pGt (mApp pLen (mCons (mVar 0) mNil)) (mC (.int 400)))) (mRet (mC (.int 400))) mPass)
  (mSeq (mIfS (mAndT (mTb (mBin pGt (mApp pLen (mCons (mVar 0) mNil)) (mC (.int 60)))) (mTb (mBin pGt (mApp pLen (mCons (mCall (c 16) (mCons (mC (.str [98, 105, 110, 100])) (mCons (mVar 0) mNil))) mNil)) (mC (.int 60))))) (mRet (mC (.int 60))) mPass)
  (mSeq (mIfS (mAndT (mTb (mBin pGt (mApp pLen (mCons (mVar 0) mNil)) (mC (.int 100)))) (mTb (mBin pGt (mCall (c 17) (mCons (mBin pIdx (mVar 0) (mC (.int 0))) mNil)) (mC (.int 100))))) (mRet (mC (.int 100))) mPass)
  (mRet (mC .non)))))
def b_109 (c : CT) : MS :=
  (mSeq (mSet 1 (mLst (mCons (mC .non) (mCons (mC (.int 5)) (mCons (mC (.str [120])) (mCons (mTup mNil) (mCons (mTup (mCons (mC (.str [117, 115, 101])) mNil)) (mCons (mTup (mCons (mC (.str [117, 115, 101])) (mCons (mC (.str [88])) mNil))) (mCons (mTup (mCons (mC (.str [117, 115, 101])) (mCons (mC (.str [])) mNil))) (mCons (mTup (mCons (mC (.str [117, 115, 101])) (mCons (mC (.str [97, 98, 99, 100, 101, 102, 103, 104, 105])) mNil))) (mCons (mTup (mCons (mC (.str [117, 115, 101])) (mCons (mC (.int 5)) mNil))) mNil)))))))))))
  (mSeq (mSet 1 (mBin pAdd (mVar 1) (mLst (mCons (mLst (mCons (mC (.str [117, 115, 101])) (mCons (mC (.str [120])) mNil))) (mCons (mTup (mCons (mC (.str [117, 115, 101])) (mCons (mC (.str [120])) (mCons (mTup mNil) mNil)))) (mCons (mTup (mCons (mC (.str [106, 111, 105, 110])) (mCons (mC (.str [102])) mNil))) (mCons (mTup (mCons (mC (.str [106, 111, 105, 110])) (mCons (mC (.str [102])) (mCons (mLst (mCons (mVar 0) mNil)) mNil)))) (mCons (mTup (mCons (mC (.str [106, 111, 105, 110])) (mCons (mC (.int 5)) (mCons (mTup mNil) mNil)))) mNil))))))))
  (mSeq (mSet 1 (mBin pAdd (mVar 1) (mLst (mCons (mTup (mCons (mC (.str [106, 111, 105, 110])) (mCons (mC (.str [102])) (mCons (mTup (mCons (mVar 0) mNil)) (mCons (mVar 0) mNil))))) (mCons (mTup (mCons (mC (.str [106, 111, 105, 110])) (mCons (mC (.str [102])) (mCons (mVar 0) mNil)))) (mCons (mTup (mCons (mC (.str [98, 105, 110, 100])) (mCons (mC (.str [120])) (mCons (mVar 0) mNil)))) (mCons (mTup (mCons (mC (.str [98, 105, 110, 100])) (mCons (mC (.str [120])) (mCons (mTup mNil) (mCons (mTup mNil) mNil))))) mNil)))))))
  (mSeq (mSet 1 (mBin pAdd (mVar 1) (mLst (mCons (mTup (mCons (mC (.str [98, 105, 110, 100])) (mCons (mC (.str [120])) (mCons (mLst (mCons (mVar 0) mNil)) (mCons (mVar 0) mNil))))) (mCons (mTup (mCons (mC (.str [98, 105, 110, 100])) (mCons (mC (.str [88])) (mCons (mTup mNil) (mCons (mVar 0) mNil))))) (mCons (mTup (mCons (mC (.str [85, 115, 101])) (mCons (mC (.str [120])) mNil))) (mCons (mTup (mCons (mC (.str [98, 105, 110, 100])) (mCons (mC (.str [120])) (mCons (mVar 0) (mCons (mVar 0) mNil))))) mNil)))))))
  (mRet (mBin pAdd (mVar 1) (mLst (mCons (mTup (mCons (mC (.str [98, 105, 110, 100])) (mCons (mC .non) (mCons (mTup mNil) (mCons (mVar 0) mNil))))) (mCons (mTup (mCons (mC .non) (mCons (mC (.str [120])) mNil))) (mCons (mDisp [[117, 115, 101]] (mCons (mC (.str [120])) mNil)) (mCons (mTup (mCons (mC (.str [98, 105, 110, 100])) (mCons (mC (.str [120])) (mCons (mTup mNil) (mCons (mVar 0) (mCons (mTup mNil) mNil)))))) mNil)))))))))))
def b_110 (c : CT) : MS :=
  (mSeq (mSet 2 (mBin pMulA (mLst (mCons (mTup (mCons (mC (.str [98, 105, 110, 100])) (mCons (mC (.str [120])) (mCons (mTup mNil) (mCons (mTup (mCons (mC (.str [117, 115, 101])) (mCons (mC (.str [120])) mNil))) mNil))))) mNil)) (mVar 1)))
  (mRet (mTup (mCons (mC (.str [106, 111, 105, 110])) (mCons (mC (.str [102])) (mCons (mApp pTuple (mCons (mBin pAdd (mVar 2) (mBin pMulA (mLst (mCons (mTup (mCons (mC (.str [117, 115, 101])) (mCons (mC (.str [120])) mNil))) mNil)) (mBin pSub (mBin pSub (mVar 0) (mC (.int 1))) (mBin pMulA (mC (.int 2)) (mVar 1))))) mNil)) mNil))))))
def b_111 (c : CT) : MS :=
  (mSeq (mSet 2 (mVar 1))
  (mSeq (mFor (mRng1 (mCons (mBin pSub (mVar 0) (mC (.int 1))) mNil)) (gSet 3) (mSet 2 (mTup (mCons (mC (.str [106, 111, 105, 110])) (mCons (mC (.str [102])) (mCons (mTup (mCons (mVar 2) mNil)) mNil))))))
  (mRet (mVar 2))))
def b_112 (c q : CT) : MS :=
  (mSeq (mFor (mSrc (mLst (mCons (mCall (c 110) (mCons (mC (.int 400)) (mCons (mC (.int 60)) mNil))) (mCons (mCall (c 111) (mCons (mC (.int 100)) (mCons (mTup (mCons (mC (.str [117, 115, 101])) (mCons (mC (.str [120])) mNil))) mNil))) mNil)))) (gSet 0) (mIfS (mOrT (mTb (mBin (pIs true) (mToldN tc_108 (kkE tm_108) (mMake 0 (c 18) (mCons (mVar 0) mNil))) (mC .non))) (mTb (mBin (pIs true) (mCall (c 10) (mCons (mVar 0) mNil)) (mC (.bl true))))) (mRet (mC (.bl false))) mPass))
  (mSeq (mIfS (mTb (mBin pNe (mToldN tc_108 (kkE tm_108) (mMake 0 (c 18) (mCons (mCall (c 110) (mCons (mC (.int 401)) (mCons (mC (.int 61)) mNil))) mNil))) (mLst (mCons (mC (.str [109, 97, 110, 121])) (mCons (mC (.int 400)) (mCons (mC (.bl false)) mNil)))))) (mRet (mC (.bl false))) mPass)
  (mSeq (mIfS (mTb (mBin (pIs true) (mCall (c 10) (mCons (mCall (c 110) (mCons (mC (.int 401)) (mCons (mC (.int 61)) mNil))) mNil)) (mC (.bl true)))) (mRet (mC (.bl false))) mPass)
  (mSeq (mIfS (mTb (mBin pNe (mToldN tc_108 (kkE tm_108) (mMake 0 (c 18) (mCons (mCall (c 110) (mCons (mC (.int 400)) (mCons (mC (.int 61)) mNil))) mNil))) (mLst (mCons (mC (.str [109, 97, 110, 121])) (mCons (mC (.int 60)) (mCons (mC (.bl false)) mNil)))))) (mRet (mC (.bl false))) mPass)
  (mSeq (mIfS (mTb (mBin pNe (mToldN tc_108 (kkE tm_108) (mMake 0 (c 18) (mCons (mCall (c 111) (mCons (mC (.int 101)) (mCons (mTup (mCons (mC (.str [117, 115, 101])) (mCons (mC (.str [120])) mNil))) mNil))) mNil))) (mLst (mCons (mC (.str [109, 97, 110, 121])) (mCons (mC (.int 100)) (mCons (mC (.bl false)) mNil)))))) (mRet (mC (.bl false))) mPass)
  (mRet (mBin pEq (mToldN tc_108 (kkE tm_108) (mMake 0 (c 18) (mCons (mCall (c 111) (mCons (mC (.int 101)) (mCons (mCall (c 110) (mCons (mC (.int 200)) (mCons (mC (.int 61)) mNil))) mNil))) mNil))) (mLst (mCons (mC (.str [109, 97, 110, 121])) (mCons (mC (.int 60)) (mCons (mC (.bl false)) mNil)))))))))))
def b_113 (c : CT) : MS :=
  (mSeq (mFor (mSrc (mLst (mCons (mC (.str [97])) (mCons (mC (.str [97, 98, 99, 100, 101, 102, 103, 104])) (mCons (mC (.str [117, 115, 101])) (mCons (mC (.str [122, 122])) mNil)))))) (gSet 0) (mIfS (mOrT (mTb (mBin (pIs true) (mCall (c 7) (mCons (mVar 0) mNil)) (mC (.bl true)))) (mTb (mBin (pIs true) (mCall (c 10) (mCons (mTup (mCons (mC (.str [117, 115, 101])) (mCons (mVar 0) mNil))) mNil)) (mC (.bl true))))) (mRet (mC (.bl false))) mPass))
  (mSeq (mFor (mSrc (mLst (mCons (mC .non) (mCons (mC (.int 5)) (mCons (mC (.str [])) (mCons (mC (.str [65])) (mCons (mC (.str [97, 66])) (mCons (mC (.str [97, 98, 99, 100, 101, 102, 103, 104, 105])) (mCons (mC (.str [97, 49])) (mCons (mC (.str [97, 32, 98])) (mCons (mC (.str [97, 10])) (mCons (mLst (mCons (mC (.str [97])) mNil)) (mCons (mC (.bl true)) (mCons (mTup (mCons (mC (.str [97])) mNil)) mNil)))))))))))))) (gSet 1) (mIfS (mOrT (mTb (mBin (pIs true) (mCall (c 7) (mCons (mVar 1) mNil)) (mC (.bl false)))) (mTb (mBin (pIs true) (mCall (c 10) (mCons (mTup (mCons (mC (.str [117, 115, 101])) (mCons (mVar 1) mNil))) mNil)) (mC (.bl false))))) (mRet (mC (.bl false))) mPass))
  (mRet (mC (.bl true)))))
def bod (c : CT) : CT := fun j => match j with
  | 7 => mBody 1 1 (b_7 c)
  | 10 => mBody 1 1 (b_10 c)
  | 11 => mBody 1 1 (b_11 c)
  | 13 => mBody 1 1 (b_13 c)
  | 14 => mBody 1 3 (b_14 c)
  | 16 => mBody 2 4 (b_16 c)
  | 17 => mBody 1 3 (b_17 c)
  | 18 => mBody 2 4 (b_18 c)
  | 55 => mBody 2 5 (b_55 c)
  | 56 => mBody 2 3 (b_56 c)
  | 57 => mBody 2 2 (b_57 c)
  | 59 => mBody 1 2 (b_59 c)
  | 60 => mBody 2 2 (b_60 c)
  | 61 => mBody 3 7 (b_61 c)
  | 62 => mBody 3 7 (b_62 c)
  | 63 => mBody 3 9 (b_63 c)
  | 64 => mBody 3 8 (b_64 c)
  | 102 => mBody 1 2 (b_102 c)
  | 103 => mBody 1 1 (b_103 c)
  | 104 => mBody 1 10 (b_104 c)
  | 105 => mBody 1 1 (b_105 c)
  | 109 => mBody 1 2 (b_109 c)
  | 110 => mBody 2 3 (b_110 c)
  | 111 => mBody 2 4 (b_111 c)
  | 113 => mBody 0 2 (b_113 c)
  | _ => fun _ _ => .no
def cl : Nat → CT
  | 0 => fun _ _ _ => .no
  | m + 1 => bod (cl m)
def qbod (c q : CT) : CT := fun j => match j with
  | 112 => mBody 0 1 (b_112 c q)
  | _ => fun _ _ => .no
def clq : Nat → CT
  | 0 => fun _ _ _ => .no
  | m + 1 => qbod (cl m) (clq m)
structure Txt (K : PySem.W.Frag) (w : World) (mg : Str → Option Value) (ga : Nat → Addr) (Tb : List (Addr × Str)) (fa : Nat → Addr) (fd : Nat → FuncData) : Prop where
  u7 : Fun K "is_name" "is_name" st_7 (fa 7) (fd 7)
  m7 : mg "is_name" = some (.ref (fa 7))
  b7 : Binds K (fd 7) ["value"] []
  u10 : Fun K "is_tree" "is_tree" st_10 (fa 10) (fd 10)
  m10 : mg "is_tree" = some (.ref (fa 10))
  b10 : Binds K (fd 10) ["value"] []
  u11 : Fun K "in_order" "in_order" st_11 (fa 11) (fd 11)
  m11 : mg "in_order" = some (.ref (fa 11))
  b11 : Binds K (fd 11) ["names"] []
  u13 : Fun K "trees_below" "trees_below" st_13 (fa 13) (fd 13)
  m13 : mg "trees_below" = some (.ref (fa 13))
  b13 : Binds K (fd 13) ["node"] []
  u14 : Fun K "row_below" "row_below" st_14 (fa 14) (fd 14)
  m14 : mg "row_below" = some (.ref (fa 14))
  b14 : Binds K (fd 14) ["row"] []
  u16 : Fun K "numbers_of" "numbers_of" st_16 (fa 16) (fd 16)
  m16 : mg "numbers_of" = some (.ref (fa 16))
  b16 : Binds K (fd 16) ["kind", "nodes"] []
  u17 : Fun K "depth_of" "depth_of" st_17 (fa 17) (fd 17)
  m17 : mg "depth_of" = some (.ref (fa 17))
  b17 : Binds K (fd 17) ["tree"] []
  u18 : Fun K "__init__" "Term.__init__" st_18 (fa 18) (fd 18)
  b18 : Binds K (fd 18) ["self", "tree"] []
  u55 : Fun K "_law_pool" "_law_pool" st_55 (fa 55) (fd 55)
  m55 : mg "_law_pool" = some (.ref (fa 55))
  b55 : Binds K (fd 55) ["_law_script", "_law_k"] []
  u56 : Fun K "_law_take" "_law_take" st_56 (fa 56) (fd 56)
  m56 : mg "_law_take" = some (.ref (fa 56))
  b56 : Binds K (fd 56) ["_law_source", "_law_top"] []
  u57 : Fun K "_law_one" "_law_one" st_57 (fa 57) (fd 57)
  m57 : mg "_law_one" = some (.ref (fa 57))
  b57 : Binds K (fd 57) ["_law_source", "_law_things"] []
  u59 : Fun K "_law_words" "_law_words" st_59 (fa 59) (fd 59)
  m59 : mg "_law_words" = some (.ref (fa 59))
  b59 : Binds K (fd 59) ["_law_source"] []
  u60 : Fun K "_law_leaf" "_law_leaf" st_60 (fa 60) (fd 60)
  m60 : mg "_law_leaf" = some (.ref (fa 60))
  b60 : Binds K (fd 60) ["_law_source", "_law_words_here"] []
  u61 : Fun K "_law_grown" "_law_grown" st_61 (fa 61) (fd 61)
  m61 : mg "_law_grown" = some (.ref (fa 61))
  b61 : Binds K (fd 61) ["_law_source", "_law_words_here", "_law_room"] []
  u62 : Fun K "_law_bound" "_law_bound" st_62 (fa 62) (fd 62)
  m62 : mg "_law_bound" = some (.ref (fa 62))
  b62 : Binds K (fd 62) ["_law_source", "_law_words_here", "_law_room"] []
  u63 : Fun K "_law_nested" "_law_nested" st_63 (fa 63) (fd 63)
  m63 : mg "_law_nested" = some (.ref (fa 63))
  b63 : Binds K (fd 63) ["_law_source", "_law_words_here", "_law_deep"] []
  u64 : Fun K "_law_tree" "_law_tree" st_64 (fa 64) (fd 64)
  m64 : mg "_law_tree" = some (.ref (fa 64))
  b64 : Binds K (fd 64) ["_law_source", "_law_most_nodes", "_law_most_binders"] []
  u76 : Fun K "law" "law" st_76 (fa 76) (fd 76)
  m76 : mg "law" = some (.ref (fa 76))
  b76 : Binds K (fd 76) ["_law_script"] []
  u102 : Fun K "are_all_names" "are_all_names" st_102 (fa 102) (fd 102)
  m102 : mg "are_all_names" = some (.ref (fa 102))
  b102 : Binds K (fd 102) ["values"] []
  u103 : Fun K "are_letters" "are_letters" st_103 (fa 103) (fd 103)
  m103 : mg "are_letters" = some (.ref (fa 103))
  b103 : Binds K (fd 103) ["text"] []
  u104 : Fun K "nodes_if_tree" "nodes_if_tree" st_104 (fa 104) (fd 104)
  m104 : mg "nodes_if_tree" = some (.ref (fa 104))
  b104 : Binds K (fd 104) ["value"] []
  u105 : Fun K "limit_broken" "limit_broken" st_105 (fa 105) (fd 105)
  m105 : mg "limit_broken" = some (.ref (fa 105))
  b105 : Binds K (fd 105) ["nodes"] []
  u109 : Fun K "_law_odd" "_law_odd" st_109 (fa 109) (fd 109)
  m109 : mg "_law_odd" = some (.ref (fa 109))
  b109 : Binds K (fd 109) ["_law_tree_here"] []
  u110 : Fun K "_law_many" "_law_many" st_110 (fa 110) (fd 110)
  m110 : mg "_law_many" = some (.ref (fa 110))
  b110 : Binds K (fd 110) ["_law_nodes", "_law_binders"] []
  u111 : Fun K "_law_tall" "_law_tall" st_111 (fa 111) (fd 111)
  m111 : mg "_law_tall" = some (.ref (fa 111))
  b111 : Binds K (fd 111) ["_law_deep", "_law_inner"] []
  u112 : Fun K "_law_limits_right" "_law_limits_right" st_112 (fa 112) (fd 112)
  m112 : mg "_law_limits_right" = some (.ref (fa 112))
  b112 : Binds K (fd 112) [] []
  u113 : Fun K "_law_names_right" "_law_names_right" st_113 (fa 113) (fd 113)
  m113 : mg "_law_names_right" = some (.ref (fa 113))
  b113 : Binds K (fd 113) [] []
  u2 : Fun K "__init__" "NoTerm.__init__" st_2 (fa 2) (fd 2)
  b2 : Binds K (fd 2) ["self", "told"] []
  u5 : Fun K "__init__" "NoNames.__init__" st_5 (fa 5) (fd 5)
  b5 : Binds K (fd 5) ["self", "names"] []
  u6 : Fun K "__init__" "TooMany.__init__" st_6 (fa 6) (fd 6)
  b6 : Binds K (fd 6) ["self", "most"] []
  u108 : Fun K "_law_tried" "_law_tried" st_108 (fa 108) (fd 108)
  m108 : mg "_law_tried" = some (.ref (fa 108))
  b108 : Binds K (fd 108) ["_law_function"] []
  z_ValueError : mg "ValueError" = none
  z_enumerate : mg "enumerate" = none
  z_int : mg "int" = none
  z_isinstance : mg "isinstance" = none
  z_len : mg "len" = none
  z_list : mg "list" = none
  z_max : mg "max" = none
  z_min : mg "min" = none
  z_range : mg "range" = none
  z_repr : mg "repr" = none
  z_set : mg "set" = none
  z_sorted : mg "sorted" = none
  z_str : mg "str" = none
  z_tuple : mg "tuple" = none
  g_LONGEST_NAME : ∃ t, mg "LONGEST_NAME" = some (.int 8 t)
  g_MOST_BINDERS : ∃ t, mg "MOST_BINDERS" = some (.int 60 t)
  g_MOST_NODES : ∃ t, mg "MOST_NODES" = some (.int 400 t)
  g_MOST_ON_A_WAY : ∃ t, mg "MOST_ON_A_WAY" = some (.int 100 t)
  g_BinderError : mg "BinderError" = some (.ref (ga 26))
  g_NoNames : mg "NoNames" = some (.ref (ga 23))
  g_NoTerm : mg "NoTerm" = some (.ref (ga 20))
  g_Term : mg "Term" = some (.ref (ga 0))
  g_TooMany : mg "TooMany" = some (.ref (ga 24))
  kt_list : ∀ j, j < 8 → PySem.W.kitOne K (kdV (GG K ga Tb) j) (.type "list") = some (([5] : List Nat).contains j)
  kt_str : ∀ j, j < 8 → PySem.W.kitOne K (kdV (GG K ga Tb) j) (.type "str") = some (([3] : List Nat).contains j)
  kt_tuple : ∀ j, j < 8 → PySem.W.kitOne K (kdV (GG K ga Tb) j) (.type "tuple") = some (([4] : List Nat).contains j)
  kn : Kinds (GG K ga Tb) 1
  yi20 : ExI (GG K ga Tb) 20
  yi24 : ExI (GG K ga Tb) 24
  xk20_BinderError : PySem.W.kitOne K (.ref (ga 20)) (.ref (ga 26)) = some true
  xk20_ValueError : PySem.W.kitOne K (.ref (ga 20)) (.type "ValueError") = some true
  xk24_BinderError : PySem.W.kitOne K (.ref (ga 24)) (.ref (ga 26)) = some false
  xn23_20 : PySem.W.exmOne K (.ref (ga 23)) (.ref (ga 20)) = some false
  xn24_23 : PySem.W.exmOne K (.ref (ga 24)) (.ref (ga 23)) = some false
  xn24_20 : PySem.W.exmOne K (.ref (ga 24)) (.ref (ga 20)) = some false
  f2 : ∀ c ∈ ([0] : List Nat), ClsF (GG K ga Tb) c "_found"
  f1 : ∀ c ∈ ([0] : List Nat), ClsF (GG K ga Tb) c "_nodes"
  f0 : ∀ c ∈ ([0] : List Nat), ClsF (GG K ga Tb) c "_tree"
  mk0 : Mk K (ga 0) (fa 18)
  o23 : Oex (GG K ga Tb) 23 (fa 5)
  on23 : PySem.W.findIn K (.ref (ga 23)) "names" = some none
  x23 : ExF (GG K ga Tb) 23
  xm23 : PySem.W.exmOne K (.ref (ga 23)) (.ref (ga 23)) = some true
  o20 : Oex (GG K ga Tb) 20 (fa 2)
  on20 : PySem.W.findIn K (.ref (ga 20)) "told" = some none
  x20 : ExF (GG K ga Tb) 20
  xm20 : PySem.W.exmOne K (.ref (ga 20)) (.ref (ga 20)) = some true
  o24 : OexV (GG K ga Tb) 24 (fa 6)
  on24 : PySem.W.findIn K (.ref (ga 24)) "most" = some none
  x24 : ExF (GG K ga Tb) 24
  xm24 : PySem.W.exmOne K (.ref (ga 24)) (.ref (ga 24)) = some true
def lamq_76 : Str := (envOfC "law" (defScope st_76) 0 0 .none).qual ++ "<lambda>"
def lamq_112 : Str := (envOfC "_law_limits_right" (defScope st_112) 0 0 .none).qual ++ "<lambda>"
structure Lt (base : Heap) (mg : Str → Option Value) (Tb : List (Addr × Str)) (fd : Nat → FuncData) : Prop where
  tt : True
  c_76 : LamT base mg Tb (fd 76).code lamq_76
  c_112 : LamT base mg Tb (fd 112).code lamq_112
section
variable {P : Program} {w : World} {K : PySem.W.Frag} {mg : Str → Option Value} {base : Heap} {ga : Nat → Addr} {Tb : List (Addr × Str)} {fa : Nat → Addr} {fd : Nat → FuncData} {m : Nat} {c q : CT}
theorem oi_23 (T : Txt K w mg ga Tb fa fd) {k : Nat} : FnOk P w K mg base (L2.CX P w) (k + 1) (fa 5) (fd 5) (psn 5) (spI (ga 23) "names") :=
  oex_init T.o23.T T.on23 T.u5 sc_5 rfl (.inl rfl) (.inl rfl) (by decide) (by decide) (by decide) (by decide) (fun _ => rfl)
theorem oi_20 (T : Txt K w mg ga Tb fa fd) {k : Nat} : FnOk P w K mg base (L2.CX P w) (k + 1) (fa 2) (fd 2) (psn 2) (spI (ga 20) "told") :=
  oex_init T.o20.T T.on20 T.u2 sc_2 rfl (.inl rfl) (.inl rfl) (by decide) (by decide) (by decide) (by decide) (fun _ => rfl)
theorem oi_24 (T : Txt K w mg ga Tb fa fd) {k : Nat} : FnOk P w K mg base (L2.CX P w) (k + 1) (fa 6) (fd 6) (psn 6) (spI (ga 24) "most") :=
  oex_initO T.o24.T T.on24 T.u6 sc_6 rfl (.inl rfl) (.inl rfl) (by decide) (by decide) (by decide) (by decide) (fun _ => rfl)
theorem tg_108 (T : Txt K w mg ga Tb fa fd) {X : Cx} (hK : X.K = K) (hM : X.mg = mg) (hgd : X.A.guards = some []) {k : Nat} (hr : Room (k + 1) X.A) {cdg : Value} {q : Str} : LamX.GivesTo X nm_108 "_law_tried" (defScope st_108) (fa 108) cdg (defBody st_108) "_law_function" q (TTN (GG K ga Tb) tc_108 (fun Q _ H2 => ∃ r h, Sim (GG K ga Tb) r H2 h ∧ PostS (GG K ga Tb) (fun _ _ _ _ => False) { nx := fun _ H3 => Q .non H3, rt := Q } r H2 (tm_108 [none, none] h))) :=
  told_E hK sc_108.nd rfl rfl (fun _ _ => rfl) (fun s H => .cons ⟨rfl, rfl, .inl (hM ▸ T.g_NoTerm)⟩ (sxb_lst (sxs_cons (sx_str [116, 101, 114, 109]) (sxs_cons (sx_reprA hK hgd (hu200 (Room.deeper hr _)) (sx_fld hK T.x20 rfl) (hM ▸ T.z_repr)) (sxs_cons (sx_and (sx_isi hK T.yi20 (fun _ _ _ => cls_own rfl (hM ▸ T.g_BinderError)) (.own _) T.xk20_BinderError (hM ▸ T.z_isinstance)) (sx_isi hK T.yi20 (fun _ _ _ => cls_ty rfl (hM ▸ T.z_ValueError) (by decide +kernel)) (.ty "ValueError") T.xk20_ValueError (hM ▸ T.z_isinstance))) sxs_nil)))) T.xm20 (List.forall_mem_cons.mpr ⟨T.xn23_20, List.forall_mem_cons.mpr ⟨T.xn24_20, List.forall_mem_nil _⟩⟩)
      (.cons ⟨rfl, rfl, .inl (hM ▸ T.g_NoNames)⟩ (sxb_lst (sxs_cons (sx_str [110, 97, 109, 101, 115]) (sxs_cons (sx_reprA hK hgd (hu200 (Room.deeper hr _)) (sx_fld hK T.x23 rfl) (hM ▸ T.z_repr)) (sxs_cons sx_bl sxs_nil)))) T.xm23 (List.forall_mem_cons.mpr ⟨T.xn24_23, List.forall_mem_nil _⟩)
      (.cons ⟨rfl, rfl, .inl (hM ▸ T.g_TooMany)⟩ (sxb_lst (sxs_cons (sx_str [109, 97, 110, 121]) (sxs_cons (sx_fld hK T.x24 rfl) (sxs_cons (sx_isi hK T.yi24 (fun _ _ _ => cls_own rfl (hM ▸ T.g_BinderError)) (.own _) T.xk24_BinderError (hM ▸ T.z_isinstance)) sxs_nil)))) T.xm24 (List.forall_mem_nil _)
      (.nil))))
    (fun s H => (sss_one (ss_ret se_non))) (fun _ _ => rfl)
theorem ok_7 (T : Txt K w mg ga Tb fa fd) (hc : ∀ j, FnOk P w K mg base (L2.CX P w) (4 * m) (fa j) (fd j) (psn j) (spM (GG K ga Tb) (c j))) : FnOk P w K mg base (L2.CX P w) (4 * m + 4) (fa 7) (fd 7) (psn 7) (spM (GG K ga Tb) (mBody 1 1 (b_7 c))) :=
  fn_ok T.u7 sc_7 fun cdv A outer s H E hr =>
  (sss_one (ss_ret (se_and rfl (se_isi (ks := [3]) T.kn rfl (cls_ty rfl T.z_str (by decide +kernel)) (.ty "str") T.kt_str (se_var 0) rfl T.z_isinstance) (se_and rfl (e_le (e_len rfl T.z_len (se_var 0)) (se_globI T.g_LONGEST_NAME)) (se_one (se_call ((hc 103).mono (by omega)) hr (takes_of rfl rfl rfl rfl) T.m103 T.u103.kp T.b103 (sa_cons (se_var 0) sa_nil)))))))
theorem ok_10 (T : Txt K w mg ga Tb fa fd) (hc : ∀ j, FnOk P w K mg base (L2.CX P w) (4 * m) (fa j) (fd j) (psn j) (spM (GG K ga Tb) (c j))) : FnOk P w K mg base (L2.CX P w) (4 * m + 4) (fa 10) (fd 10) (psn 10) (spM (GG K ga Tb) (mBody 1 1 (b_10 c))) :=
  fn_ok T.u10 sc_10 fun cdv A outer s H E hr =>
  (sss_one (ss_ret (e_gt (e_len rfl T.z_len (se_call ((hc 104).mono (by omega)) hr (takes_of rfl rfl rfl rfl) T.m104 T.u104.kp T.b104 (sa_cons (se_var 0) sa_nil))) se_int)))
theorem ok_11 (T : Txt K w mg ga Tb fa fd) (hc : ∀ j, FnOk P w K mg base (L2.CX P w) (4 * m) (fa j) (fd j) (psn j) (spM (GG K ga Tb) (c j))) : FnOk P w K mg base (L2.CX P w) (4 * m + 4) (fa 11) (fd 11) (psn 11) (spM (GG K ga Tb) (mBody 1 1 (b_11 c))) :=
  fn_ok T.u11 sc_11 fun cdv A outer s H E hr =>
  (sss_cons (ss_if (SW.st (sw_or (st_not (st_val rfl (se_isiT (ks := [5, 4]) T.kn rfl (ca_cons (cls_ty rfl T.z_list (by decide +kernel)) (.ty "list") (ca_cons (cls_ty rfl T.z_tuple (by decide +kernel)) (.ty "tuple") ca_nil)) (by decide) (kta_cons T.kt_list (kta_cons T.kt_tuple kta_nil)) (se_var 0) rfl T.z_isinstance))) (sw_or1 (st_not (st_val rfl (se_call ((hc 102).mono (by omega)) hr (takes_of rfl rfl rfl rfl) T.m102 T.u102.kp T.b102 (sa_cons (se_var 0) sa_nil))))))) (sss_one (ss_raise (c := 23) rfl rfl (takes_of rfl rfl rfl rfl) T.o23 (oi_23 T (k := 0)) (Room.mono hr (by omega)) T.b5 T.g_NoNames (se_var 0))) sss_nil)
  (sss_one (ss_ret (se_sortLen rfl hr T.z_sorted T.z_len (se_sortSet rfl rfl hr T.z_sorted T.z_set (se_var 0))))))
theorem ok_13 (T : Txt K w mg ga Tb fa fd) (hc : ∀ j, FnOk P w K mg base (L2.CX P w) (4 * m) (fa j) (fd j) (psn j) (spM (GG K ga Tb) (c j))) : FnOk P w K mg base (L2.CX P w) (4 * m + 4) (fa 13) (fd 13) (psn 13) (spM (GG K ga Tb) (mBody 1 1 (b_13 c))) :=
  fn_ok T.u13 sc_13 fun cdv A outer s H E hr =>
  (sss_cons (ss_if (t_eq rfl hr (e_ix rfl (se_var 0) se_int) (se_str [117, 115, 101])) (sss_one (ss_ret (se_tup sa_nil))) sss_nil)
  (sss_cons (ss_if (t_eq rfl hr (e_ix rfl (se_var 0) se_int) (se_str [106, 111, 105, 110])) (sss_one (ss_ret (e_ix rfl (se_var 0) se_int))) sss_nil)
  (sss_one (ss_ret (se_tup (sa_star rfl (e_ix rfl (se_var 0) (e_neg se_int)) (sa_cons (e_ix rfl (se_var 0) (e_neg se_int)) sa_nil)))))))
theorem ok_14 (T : Txt K w mg ga Tb fa fd) (hc : ∀ j, FnOk P w K mg base (L2.CX P w) (4 * m) (fa j) (fd j) (psn j) (spM (GG K ga Tb) (c j))) : FnOk P w K mg base (L2.CX P w) (4 * m + 4) (fa 14) (fd 14) (psn 14) (spM (GG K ga Tb) (mBody 1 3 (b_14 c))) :=
  fn_ok T.u14 sc_14 fun cdv A outer s H E hr =>
  (sss_one (ss_ret (se_comp2 [("node", 1), ("tree", 2)] [2] rfl sc_14.nd (si_seq rfl (se_var 0)) (bk_14 (by decide +kernel)) (by decide) (fun s H C cl fp => (sg_more (sg_name 1 sc_14.nd))) (fun s H C cl fp => sts_nil) (fun s H C cl fp => (si_seq rfl (se_call ((hc 13).mono (by omega)) hr takes0 T.m13 T.u13.kp T.b13 (sa_cons (se_var 1) sa_nil)))) (fun s H C cl fp => (sg_name 2 sc_14.nd)) (fun s H C cl fp => sts_nil) (fun s H C cl fp => (se_var 2)))))
theorem ok_16 (T : Txt K w mg ga Tb fa fd) (hc : ∀ j, FnOk P w K mg base (L2.CX P w) (4 * m) (fa j) (fd j) (psn j) (spM (GG K ga Tb) (c j))) : FnOk P w K mg base (L2.CX P w) (4 * m + 4) (fa 16) (fd 16) (psn 16) (spM (GG K ga Tb) (mBody 2 4 (b_16 c))) :=
  fn_ok T.u16 sc_16 fun cdv A outer s H E hr =>
  (sss_one (ss_ret (se_comp [("number", 2), ("node", 3)] rfl sc_16.nd (si_enum rfl T.z_enumerate (sa_cons (se_var 1) sa_nil)) (bk_16 (by decide +kernel)) (fun s H C cl fp => (sg_tup rfl rfl (sgs_cons (sg_name 2 sc_16.nd) (sgs_cons (sg_name 3 sc_16.nd) sgs_nil)))) (fun s H C cl fp => (sts_one (t_eq rfl hr (e_ix rfl (se_var 3) se_int) (se_var 0)))) (fun s H C cl fp => (se_var 2)))))
theorem ok_17 (T : Txt K w mg ga Tb fa fd) (hc : ∀ j, FnOk P w K mg base (L2.CX P w) (4 * m) (fa j) (fd j) (psn j) (spM (GG K ga Tb) (c j))) : FnOk P w K mg base (L2.CX P w) (4 * m + 4) (fa 17) (fd 17) (psn 17) (spM (GG K ga Tb) (mBody 1 3 (b_17 c))) :=
  fn_ok T.u17 sc_17 fun cdv A outer s H E hr =>
  (sss_cons (ss_set 1 sc_17.nd se_int)
  (sss_cons (ss_set 2 sc_17.nd (se_lst (sa_cons (se_var 0) sa_nil)))
  (sss_cons (ss_while (passes_of rfl) (st_val rfl (se_var 2)) (sss_cons (ss_aug 1 sc_17.nd se_int ip_add prim_ipadd)
  (sss_one (ss_set 2 sc_17.nd (se_call ((hc 14).mono (by omega)) hr (takes_of rfl rfl rfl rfl) T.m14 T.u14.kp T.b14 (sa_cons (se_var 2) sa_nil))))))
  (sss_one (ss_ret (se_var 1))))))
theorem ok_18 (T : Txt K w mg ga Tb fa fd) (hc : ∀ j, FnOk P w K mg base (L2.CX P w) (4 * m) (fa j) (fd j) (psn j) (spM (GG K ga Tb) (c j))) : FnOk P w K mg base (L2.CX P w) (4 * m + 4) (fa 18) (fd 18) (psn 18) (spM (GG K ga Tb) (mBody 2 4 (b_18 c))) :=
  fn_ok T.u18 sc_18 fun cdv A outer s H E hr =>
  (sss_cons (ss_set 2 sc_18.nd (se_call ((hc 104).mono (by omega)) hr (takes_of rfl rfl rfl rfl) T.m104 T.u104.kp T.b104 (sa_cons (se_var 1) sa_nil)))
  (sss_cons (ss_if (t_eq rfl hr (e_len rfl T.z_len (se_var 2)) se_int) (sss_one (ss_raise (c := 20) rfl rfl (takes_of rfl rfl rfl rfl) T.o20 (oi_20 T (k := 0)) (Room.mono hr (by omega)) T.b2 T.g_NoTerm (se_var 1))) sss_nil)
  (sss_cons (ss_set 3 sc_18.nd (se_call ((hc 105).mono (by omega)) hr (takes_of rfl rfl rfl rfl) T.m105 T.u105.kp T.b105 (sa_cons (se_var 2) sa_nil)))
  (sss_cons (ss_if (t_isnt (se_var 3) se_non) (sss_one (ss_raiseO (c := 24) rfl rfl (takes_of rfl rfl rfl rfl) T.o24 (oi_24 T (k := 0)) (Room.mono hr (by omega)) T.b6 T.g_TooMany (se_var 3))) sss_nil)
  (sss_cons (ss_fld (cs := [0]) 0 rfl GG_nd rfl T.f0 (se_var 0) (se_var 1))
  (sss_cons (ss_fld (cs := [0]) 1 rfl GG_nd rfl T.f1 (se_var 0) (se_var 2))
  (sss_one (ss_fld (cs := [0]) 2 rfl GG_nd rfl T.f2 (se_var 0) se_dict0))))))))
theorem ok_55 (T : Txt K w mg ga Tb fa fd) (hc : ∀ j, FnOk P w K mg base (L2.CX P w) (4 * m) (fa j) (fd j) (psn j) (spM (GG K ga Tb) (c j))) : FnOk P w K mg base (L2.CX P w) (4 * m + 4) (fa 55) (fd 55) (psn 55) (spM (GG K ga Tb) (mBody 2 5 (b_55 c))) :=
  fn_ok T.u55 sc_55 fun cdv A outer s H E hr =>
  (sss_cons (ss_set 2 sc_55.nd se_int)
  (sss_cons (ss_if (t_lt (se_var 1) (e_len rfl T.z_len (se_var 0))) (sss_one (ss_set 2 sc_55.nd (e_ix rfl (se_var 0) (se_var 1)))) sss_nil)
  (sss_cons (ss_set 3 sc_55.nd (e_max rfl rfl T.z_max (sa_cons (e_int T.z_int (se_var 2)) (sa_cons (e_int T.z_int (e_sub (e_neg se_int) (se_var 2))) sa_nil))))
  (sss_cons (ss_set 4 sc_55.nd (e_md (e_int T.z_int (e_mul (e_add rfl (e_add rfl (e_add rfl (e_md (e_int T.z_int (se_var 3)) se_int) (e_mul (e_mul se_int (se_var 1)) (se_var 1))) (e_mul se_int (se_var 1))) se_int) se_int)) se_int))
  (sss_one (ss_ret (se_lst (sa_cons (e_mul (se_var 3) (e_int T.z_int (e_ge (se_var 3) (e_pw se_int se_int)))) (sa_cons (se_var 4) sa_nil)))))))))
theorem ok_56 (T : Txt K w mg ga Tb fa fd) (hc : ∀ j, FnOk P w K mg base (L2.CX P w) (4 * m) (fa j) (fd j) (psn j) (spM (GG K ga Tb) (c j))) : FnOk P w K mg base (L2.CX P w) (4 * m + 4) (fa 56) (fd 56) (psn 56) (spM (GG K ga Tb) (mBody 2 3 (b_56 c))) :=
  fn_ok T.u56 sc_56 fun cdv A outer s H E hr =>
  (sss_cons (ss_if (t_gt (e_ix rfl (se_var 0) se_int) se_int) (sss_cons (ss_set 2 sc_56.nd (e_md (e_int T.z_int (e_ix rfl (se_var 0) se_int)) (se_var 1)))
  (sss_cons (ss_sub (e_fd (e_ix rfl (se_var 0) se_int) (se_var 1)) (se_var 0) se_int)
  (sss_one (ss_ret (se_var 2))))) sss_nil)
  (sss_cons (ss_sub (e_md (e_int T.z_int (e_add rfl (e_mul (e_ix rfl (se_var 0) se_int) se_int) se_int)) se_int) (se_var 0) se_int)
  (sss_one (ss_ret (e_md (e_int T.z_int (e_fd (e_md (e_int T.z_int (e_mul (e_ix rfl (se_var 0) se_int) (e_ix rfl (se_var 0) se_int))) se_int) se_int)) (se_var 1))))))
theorem ok_57 (T : Txt K w mg ga Tb fa fd) (hc : ∀ j, FnOk P w K mg base (L2.CX P w) (4 * m) (fa j) (fd j) (psn j) (spM (GG K ga Tb) (c j))) : FnOk P w K mg base (L2.CX P w) (4 * m + 4) (fa 57) (fd 57) (psn 57) (spM (GG K ga Tb) (mBody 2 2 (b_57 c))) :=
  fn_ok T.u57 sc_57 fun cdv A outer s H E hr =>
  (sss_one (ss_ret (e_ix rfl (se_var 1) (se_call ((hc 56).mono (by omega)) hr (takes_of rfl rfl rfl rfl) T.m56 T.u56.kp T.b56 (sa_cons (se_var 0) (sa_cons (e_len rfl T.z_len (se_var 1)) sa_nil))))))
theorem ok_59 (T : Txt K w mg ga Tb fa fd) (hc : ∀ j, FnOk P w K mg base (L2.CX P w) (4 * m) (fa j) (fd j) (psn j) (spM (GG K ga Tb) (c j))) : FnOk P w K mg base (L2.CX P w) (4 * m + 4) (fa 59) (fd 59) (psn 59) (spM (GG K ga Tb) (mBody 1 2 (b_59 c))) :=
  fn_ok T.u59 sc_59 fun cdv A outer s H E hr =>
  (sss_cons (ss_set 1 sc_59.nd (se_lst (sa_cons (se_lst (sa_cons (se_str [120]) (sa_cons (se_str [121]) sa_nil))) (sa_cons (se_lst (sa_cons (se_str [120]) (sa_cons (se_str [121]) (sa_cons (se_str [122]) (sa_cons (se_str [97]) sa_nil))))) (sa_cons (se_lst (sa_cons (se_str [97]) (sa_cons (se_str [98]) (sa_cons (se_str [99]) (sa_cons (se_str [100]) (sa_cons (se_str [101]) (sa_cons (se_str [102]) sa_nil))))))) (sa_cons (se_lst (sa_cons (se_str [120]) (sa_cons (se_str [97, 98, 99, 100, 101, 102, 103, 104]) (sa_cons (se_str [97, 97]) (sa_cons (se_str [98]) (sa_cons (se_str [122, 122]) sa_nil)))))) sa_nil))))))
  (sss_one (ss_ret (se_call ((hc 57).mono (by omega)) hr (takes_of rfl rfl rfl rfl) T.m57 T.u57.kp T.b57 (sa_cons (se_var 0) (sa_cons (se_var 1) sa_nil))))))
theorem ok_60 (T : Txt K w mg ga Tb fa fd) (hc : ∀ j, FnOk P w K mg base (L2.CX P w) (4 * m) (fa j) (fd j) (psn j) (spM (GG K ga Tb) (c j))) : FnOk P w K mg base (L2.CX P w) (4 * m + 4) (fa 60) (fd 60) (psn 60) (spM (GG K ga Tb) (mBody 2 2 (b_60 c))) :=
  fn_ok T.u60 sc_60 fun cdv A outer s H E hr =>
  (sss_one (ss_ret (se_tup (sa_cons (se_str [117, 115, 101]) (sa_cons (se_call ((hc 57).mono (by omega)) hr (takes_of rfl rfl rfl rfl) T.m57 T.u57.kp T.b57 (sa_cons (se_var 0) (sa_cons (se_var 1) sa_nil))) sa_nil)))))
theorem ok_61 (T : Txt K w mg ga Tb fa fd) (hc : ∀ j, FnOk P w K mg base (L2.CX P w) (4 * m) (fa j) (fd j) (psn j) (spM (GG K ga Tb) (c j))) : FnOk P w K mg base (L2.CX P w) (4 * m + 4) (fa 61) (fd 61) (psn 61) (spM (GG K ga Tb) (mBody 3 7 (b_61 c))) :=
  fn_ok T.u61 sc_61 fun cdv A outer s H E hr =>
  (sss_cons (ss_if (SW.st (sw_or (t_lt (e_ix rfl (se_var 2) se_int) se_int) (sw_or1 (t_eq rfl hr (se_call ((hc 56).mono (by omega)) hr (takes_of rfl rfl rfl rfl) T.m56 T.u56.kp T.b56 (sa_cons (se_var 0) (sa_cons se_int sa_nil))) se_int)))) (sss_one (ss_ret (se_lst (sa_cons (se_call ((hc 60).mono (by omega)) hr (takes_of rfl rfl rfl rfl) T.m60 T.u60.kp T.b60 (sa_cons (se_var 0) (sa_cons (se_var 1) sa_nil))) (sa_cons (se_lst (sa_cons (e_sub (e_ix rfl (se_var 2) se_int) se_int) (sa_cons (e_ix rfl (se_var 2) se_int) sa_nil))) sa_nil))))) sss_nil)
  (sss_cons (ss_if (SW.st (sw_and (t_gt (e_ix rfl (se_var 2) se_int) se_int) (sw_and1 (t_gt (se_call ((hc 56).mono (by omega)) hr (takes_of rfl rfl rfl rfl) T.m56 T.u56.kp T.b56 (sa_cons (se_var 0) (sa_cons se_int sa_nil))) se_int)))) (sss_one (ss_ret (se_call ((hc 62).mono (by omega)) hr (takes_of rfl rfl rfl rfl) T.m62 T.u62.kp T.b62 (sa_cons (se_var 0) (sa_cons (se_var 1) (sa_cons (se_var 2) sa_nil)))))) sss_nil)
  (sss_cons (ss_par 3 4 rfl sc_61.nd (sa_cons (se_lst sa_nil) (sa_cons (se_lst (sa_cons (e_sub (e_ix rfl (se_var 2) se_int) se_int) (sa_cons (e_ix rfl (se_var 2) se_int) sa_nil))) sa_nil)))
  (sss_cons (ss_for rfl (passes_of rfl) (si_range1 T.z_range (sa_cons (se_call ((hc 57).mono (by omega)) hr (takes_of rfl rfl rfl rfl) T.m57 T.u57.kp T.b57 (sa_cons (se_var 0) (sa_cons (se_lst (sa_cons se_int (sa_cons se_int (sa_cons se_int (sa_cons se_int (sa_cons se_int sa_nil)))))) sa_nil))) sa_nil)) (sg_name 5 sc_61.nd) (sss_one (ss_if (t_gt (e_ix rfl (se_var 4) se_int) se_int) (sss_cons (ss_asg (se_call ((hc 61).mono (by omega)) hr (takes_of rfl rfl rfl rfl) T.m61 T.u61.kp T.b61 (sa_cons (se_var 0) (sa_cons (se_var 1) (sa_cons (se_var 4) sa_nil)))) (sg_tup rfl rfl (sgs_cons (sg_name 6 sc_61.nd) (sgs_cons (sg_name 4 sc_61.nd) sgs_nil))))
  (sss_one (ss_expr (e_append rfl (se_var 3) (se_var 6))))) sss_nil)))
  (sss_one (ss_ret (se_lst (sa_cons (se_tup (sa_cons (se_str [106, 111, 105, 110]) (sa_cons (se_call ((hc 57).mono (by omega)) hr (takes_of rfl rfl rfl rfl) T.m57 T.u57.kp T.b57 (sa_cons (se_var 0) (sa_cons (se_lst (sa_cons (se_str [102]) (sa_cons (se_str [120]) (sa_cons (se_str [106, 111, 105, 110]) sa_nil)))) sa_nil))) (sa_cons (e_tuple rfl T.z_tuple (se_var 3)) sa_nil)))) (sa_cons (se_var 4) sa_nil)))))))))
theorem ok_62 (T : Txt K w mg ga Tb fa fd) (hc : ∀ j, FnOk P w K mg base (L2.CX P w) (4 * m) (fa j) (fd j) (psn j) (spM (GG K ga Tb) (c j))) : FnOk P w K mg base (L2.CX P w) (4 * m + 4) (fa 62) (fd 62) (psn 62) (spM (GG K ga Tb) (mBody 3 7 (b_62 c))) :=
  fn_ok T.u62 sc_62 fun cdv A outer s H E hr =>
  (sss_cons (ss_par 3 4 rfl sc_62.nd (sa_cons (se_lst sa_nil) (sa_cons (se_lst (sa_cons (e_sub (e_ix rfl (se_var 2) se_int) se_int) (sa_cons (e_sub (e_ix rfl (se_var 2) se_int) se_int) sa_nil))) sa_nil)))
  (sss_cons (ss_for rfl (passes_of rfl) (si_range1 T.z_range (sa_cons (se_call ((hc 57).mono (by omega)) hr (takes_of rfl rfl rfl rfl) T.m57 T.u57.kp T.b57 (sa_cons (se_var 0) (sa_cons (se_lst (sa_cons se_int (sa_cons se_int (sa_cons se_int (sa_cons se_int (sa_cons se_int (sa_cons se_int sa_nil))))))) sa_nil))) sa_nil)) (sg_name 5 sc_62.nd) (sss_one (ss_if (t_gt (e_ix rfl (se_var 4) se_int) se_int) (sss_cons (ss_asg (se_call ((hc 61).mono (by omega)) hr (takes_of rfl rfl rfl rfl) T.m61 T.u61.kp T.b61 (sa_cons (se_var 0) (sa_cons (se_var 1) (sa_cons (se_var 4) sa_nil)))) (sg_tup rfl rfl (sgs_cons (sg_name 6 sc_62.nd) (sgs_cons (sg_name 4 sc_62.nd) sgs_nil))))
  (sss_one (ss_expr (e_append rfl (se_var 3) (se_var 6))))) sss_nil)))
  (sss_cons (ss_if (t_lt (e_ix rfl (se_var 4) se_int) se_int) (sss_one (ss_ret (se_lst (sa_cons (se_tup (sa_cons (se_str [98, 105, 110, 100]) (sa_cons (se_call ((hc 57).mono (by omega)) hr (takes_of rfl rfl rfl rfl) T.m57 T.u57.kp T.b57 (sa_cons (se_var 0) (sa_cons (se_var 1) sa_nil))) (sa_cons (se_tup sa_nil) (sa_cons (e_ix rfl (se_var 3) se_int) sa_nil))))) (sa_cons (se_var 4) sa_nil))))) sss_nil)
  (sss_cons (ss_asg (se_call ((hc 61).mono (by omega)) hr (takes_of rfl rfl rfl rfl) T.m61 T.u61.kp T.b61 (sa_cons (se_var 0) (sa_cons (se_var 1) (sa_cons (se_var 4) sa_nil)))) (sg_tup rfl rfl (sgs_cons (sg_name 6 sc_62.nd) (sgs_cons (sg_name 4 sc_62.nd) sgs_nil))))
  (sss_one (ss_ret (se_lst (sa_cons (se_tup (sa_cons (se_str [98, 105, 110, 100]) (sa_cons (se_call ((hc 57).mono (by omega)) hr (takes_of rfl rfl rfl rfl) T.m57 T.u57.kp T.b57 (sa_cons (se_var 0) (sa_cons (se_var 1) sa_nil))) (sa_cons (e_tuple rfl T.z_tuple (se_var 3)) (sa_cons (se_var 6) sa_nil))))) (sa_cons (se_var 4) sa_nil)))))))))
theorem ok_63 (T : Txt K w mg ga Tb fa fd) (hc : ∀ j, FnOk P w K mg base (L2.CX P w) (4 * m) (fa j) (fd j) (psn j) (spM (GG K ga Tb) (c j))) : FnOk P w K mg base (L2.CX P w) (4 * m + 4) (fa 63) (fd 63) (psn 63) (spM (GG K ga Tb) (mBody 3 9 (b_63 c))) :=
  fn_ok T.u63 sc_63 fun cdv A outer s H E hr =>
  (sss_cons (ss_set 3 sc_63.nd (se_tup (sa_cons (se_str [106, 111, 105, 110]) (sa_cons (se_str [102]) (sa_cons (e_tuple rfl T.z_tuple (se_comp [("_law_turn", 4)] rfl sc_63.nd (si_range1 T.z_range (sa_cons (e_add rfl se_int (se_call ((hc 56).mono (by omega)) hr (takes_of rfl rfl rfl rfl) T.m56 T.u56.kp T.b56 (sa_cons (se_var 0) (sa_cons se_int sa_nil)))) sa_nil)) (bk_63 (by decide +kernel)) (fun s H C cl fp => (sg_name 4 sc_63.nd)) (fun s H C cl fp => sts_nil) (fun s H C cl fp => (se_call ((hc 60).mono (by omega)) hr takes0 T.m60 T.u60.kp T.b60 (sa_cons (se_var 0) (sa_cons (se_var 1) sa_nil)))))) sa_nil)))))
  (sss_cons (ss_for rfl (passes_of rfl) (si_range1 T.z_range (sa_cons (se_var 2) sa_nil)) (sg_name 4 sc_63.nd) (sss_cons (ss_setComp 5 [("_law_one_here", 6)] rfl sc_63.nd (si_range1 T.z_range (sa_cons (se_call ((hc 56).mono (by omega)) hr (takes_of rfl rfl rfl rfl) T.m56 T.u56.kp T.b56 (sa_cons (se_var 0) (sa_cons se_int sa_nil))) sa_nil)) (bk_63 (by decide +kernel)) (fun s H C cl fp => (sg_name 6 sc_63.nd)) (fun s H C cl fp => sts_nil) (fun s H C cl fp => (se_call ((hc 60).mono (by omega)) hr takes0 T.m60 T.u60.kp T.b60 (sa_cons (se_var 0) (sa_cons (se_var 1) sa_nil)))))
  (sss_cons (ss_set 7 sc_63.nd (se_if (t_eq rfl hr (se_var 5) (se_lst sa_nil)) (se_var 3) (se_tup (sa_cons (se_str [106, 111, 105, 110]) (sa_cons (se_str [103]) (sa_cons (e_tuple rfl T.z_tuple (e_add rfl (se_var 5) (se_lst (sa_cons (se_var 3) sa_nil)))) sa_nil))))))
  (sss_cons (ss_set 8 sc_63.nd (se_if (t_eq rfl hr (se_call ((hc 56).mono (by omega)) hr (takes_of rfl rfl rfl rfl) T.m56 T.u56.kp T.b56 (sa_cons (se_var 0) (sa_cons se_int sa_nil))) se_int) (se_lst (sa_cons (se_call ((hc 60).mono (by omega)) hr (takes_of rfl rfl rfl rfl) T.m60 T.u60.kp T.b60 (sa_cons (se_var 0) (sa_cons (se_var 1) sa_nil))) sa_nil)) (se_lst sa_nil)))
  (sss_one (ss_set 3 sc_63.nd (se_tup (sa_cons (se_str [98, 105, 110, 100]) (sa_cons (se_call ((hc 57).mono (by omega)) hr (takes_of rfl rfl rfl rfl) T.m57 T.u57.kp T.b57 (sa_cons (se_var 0) (sa_cons (se_var 1) sa_nil))) (sa_cons (e_tuple rfl T.z_tuple (se_var 8)) (sa_cons (se_var 7) sa_nil)))))))))))
  (sss_one (ss_ret (se_var 3)))))
theorem ok_64 (T : Txt K w mg ga Tb fa fd) (hc : ∀ j, FnOk P w K mg base (L2.CX P w) (4 * m) (fa j) (fd j) (psn j) (spM (GG K ga Tb) (c j))) : FnOk P w K mg base (L2.CX P w) (4 * m + 4) (fa 64) (fd 64) (psn 64) (spM (GG K ga Tb) (mBody 3 8 (b_64 c))) :=
  fn_ok T.u64 sc_64 fun cdv A outer s H E hr =>
  (sss_cons (ss_par 3 4 rfl sc_64.nd (sa_cons (se_call ((hc 59).mono (by omega)) hr (takes_of rfl rfl rfl rfl) T.m59 T.u59.kp T.b59 (sa_cons (se_var 0) sa_nil)) (sa_cons (se_call ((hc 56).mono (by omega)) hr (takes_of rfl rfl rfl rfl) T.m56 T.u56.kp T.b56 (sa_cons (se_var 0) (sa_cons se_int sa_nil))) sa_nil)))
  (sss_cons (ss_if (t_eq rfl hr (se_var 4) se_int) (sss_one (ss_ret (se_call ((hc 63).mono (by omega)) hr (takes_of rfl rfl rfl rfl) T.m63 T.u63.kp T.b63 (sa_cons (se_var 0) (sa_cons (se_var 3) (sa_cons (se_call ((hc 56).mono (by omega)) hr (takes_of rfl rfl rfl rfl) T.m56 T.u56.kp T.b56 (sa_cons (se_var 0) (sa_cons (e_add rfl (e_min rfl rfl T.z_min (sa_cons (se_var 2) (sa_cons (e_fd (se_var 1) se_int) sa_nil))) se_int) sa_nil))) sa_nil)))))) sss_nil)
  (sss_cons (ss_if (t_eq rfl hr (se_var 4) se_int) (sss_cons (ss_set 5 sc_64.nd (se_lst (sa_cons (e_fd (se_var 1) se_int) (sa_cons (e_fd (se_var 2) se_int) sa_nil))))
  (sss_cons (ss_par 6 7 rfl sc_64.nd (sa_cons (e_ix rfl (se_call ((hc 61).mono (by omega)) hr (takes_of rfl rfl rfl rfl) T.m61 T.u61.kp T.b61 (sa_cons (se_var 0) (sa_cons (se_var 3) (sa_cons (se_var 5) sa_nil)))) se_int) (sa_cons (e_ix rfl (se_call ((hc 61).mono (by omega)) hr (takes_of rfl rfl rfl rfl) T.m61 T.u61.kp T.b61 (sa_cons (se_var 0) (sa_cons (se_var 3) (sa_cons (se_var 5) sa_nil)))) se_int) sa_nil)))
  (sss_one (ss_ret (se_tup (sa_cons (se_str [106, 111, 105, 110]) (sa_cons (se_str [102]) (sa_cons (se_tup (sa_cons (se_var 6) (sa_cons (se_var 7) sa_nil))) sa_nil)))))))) sss_nil)
  (sss_one (ss_ret (e_ix rfl (se_call ((hc 61).mono (by omega)) hr (takes_of rfl rfl rfl rfl) T.m61 T.u61.kp T.b61 (sa_cons (se_var 0) (sa_cons (se_var 3) (sa_cons (se_lst (sa_cons (se_var 1) (sa_cons (se_var 2) sa_nil))) sa_nil)))) se_int))))))
theorem lm_76 {scope : Scope} (h : LamX.lamSB (defScope st_76) scope = true) : LamX.LamS (defScope st_76) scope := LamX.lamS_by h
theorem ok_76 (T : Txt K w mg ga Tb fa fd) (LT : Lt base mg Tb fd) (hc : ∀ j, FnOk P w K mg base (L2.CX P w) (4 * m) (fa j) (fd j) (psn j) (spM (GG K ga Tb) (c j))) (hq : ∀ j, FnG P w K mg base (L2.CX P w) (4 * m) (fa j) (fd j) (psn j) (spM (GG K ga Tb) (q j))) : FnG P w K mg base (L2.CX P w) (4 * m + 4) (fa 76) (fd 76) (psn 76) (spM (GG K ga Tb) (mBody 1 7 (b_76 c q))) :=
  fn_okC T.u76 sc_76 fun cdv A outer s H E hcd hgd hr =>
  by
    obtain ⟨cc, Pt, hc0, TB, hin, hun⟩ := (LT.c_76).ex
    have hcode : cdv = .ref cc := hcd.symm.trans hc0
    exact (sss_cons (ss_if (SW.st (sw_or (st_not (st_val rfl (se_callG0 ((hq 112).mono (by omega)) hr hgd (takes_of rfl rfl rfl rfl) T.m112 T.u112.kp T.b112))) (sw_or1 (st_not (st_val rfl (se_call0 ((hc 113).mono (by omega)) hr (takes_of rfl rfl rfl rfl) T.m113 T.u113.kp T.b113)))))) (sss_one (ss_ret se_bl)) sss_nil)
  (sss_cons (ss_for rfl (passes_of rfl) (si_range1 T.z_range (sa_cons (e_max rfl rfl T.z_max (sa_cons se_int (sa_cons (e_min rfl rfl T.z_min (sa_cons se_int (sa_cons (e_len rfl T.z_len (se_var 0)) sa_nil))) sa_nil))) sa_nil)) (sg_name 1 sc_76.nd) (sss_cons (ss_set 2 sc_76.nd (se_call ((hc 55).mono (by omega)) hr (takes_of rfl rfl rfl rfl) T.m55 T.u55.kp T.b55 (sa_cons (se_var 0) (sa_cons (se_var 1) sa_nil))))
  (sss_cons (ss_set 3 sc_76.nd (se_call ((hc 64).mono (by omega)) hr (takes_of rfl rfl rfl rfl) T.m64 T.u64.kp T.b64 (sa_cons (se_var 2) (sa_cons se_int (sa_cons se_int sa_nil)))))
  (sss_cons (ss_for rfl (passes_of rfl) (si_seq rfl (se_call ((hc 109).mono (by omega)) hr (takes_of rfl rfl rfl rfl) T.m109 T.u109.kp T.b109 (sa_cons (se_var 3) sa_nil))) (sg_name 4 sc_76.nd) (sss_cons (ss_set 5 sc_76.nd (se_lst (sa_cons (se_str [116, 101, 114, 109]) (sa_cons (e_reprA rfl hgd hr T.z_repr (se_var 4)) (sa_cons se_bl sa_nil)))))
  (sss_cons (ss_if (SW.st (sw_or (st_val rfl (se_call ((hc 10).mono (by omega)) hr (takes_of rfl rfl rfl rfl) T.m10 T.u10.kp T.b10 (sa_cons (se_var 4) sa_nil))) (sw_or1 (t_ne rfl hr (by
    obtain ⟨oc, od, kV, doc, pm, an, cdv', ct, osl, hfd, lk, hcg⟩ := T.u108.ex
    have bq := T.b108
    rw [hfd] at lk bq
    exact se_lamN (Ng := nm_108) (cl := tc_108) (k := 4 * m + 1) kkE_ok rfl rfl T.m108 T.u108.kp lk hcg bq sc_108 rfl (.inl rfl)
      (tg_108 T rfl rfl hgd hr)
      TB hcode hin hun hr (lm_76 (by decide +kernel)) rfl (by intro _ _ _ _ _; rfl)
      (fun A outer s H E f c' hr' => (se_make (c := 0) T.mk0 rfl ((hc 18).mono (by omega)) hr' (takes_of rfl rfl rfl rfl) T.g_Term T.b18 (sa_cons (se_var 4) sa_nil)))) (se_var 5))))) (sss_one (ss_ret se_bl)) sss_nil)
  (sss_one (ss_for rfl (passes_of rfl) (si_seq rfl (se_lst (sa_cons (se_tup (sa_cons (se_str [106, 111, 105, 110]) (sa_cons (se_str [102]) (sa_cons (se_tup (sa_cons (se_var 3) (sa_cons (se_var 4) sa_nil))) sa_nil)))) (sa_cons (se_tup (sa_cons (se_str [98, 105, 110, 100]) (sa_cons (se_str [120]) (sa_cons (se_tup (sa_cons (se_var 4) sa_nil)) (sa_cons (se_var 3) sa_nil))))) (sa_cons (se_tup (sa_cons (se_str [98, 105, 110, 100]) (sa_cons (se_str [120]) (sa_cons (se_tup sa_nil) (sa_cons (se_var 4) sa_nil))))) sa_nil))))) (sg_name 6 sc_76.nd) (sss_cons (ss_if (st_val rfl (se_call ((hc 10).mono (by omega)) hr (takes_of rfl rfl rfl rfl) T.m10 T.u10.kp T.b10 (sa_cons (se_var 6) sa_nil))) (sss_one (ss_ret se_bl)) sss_nil)
  (sss_one (ss_if (t_ne rfl hr (by
    obtain ⟨oc, od, kV, doc, pm, an, cdv', ct, osl, hfd, lk, hcg⟩ := T.u108.ex
    have bq := T.b108
    rw [hfd] at lk bq
    exact se_lamN (Ng := nm_108) (cl := tc_108) (k := 4 * m + 1) kkE_ok rfl rfl T.m108 T.u108.kp lk hcg bq sc_108 rfl (.inl rfl)
      (tg_108 T rfl rfl hgd hr)
      TB hcode hin hun hr (lm_76 (by decide +kernel)) rfl (by intro _ _ _ _ _; rfl)
      (fun A outer s H E f c' hr' => (se_make (c := 0) T.mk0 rfl ((hc 18).mono (by omega)) hr' (takes_of rfl rfl rfl rfl) T.g_Term T.b18 (sa_cons (se_var 6) sa_nil)))) (se_lst (sa_cons (se_str [116, 101, 114, 109]) (sa_cons (e_reprA rfl hgd hr T.z_repr (se_var 6)) (sa_cons se_bl sa_nil))))) (sss_one (ss_ret se_bl)) sss_nil))))))))
  (sss_one (ss_for rfl (passes_of rfl) (si_seq rfl (se_lst (sa_cons se_non (sa_cons (se_str [120]) (sa_cons (se_lst (sa_cons se_non sa_nil)) (sa_cons (se_lst (sa_cons (se_str [88]) sa_nil)) (sa_cons (se_tup (sa_cons (se_str [120]) (sa_cons se_int sa_nil))) (sa_cons (se_disp (sp_cons (k := [120]) se_int sp_nil) (by decide) (by simp) (by decide)) (sa_cons se_int sa_nil))))))))) (sg_name 4 sc_76.nd) (sss_one (ss_if (t_ne rfl hr (by
    obtain ⟨oc, od, kV, doc, pm, an, cdv', ct, osl, hfd, lk, hcg⟩ := T.u108.ex
    have bq := T.b108
    rw [hfd] at lk bq
    exact se_lamN (Ng := nm_108) (cl := tc_108) (k := 4 * m + 1) kkE_ok rfl rfl T.m108 T.u108.kp lk hcg bq sc_108 rfl (.inl rfl)
      (tg_108 T rfl rfl hgd hr)
      TB hcode hin hun hr (lm_76 (by decide +kernel)) rfl (by intro _ _ _ _ _; rfl)
      (fun A outer s H E f c' hr' => (se_call ((hc 11).mono (by omega)) hr' (takes_of rfl rfl rfl rfl) T.m11 T.u11.kp T.b11 (sa_cons (se_var 4) sa_nil)))) (se_lst (sa_cons (se_str [110, 97, 109, 101, 115]) (sa_cons (e_reprA rfl hgd hr T.z_repr (se_var 4)) (sa_cons se_bl sa_nil))))) (sss_one (ss_ret se_bl)) sss_nil))))))))
  (sss_one (ss_ret se_bl))))
theorem ok_102 (T : Txt K w mg ga Tb fa fd) (hc : ∀ j, FnOk P w K mg base (L2.CX P w) (4 * m) (fa j) (fd j) (psn j) (spM (GG K ga Tb) (c j))) : FnOk P w K mg base (L2.CX P w) (4 * m + 4) (fa 102) (fd 102) (psn 102) (spM (GG K ga Tb) (mBody 1 2 (b_102 c))) :=
  fn_ok T.u102 sc_102 fun cdv A outer s H E hr =>
  (sss_cons (ss_for rfl (passes_of rfl) (si_seq rfl (se_var 0)) (sg_name 1 sc_102.nd) (sss_one (ss_if (SW.st (sw_or (st_not (st_val rfl (se_isi (ks := [3]) T.kn rfl (cls_ty rfl T.z_str (by decide +kernel)) (.ty "str") T.kt_str (se_var 1) rfl T.z_isinstance))) (sw_or1 (st_not (st_chain op_lt prim_cmp op_le prim_cmp se_int (e_len rfl T.z_len (se_var 1)) (se_globI T.g_LONGEST_NAME)))))) (sss_one (ss_ret se_bl)) sss_nil)))
  (sss_one (ss_ret (se_or rfl (e_eq rfl hr (e_len rfl T.z_len (se_var 0)) se_int) (se_one (se_call ((hc 103).mono (by omega)) hr (takes_of rfl rfl rfl rfl) T.m103 T.u103.kp T.b103 (sa_cons (e_join rfl (se_str []) (se_var 0)) sa_nil)))))))
theorem ok_103 (T : Txt K w mg ga Tb fa fd) (hc : ∀ j, FnOk P w K mg base (L2.CX P w) (4 * m) (fa j) (fd j) (psn j) (spM (GG K ga Tb) (c j))) : FnOk P w K mg base (L2.CX P w) (4 * m + 4) (fa 103) (fd 103) (psn 103) (spM (GG K ga Tb) (mBody 1 1 (b_103 c))) :=
  fn_ok T.u103 sc_103 fun cdv A outer s H E hr =>
  (sss_one (ss_ret (se_and rfl (e_isalpha (se_var 0)) (se_and rfl (e_islower (se_var 0)) (se_one (e_isascii (se_var 0)))))))
theorem ok_104 (T : Txt K w mg ga Tb fa fd) (hc : ∀ j, FnOk P w K mg base (L2.CX P w) (4 * m) (fa j) (fd j) (psn j) (spM (GG K ga Tb) (c j))) : FnOk P w K mg base (L2.CX P w) (4 * m + 4) (fa 104) (fd 104) (psn 104) (spM (GG K ga Tb) (mBody 1 10 (b_104 c))) :=
  fn_ok T.u104 sc_104 fun cdv A outer s H E hr =>
  (sss_cons (ss_set 1 sc_104.nd (se_lst sa_nil))
  (sss_cons (ss_set 2 sc_104.nd (se_lst sa_nil))
  (sss_cons (ss_set 3 sc_104.nd (se_lst (sa_cons (se_var 0) sa_nil)))
  (sss_cons (ss_while (passes_of rfl) (st_val rfl (se_var 3)) (sss_cons (ss_set 4 sc_104.nd (e_pop rfl (se_var 3)))
  (sss_cons (ss_if (st_not (st_val rfl (se_isi (ks := [4]) T.kn rfl (cls_ty rfl T.z_tuple (by decide +kernel)) (.ty "tuple") T.kt_tuple (se_var 4) rfl T.z_isinstance))) (sss_one (ss_ret (se_lst sa_nil))) sss_nil)
  (sss_cons (ss_if (t_eq rfl hr (e_len rfl T.z_len (se_var 4)) se_int) (sss_cons (ss_asg (se_var 4) (sg_tup rfl rfl (sgs_cons (sg_name 5 sc_104.nd) (sgs_cons (sg_name 6 sc_104.nd) sgs_nil))))
  (sss_one (ss_if (SW.st (sw_or (st_not (st_val rfl (se_isi (ks := [3]) T.kn rfl (cls_ty rfl T.z_str (by decide +kernel)) (.ty "str") T.kt_str (se_var 5) rfl T.z_isinstance))) (sw_or1 (t_ne rfl hr (se_var 5) (se_str [117, 115, 101]))))) (sss_one (ss_ret (se_lst sa_nil))) sss_nil))) (sss_one (ss_if (t_eq rfl hr (e_len rfl T.z_len (se_var 4)) se_int) (sss_cons (ss_asg (se_var 4) (sg_tup rfl rfl (sgs_cons (sg_name 5 sc_104.nd) (sgs_cons (sg_name 6 sc_104.nd) (sgs_cons (sg_name 7 sc_104.nd) sgs_nil)))))
  (sss_cons (ss_if (SW.st (sw_or (st_not (st_val rfl (se_isi (ks := [3]) T.kn rfl (cls_ty rfl T.z_str (by decide +kernel)) (.ty "str") T.kt_str (se_var 5) rfl T.z_isinstance))) (sw_or (t_ne rfl hr (se_var 5) (se_str [106, 111, 105, 110])) (sw_or1 (st_not (st_val rfl (se_isi (ks := [4]) T.kn rfl (cls_ty rfl T.z_tuple (by decide +kernel)) (.ty "tuple") T.kt_tuple (se_var 7) rfl T.z_isinstance))))))) (sss_one (ss_ret (se_lst sa_nil))) sss_nil)
  (sss_one (ss_expr (e_extend rfl (se_var 3) (se_revT rfl (se_var 7))))))) (sss_one (ss_if (t_eq rfl hr (e_len rfl T.z_len (se_var 4)) se_int) (sss_cons (ss_asg (se_var 4) (sg_tup rfl rfl (sgs_cons (sg_name 5 sc_104.nd) (sgs_cons (sg_name 6 sc_104.nd) (sgs_cons (sg_name 8 sc_104.nd) (sgs_cons (sg_name 9 sc_104.nd) sgs_nil))))))
  (sss_cons (ss_if (SW.st (sw_or (st_not (st_val rfl (se_isi (ks := [3]) T.kn rfl (cls_ty rfl T.z_str (by decide +kernel)) (.ty "str") T.kt_str (se_var 5) rfl T.z_isinstance))) (sw_or (t_ne rfl hr (se_var 5) (se_str [98, 105, 110, 100])) (sw_or1 (st_not (st_val rfl (se_isi (ks := [4]) T.kn rfl (cls_ty rfl T.z_tuple (by decide +kernel)) (.ty "tuple") T.kt_tuple (se_var 8) rfl T.z_isinstance))))))) (sss_one (ss_ret (se_lst sa_nil))) sss_nil)
  (sss_cons (ss_expr (e_append rfl (se_var 3) (se_var 9)))
  (sss_one (ss_expr (e_extend rfl (se_var 3) (se_revT rfl (se_var 8)))))))) (sss_one (ss_ret (se_lst sa_nil))))))))
  (sss_cons (ss_expr (e_append rfl (se_var 1) (se_var 4)))
  (sss_one (ss_expr (e_append rfl (se_var 2) (se_var 6)))))))))
  (sss_cons (ss_if (st_val rfl (se_call ((hc 102).mono (by omega)) hr (takes_of rfl rfl rfl rfl) T.m102 T.u102.kp T.b102 (sa_cons (se_var 2) sa_nil))) (sss_one (ss_ret (se_var 1))) sss_nil)
  (sss_one (ss_ret (se_lst sa_nil))))))))
theorem ok_105 (T : Txt K w mg ga Tb fa fd) (hc : ∀ j, FnOk P w K mg base (L2.CX P w) (4 * m) (fa j) (fd j) (psn j) (spM (GG K ga Tb) (c j))) : FnOk P w K mg base (L2.CX P w) (4 * m + 4) (fa 105) (fd 105) (psn 105) (spM (GG K ga Tb) (mBody 1 1 (b_105 c))) :=
  fn_ok T.u105 sc_105 fun cdv A outer s H E hr =>
  (sss_cons (ss_if (t_gt (e_len rfl T.z_len (se_var 0)) (se_globI T.g_MOST_NODES)) (sss_one (ss_ret (se_globI T.g_MOST_NODES))) sss_nil)
  (sss_cons (ss_if (SW.st (sw_and (t_gt (e_len rfl T.z_len (se_var 0)) (se_globI T.g_MOST_BINDERS)) (sw_and1 (t_gt (e_len rfl T.z_len (se_call ((hc 16).mono (by omega)) hr (takes_of rfl rfl rfl rfl) T.m16 T.u16.kp T.b16 (sa_cons (se_str [98, 105, 110, 100]) (sa_cons (se_var 0) sa_nil)))) (se_globI T.g_MOST_BINDERS))))) (sss_one (ss_ret (se_globI T.g_MOST_BINDERS))) sss_nil)
  (sss_cons (ss_if (SW.st (sw_and (t_gt (e_len rfl T.z_len (se_var 0)) (se_globI T.g_MOST_ON_A_WAY)) (sw_and1 (t_gt (se_call ((hc 17).mono (by omega)) hr (takes_of rfl rfl rfl rfl) T.m17 T.u17.kp T.b17 (sa_cons (e_ix rfl (se_var 0) se_int) sa_nil)) (se_globI T.g_MOST_ON_A_WAY))))) (sss_one (ss_ret (se_globI T.g_MOST_ON_A_WAY))) sss_nil)
  (sss_one (ss_ret se_non)))))
theorem ok_109 (T : Txt K w mg ga Tb fa fd) (hc : ∀ j, FnOk P w K mg base (L2.CX P w) (4 * m) (fa j) (fd j) (psn j) (spM (GG K ga Tb) (c j))) : FnOk P w K mg base (L2.CX P w) (4 * m + 4) (fa 109) (fd 109) (psn 109) (spM (GG K ga Tb) (mBody 1 2 (b_109 c))) :=
  fn_ok T.u109 sc_109 fun cdv A outer s H E hr =>
  (sss_cons (ss_set 1 sc_109.nd (se_lst (sa_cons se_non (sa_cons se_int (sa_cons (se_str [120]) (sa_cons (se_tup sa_nil) (sa_cons (se_tup (sa_cons (se_str [117, 115, 101]) sa_nil)) (sa_cons (se_tup (sa_cons (se_str [117, 115, 101]) (sa_cons (se_str [88]) sa_nil))) (sa_cons (se_tup (sa_cons (se_str [117, 115, 101]) (sa_cons (se_str []) sa_nil))) (sa_cons (se_tup (sa_cons (se_str [117, 115, 101]) (sa_cons (se_str [97, 98, 99, 100, 101, 102, 103, 104, 105]) sa_nil))) (sa_cons (se_tup (sa_cons (se_str [117, 115, 101]) (sa_cons se_int sa_nil))) sa_nil)))))))))))
  (sss_cons (ss_set 1 sc_109.nd (e_add rfl (se_var 1) (se_lst (sa_cons (se_lst (sa_cons (se_str [117, 115, 101]) (sa_cons (se_str [120]) sa_nil))) (sa_cons (se_tup (sa_cons (se_str [117, 115, 101]) (sa_cons (se_str [120]) (sa_cons (se_tup sa_nil) sa_nil)))) (sa_cons (se_tup (sa_cons (se_str [106, 111, 105, 110]) (sa_cons (se_str [102]) sa_nil))) (sa_cons (se_tup (sa_cons (se_str [106, 111, 105, 110]) (sa_cons (se_str [102]) (sa_cons (se_lst (sa_cons (se_var 0) sa_nil)) sa_nil)))) (sa_cons (se_tup (sa_cons (se_str [106, 111, 105, 110]) (sa_cons se_int (sa_cons (se_tup sa_nil) sa_nil)))) sa_nil))))))))
  (sss_cons (ss_set 1 sc_109.nd (e_add rfl (se_var 1) (se_lst (sa_cons (se_tup (sa_cons (se_str [106, 111, 105, 110]) (sa_cons (se_str [102]) (sa_cons (se_tup (sa_cons (se_var 0) sa_nil)) (sa_cons (se_var 0) sa_nil))))) (sa_cons (se_tup (sa_cons (se_str [106, 111, 105, 110]) (sa_cons (se_str [102]) (sa_cons (se_var 0) sa_nil)))) (sa_cons (se_tup (sa_cons (se_str [98, 105, 110, 100]) (sa_cons (se_str [120]) (sa_cons (se_var 0) sa_nil)))) (sa_cons (se_tup (sa_cons (se_str [98, 105, 110, 100]) (sa_cons (se_str [120]) (sa_cons (se_tup sa_nil) (sa_cons (se_tup sa_nil) sa_nil))))) sa_nil)))))))
  (sss_cons (ss_set 1 sc_109.nd (e_add rfl (se_var 1) (se_lst (sa_cons (se_tup (sa_cons (se_str [98, 105, 110, 100]) (sa_cons (se_str [120]) (sa_cons (se_lst (sa_cons (se_var 0) sa_nil)) (sa_cons (se_var 0) sa_nil))))) (sa_cons (se_tup (sa_cons (se_str [98, 105, 110, 100]) (sa_cons (se_str [88]) (sa_cons (se_tup sa_nil) (sa_cons (se_var 0) sa_nil))))) (sa_cons (se_tup (sa_cons (se_str [85, 115, 101]) (sa_cons (se_str [120]) sa_nil))) (sa_cons (se_tup (sa_cons (se_str [98, 105, 110, 100]) (sa_cons (se_str [120]) (sa_cons (se_var 0) (sa_cons (se_var 0) sa_nil))))) sa_nil)))))))
  (sss_one (ss_ret (e_add rfl (se_var 1) (se_lst (sa_cons (se_tup (sa_cons (se_str [98, 105, 110, 100]) (sa_cons se_non (sa_cons (se_tup sa_nil) (sa_cons (se_var 0) sa_nil))))) (sa_cons (se_tup (sa_cons se_non (sa_cons (se_str [120]) sa_nil))) (sa_cons (se_disp (sp_cons (k := [117, 115, 101]) (se_str [120]) sp_nil) (by decide) (by simp) (by decide)) (sa_cons (se_tup (sa_cons (se_str [98, 105, 110, 100]) (sa_cons (se_str [120]) (sa_cons (se_tup sa_nil) (sa_cons (se_var 0) (sa_cons (se_tup sa_nil) sa_nil)))))) sa_nil))))))))))))
theorem ok_110 (T : Txt K w mg ga Tb fa fd) (hc : ∀ j, FnOk P w K mg base (L2.CX P w) (4 * m) (fa j) (fd j) (psn j) (spM (GG K ga Tb) (c j))) : FnOk P w K mg base (L2.CX P w) (4 * m + 4) (fa 110) (fd 110) (psn 110) (spM (GG K ga Tb) (mBody 2 3 (b_110 c))) :=
  fn_ok T.u110 sc_110 fun cdv A outer s H E hr =>
  (sss_cons (ss_set 2 sc_110.nd (e_mul (se_lst (sa_cons (se_tup (sa_cons (se_str [98, 105, 110, 100]) (sa_cons (se_str [120]) (sa_cons (se_tup sa_nil) (sa_cons (se_tup (sa_cons (se_str [117, 115, 101]) (sa_cons (se_str [120]) sa_nil))) sa_nil))))) sa_nil)) (se_var 1)))
  (sss_one (ss_ret (se_tup (sa_cons (se_str [106, 111, 105, 110]) (sa_cons (se_str [102]) (sa_cons (e_tuple rfl T.z_tuple (e_add rfl (se_var 2) (e_mul (se_lst (sa_cons (se_tup (sa_cons (se_str [117, 115, 101]) (sa_cons (se_str [120]) sa_nil))) sa_nil)) (e_sub (e_sub (se_var 0) se_int) (e_mul se_int (se_var 1)))))) sa_nil)))))))
theorem ok_111 (T : Txt K w mg ga Tb fa fd) (hc : ∀ j, FnOk P w K mg base (L2.CX P w) (4 * m) (fa j) (fd j) (psn j) (spM (GG K ga Tb) (c j))) : FnOk P w K mg base (L2.CX P w) (4 * m + 4) (fa 111) (fd 111) (psn 111) (spM (GG K ga Tb) (mBody 2 4 (b_111 c))) :=
  fn_ok T.u111 sc_111 fun cdv A outer s H E hr =>
  (sss_cons (ss_set 2 sc_111.nd (se_var 1))
  (sss_cons (ss_for rfl (passes_of rfl) (si_range1 T.z_range (sa_cons (e_sub (se_var 0) se_int) sa_nil)) (sg_name 3 sc_111.nd) (sss_one (ss_set 2 sc_111.nd (se_tup (sa_cons (se_str [106, 111, 105, 110]) (sa_cons (se_str [102]) (sa_cons (se_tup (sa_cons (se_var 2) sa_nil)) sa_nil)))))))
  (sss_one (ss_ret (se_var 2)))))
theorem lm_112 {scope : Scope} (h : LamX.lamSB (defScope st_112) scope = true) : LamX.LamS (defScope st_112) scope := LamX.lamS_by h
theorem ok_112 (T : Txt K w mg ga Tb fa fd) (LT : Lt base mg Tb fd) (hc : ∀ j, FnOk P w K mg base (L2.CX P w) (4 * m) (fa j) (fd j) (psn j) (spM (GG K ga Tb) (c j))) (hq : ∀ j, FnG P w K mg base (L2.CX P w) (4 * m) (fa j) (fd j) (psn j) (spM (GG K ga Tb) (q j))) : FnG P w K mg base (L2.CX P w) (4 * m + 4) (fa 112) (fd 112) (psn 112) (spM (GG K ga Tb) (mBody 0 1 (b_112 c q))) :=
  fn_okC T.u112 sc_112 fun cdv A outer s H E hcd hgd hr =>
  by
    obtain ⟨cc, Pt, hc0, TB, hin, hun⟩ := (LT.c_112).ex
    have hcode : cdv = .ref cc := hcd.symm.trans hc0
    exact (sss_cons (ss_for rfl (passes_of rfl) (si_seq rfl (se_lst (sa_cons (se_call ((hc 110).mono (by omega)) hr (takes_of rfl rfl rfl rfl) T.m110 T.u110.kp T.b110 (sa_cons se_int (sa_cons se_int sa_nil))) (sa_cons (se_call ((hc 111).mono (by omega)) hr (takes_of rfl rfl rfl rfl) T.m111 T.u111.kp T.b111 (sa_cons se_int (sa_cons (se_tup (sa_cons (se_str [117, 115, 101]) (sa_cons (se_str [120]) sa_nil))) sa_nil))) sa_nil)))) (sg_name 0 sc_112.nd) (sss_one (ss_if (SW.st (sw_or (t_isnt (by
    obtain ⟨oc, od, kV, doc, pm, an, cdv', ct, osl, hfd, lk, hcg⟩ := T.u108.ex
    have bq := T.b108
    rw [hfd] at lk bq
    exact se_lamN (Ng := nm_108) (cl := tc_108) (k := 4 * m + 1) kkE_ok rfl rfl T.m108 T.u108.kp lk hcg bq sc_108 rfl (.inl rfl)
      (tg_108 T rfl rfl hgd hr)
      TB hcode hin hun hr (lm_112 (by decide +kernel)) rfl (by intro _ _ _ _ _; rfl)
      (fun A outer s H E f c' hr' => (se_make (c := 0) T.mk0 rfl ((hc 18).mono (by omega)) hr' (takes_of rfl rfl rfl rfl) T.g_Term T.b18 (sa_cons (se_var 0) sa_nil)))) se_non) (sw_or1 (t_isnt (se_call ((hc 10).mono (by omega)) hr (takes_of rfl rfl rfl rfl) T.m10 T.u10.kp T.b10 (sa_cons (se_var 0) sa_nil)) se_bl)))) (sss_one (ss_ret se_bl)) sss_nil)))
  (sss_cons (ss_if (t_ne rfl hr (by
    obtain ⟨oc, od, kV, doc, pm, an, cdv', ct, osl, hfd, lk, hcg⟩ := T.u108.ex
    have bq := T.b108
    rw [hfd] at lk bq
    exact se_lamN (Ng := nm_108) (cl := tc_108) (k := 4 * m + 1) kkE_ok rfl rfl T.m108 T.u108.kp lk hcg bq sc_108 rfl (.inl rfl)
      (tg_108 T rfl rfl hgd hr)
      TB hcode hin hun hr (lm_112 (by decide +kernel)) rfl (by intro _ _ _ _ _; rfl)
      (fun A outer s H E f c' hr' => (se_make (c := 0) T.mk0 rfl ((hc 18).mono (by omega)) hr' (takes_of rfl rfl rfl rfl) T.g_Term T.b18 (sa_cons (se_call ((hc 110).mono (by omega)) hr' (takes_of rfl rfl rfl rfl) T.m110 T.u110.kp T.b110 (sa_cons se_int (sa_cons se_int sa_nil))) sa_nil)))) (se_lst (sa_cons (se_str [109, 97, 110, 121]) (sa_cons se_int (sa_cons se_bl sa_nil))))) (sss_one (ss_ret se_bl)) sss_nil)
  (sss_cons (ss_if (t_isnt (se_call ((hc 10).mono (by omega)) hr (takes_of rfl rfl rfl rfl) T.m10 T.u10.kp T.b10 (sa_cons (se_call ((hc 110).mono (by omega)) hr (takes_of rfl rfl rfl rfl) T.m110 T.u110.kp T.b110 (sa_cons se_int (sa_cons se_int sa_nil))) sa_nil)) se_bl) (sss_one (ss_ret se_bl)) sss_nil)
  (sss_cons (ss_if (t_ne rfl hr (by
    obtain ⟨oc, od, kV, doc, pm, an, cdv', ct, osl, hfd, lk, hcg⟩ := T.u108.ex
    have bq := T.b108
    rw [hfd] at lk bq
    exact se_lamN (Ng := nm_108) (cl := tc_108) (k := 4 * m + 1) kkE_ok rfl rfl T.m108 T.u108.kp lk hcg bq sc_108 rfl (.inl rfl)
      (tg_108 T rfl rfl hgd hr)
      TB hcode hin hun hr (lm_112 (by decide +kernel)) rfl (by intro _ _ _ _ _; rfl)
      (fun A outer s H E f c' hr' => (se_make (c := 0) T.mk0 rfl ((hc 18).mono (by omega)) hr' (takes_of rfl rfl rfl rfl) T.g_Term T.b18 (sa_cons (se_call ((hc 110).mono (by omega)) hr' (takes_of rfl rfl rfl rfl) T.m110 T.u110.kp T.b110 (sa_cons se_int (sa_cons se_int sa_nil))) sa_nil)))) (se_lst (sa_cons (se_str [109, 97, 110, 121]) (sa_cons se_int (sa_cons se_bl sa_nil))))) (sss_one (ss_ret se_bl)) sss_nil)
  (sss_cons (ss_if (t_ne rfl hr (by
    obtain ⟨oc, od, kV, doc, pm, an, cdv', ct, osl, hfd, lk, hcg⟩ := T.u108.ex
    have bq := T.b108
    rw [hfd] at lk bq
    exact se_lamN (Ng := nm_108) (cl := tc_108) (k := 4 * m + 1) kkE_ok rfl rfl T.m108 T.u108.kp lk hcg bq sc_108 rfl (.inl rfl)
      (tg_108 T rfl rfl hgd hr)
      TB hcode hin hun hr (lm_112 (by decide +kernel)) rfl (by intro _ _ _ _ _; rfl)
      (fun A outer s H E f c' hr' => (se_make (c := 0) T.mk0 rfl ((hc 18).mono (by omega)) hr' (takes_of rfl rfl rfl rfl) T.g_Term T.b18 (sa_cons (se_call ((hc 111).mono (by omega)) hr' (takes_of rfl rfl rfl rfl) T.m111 T.u111.kp T.b111 (sa_cons se_int (sa_cons (se_tup (sa_cons (se_str [117, 115, 101]) (sa_cons (se_str [120]) sa_nil))) sa_nil))) sa_nil)))) (se_lst (sa_cons (se_str [109, 97, 110, 121]) (sa_cons se_int (sa_cons se_bl sa_nil))))) (sss_one (ss_ret se_bl)) sss_nil)
  (sss_one (ss_ret (e_eq rfl hr (by
    obtain ⟨oc, od, kV, doc, pm, an, cdv', ct, osl, hfd, lk, hcg⟩ := T.u108.ex
    have bq := T.b108
    rw [hfd] at lk bq
    exact se_lamN (Ng := nm_108) (cl := tc_108) (k := 4 * m + 1) kkE_ok rfl rfl T.m108 T.u108.kp lk hcg bq sc_108 rfl (.inl rfl)
      (tg_108 T rfl rfl hgd hr)
      TB hcode hin hun hr (lm_112 (by decide +kernel)) rfl (by intro _ _ _ _ _; rfl)
      (fun A outer s H E f c' hr' => (se_make (c := 0) T.mk0 rfl ((hc 18).mono (by omega)) hr' (takes_of rfl rfl rfl rfl) T.g_Term T.b18 (sa_cons (se_call ((hc 111).mono (by omega)) hr' (takes_of rfl rfl rfl rfl) T.m111 T.u111.kp T.b111 (sa_cons se_int (sa_cons (se_call ((hc 110).mono (by omega)) hr' (takes_of rfl rfl rfl rfl) T.m110 T.u110.kp T.b110 (sa_cons se_int (sa_cons se_int sa_nil))) sa_nil))) sa_nil)))) (se_lst (sa_cons (se_str [109, 97, 110, 121]) (sa_cons se_int (sa_cons se_bl sa_nil))))))))))))
theorem ok_113 (T : Txt K w mg ga Tb fa fd) (hc : ∀ j, FnOk P w K mg base (L2.CX P w) (4 * m) (fa j) (fd j) (psn j) (spM (GG K ga Tb) (c j))) : FnOk P w K mg base (L2.CX P w) (4 * m + 4) (fa 113) (fd 113) (psn 113) (spM (GG K ga Tb) (mBody 0 2 (b_113 c))) :=
  fn_ok T.u113 sc_113 fun cdv A outer s H E hr =>
  (sss_cons (ss_for rfl (passes_of rfl) (si_seq rfl (se_lst (sa_cons (se_str [97]) (sa_cons (se_str [97, 98, 99, 100, 101, 102, 103, 104]) (sa_cons (se_str [117, 115, 101]) (sa_cons (se_str [122, 122]) sa_nil)))))) (sg_name 0 sc_113.nd) (sss_one (ss_if (SW.st (sw_or (t_isnt (se_call ((hc 7).mono (by omega)) hr (takes_of rfl rfl rfl rfl) T.m7 T.u7.kp T.b7 (sa_cons (se_var 0) sa_nil)) se_bl) (sw_or1 (t_isnt (se_call ((hc 10).mono (by omega)) hr (takes_of rfl rfl rfl rfl) T.m10 T.u10.kp T.b10 (sa_cons (se_tup (sa_cons (se_str [117, 115, 101]) (sa_cons (se_var 0) sa_nil))) sa_nil)) se_bl)))) (sss_one (ss_ret se_bl)) sss_nil)))
  (sss_cons (ss_for rfl (passes_of rfl) (si_seq rfl (se_lst (sa_cons se_non (sa_cons se_int (sa_cons (se_str []) (sa_cons (se_str [65]) (sa_cons (se_str [97, 66]) (sa_cons (se_str [97, 98, 99, 100, 101, 102, 103, 104, 105]) (sa_cons (se_str [97, 49]) (sa_cons (se_str [97, 32, 98]) (sa_cons (se_str [97, 10]) (sa_cons (se_lst (sa_cons (se_str [97]) sa_nil)) (sa_cons se_bl (sa_cons (se_tup (sa_cons (se_str [97]) sa_nil)) sa_nil)))))))))))))) (sg_name 1 sc_113.nd) (sss_one (ss_if (SW.st (sw_or (t_isnt (se_call ((hc 7).mono (by omega)) hr (takes_of rfl rfl rfl rfl) T.m7 T.u7.kp T.b7 (sa_cons (se_var 1) sa_nil)) se_bl) (sw_or1 (t_isnt (se_call ((hc 10).mono (by omega)) hr (takes_of rfl rfl rfl rfl) T.m10 T.u10.kp T.b10 (sa_cons (se_tup (sa_cons (se_str [117, 115, 101]) (sa_cons (se_var 1) sa_nil))) sa_nil)) se_bl)))) (sss_one (ss_ret se_bl)) sss_nil)))
  (sss_one (ss_ret se_bl))))
theorem lev (T : Txt K w mg ga Tb fa fd) (LT : Lt base mg Tb fd) : ∀ (m j : Nat), FnOk P w K mg base (L2.CX P w) (4 * m) (fa j) (fd j) (psn j) (spM (GG K ga Tb) (cl m j))
  | 0, j => fn_no
  | m + 1, j => by
    have hc := lev T LT m
    show FnOk P w K mg base (L2.CX P w) (4 * m + 4) (fa j) (fd j) (psn j) (spM (GG K ga Tb) (bod (cl m) j))
    unfold bod
    split
    · exact ok_7 T hc
    · exact ok_10 T hc
    · exact ok_11 T hc
    · exact ok_13 T hc
    · exact ok_14 T hc
    · exact ok_16 T hc
    · exact ok_17 T hc
    · exact ok_18 T hc
    · exact ok_55 T hc
    · exact ok_56 T hc
    · exact ok_57 T hc
    · exact ok_59 T hc
    · exact ok_60 T hc
    · exact ok_61 T hc
    · exact ok_62 T hc
    · exact ok_63 T hc
    · exact ok_64 T hc
    · exact ok_102 T hc
    · exact ok_103 T hc
    · exact ok_104 T hc
    · exact ok_105 T hc
    · exact ok_109 T hc
    · exact ok_110 T hc
    · exact ok_111 T hc
    · exact ok_113 T hc
    · exact fn_no
theorem levq (T : Txt K w mg ga Tb fa fd) (LT : Lt base mg Tb fd) : ∀ (m j : Nat), FnG P w K mg base (L2.CX P w) (4 * m) (fa j) (fd j) (psn j) (spM (GG K ga Tb) (clq m j))
  | 0, j => FnG.of fn_no
  | m + 1, j => by
    have hq := levq T LT m
    have hc := lev (P := P) T LT m
    show FnG P w K mg base (L2.CX P w) (4 * m + 4) (fa j) (fd j) (psn j) (spM (GG K ga Tb) (qbod (cl m) (clq m) j))
    unfold qbod
    split
    · exact ok_112 T LT hc hq
    · exact FnG.of fn_no
end
end K02
end L2.Lv
end
section
set_option maxRecDepth 100000
set_option maxHeartbeats 4000000
set_option autoImplicit false
namespace L2.Lv

/-! ### weakest preconditions over the plain machine -/
def Ok {α : Type} (x : Re α) (P : α → Hm → Prop) : Prop := match x with
  | .ok a h => P a h
  | _ => False
def OkS (x : Rs) (N : En → Hm → Prop) (R : D → Hm → Prop) : Prop := match x with
  | .nx e h => N e h
  | .rt d h => R d h
  | _ => False
section
variable {α β : Type} {P : D → Hm → Prop} {e : En} {h : Hm} {N : En → Hm → Prop} {R : D → Hm → Prop}
theorem Ok.mono {x : Re α} {P Q : α → Hm → Prop} (o : Ok x P) (w : ∀ a h, P a h → Q a h) : Ok x Q := by
  cases x with
  | ok a h => exact w a h o
  | ex c v h => exact o
  | no => exact o
theorem OkS.mono {x : Rs} {N N' : En → Hm → Prop} {R R' : D → Hm → Prop} (o : OkS x N R) (w : ∀ a h, N a h → N' a h) (w2 : ∀ a h, R a h → R' a h) : OkS x N' R' := by
  cases x with
  | nx e h => exact w e h o
  | rt d h => exact w2 d h o
  | _ => exact o
theorem ok_ok {a : α} {h : Hm} {P : α → Hm → Prop} : Ok (.ok a h) P ↔ P a h := Iff.rfl
theorem ok_no {P : α → Hm → Prop} : Ok (Re.no : Re α) P ↔ False := Iff.rfl
theorem ok_bind {x : Re α} {k : α → Hm → Re β} {P : β → Hm → Prop} : Ok (x.bind k) P ↔ Ok x fun a h => Ok (k a h) P := by cases x <;> exact Iff.rfl
theorem ok_bs {x : Re α} {k : α → Hm → Rs} : OkS (x.bs e k) N R ↔ Ok x fun a h => OkS (k a h) N R := by cases x <;> exact Iff.rfl
theorem ok_ite {c : Prop} [Decidable c] {x y : Re α} {P : α → Hm → Prop} : Ok (if c then x else y) P ↔ if c then Ok x P else Ok y P := by split <;> exact Iff.rfl
theorem oks_ite {c : Prop} [Decidable c] {x y : Rs} : OkS (if c then x else y) N R ↔ if c then OkS x N R else OkS y N R := by split <;> exact Iff.rfl
theorem oks_nx {e : En} {h : Hm} : OkS (.nx e h) N R ↔ N e h := Iff.rfl
theorem oks_rt {d : D} {h : Hm} : OkS (.rt d h) N R ↔ R d h := Iff.rfl
theorem oks_no : OkS .no N R ↔ False := Iff.rfl
theorem ok_some {x : Option D} {d : D} {f : D → Re β} {P : β → Hm → Prop} : True := trivial
theorem w_var {i : Nat} {d : D} (q : e[i]? = some (some d)) : Ok (mVar i e h) P ↔ P d h := by unfold mVar; rw [q]; exact Iff.rfl
theorem w_c {d : D} : Ok (mC d e h) P ↔ P d h := Iff.rfl
theorem w_nil {P : List D → Hm → Prop} : Ok (mNil e h) P ↔ P [] h := Iff.rfl
theorem w_cons {a : ME} {r : MA} {P : List D → Hm → Prop} : Ok (mCons a r e h) P ↔ Ok (a e h) fun x h1 => Ok (r e h1) fun xs h2 => P (x :: xs) h2 := by
  unfold mCons; rw [ok_bind]; simp only [ok_bind, ok_ok]
theorem w_tup {a : MA} : Ok (mTup a e h) P ↔ Ok (a e h) fun xs h1 => xs.length ≤ big ∧ P (.tup xs) h1 := by
  unfold mTup; rw [ok_bind]
  constructor <;> intro o <;> refine o.mono fun xs h1 q => ?_
  · split at q
    · exact ⟨by assumption, q⟩
    · exact q.elim
  · rw [if_pos q.1]; exact q.2
theorem w_newL {xs : List D} : Ok (newL xs h) P ↔ xs.length ≤ big ∧ P (.ref h.length) (h ++ [.lst xs]) := by
  unfold newL
  by_cases c : xs.length ≤ big
  · rw [if_pos c]; exact ⟨fun q => ⟨c, q⟩, fun q => q.2⟩
  · rw [if_neg c]; exact ⟨fun q => q.elim, fun q => absurd q.1 c⟩
theorem w_lst {a : MA} : Ok (mLst a e h) P ↔ Ok (a e h) fun xs h1 => xs.length ≤ big ∧ P (.ref h1.length) (h1 ++ [.lst xs]) := by
  unfold mLst; rw [ok_bind]; simp only [w_newL]
theorem w_bin {p : D → D → Hm → Re D} {a b : ME} : Ok (mBin p a b e h) P ↔ Ok (a e h) fun x h1 => Ok (b e h1) fun y h2 => Ok (p x y h2) P := by
  unfold mBin; simp only [ok_bind]
theorem w_app {p : List D → Hm → Re D} {a : MA} : Ok (mApp p a e h) P ↔ Ok (a e h) fun xs h1 => Ok (p xs h1) P := by unfold mApp; rw [ok_bind]
theorem w_call {p : List D → Hm → Re D} {a : MA} : Ok (mCall p a e h) P ↔ Ok (a e h) fun xs h1 => Ok (p xs h1) P := w_app
theorem w_un {p : D → Hm → Re D} {a : ME} : Ok (mUn p a e h) P ↔ Ok (a e h) fun x h1 => Ok (p x h1) P := by unfold mUn; rw [ok_bind]
theorem w_neg {a : ME} : Ok (mNeg a e h) P ↔ Ok (a e h) fun x h1 => ∃ i, x = .int i ∧ P (.int (-i)) h1 := by
  unfold mNeg; rw [ok_bind]
  constructor <;> intro o <;> refine o.mono fun x h1 q => ?_
  · split at q
    · exact ⟨_, rfl, q⟩
    · exact q.elim
  · obtain ⟨i, rfl, q⟩ := q; exact q
theorem w_if {t : MT} {a b : ME} : Ok (mIf t a b e h) P ↔ Ok (t e h) fun c h1 => if c = true then Ok (a e h1) P else Ok (b e h1) P := by
  unfold mIf; rw [ok_bind]; simp only [ok_ite]
theorem w_tb {a : ME} {P : Bool → Hm → Prop} : Ok (mTb a e h) P ↔ Ok (a e h) fun x h1 => ∃ b, x = .bl b ∧ P b h1 := by
  unfold mTb; rw [ok_bind]
  constructor <;> intro o <;> refine o.mono fun x h1 q => ?_
  · split at q
    · exact ⟨_, rfl, q⟩
    · exact q.elim
  · obtain ⟨i, rfl, q⟩ := q; exact q
theorem w_tru {a : ME} {P : Bool → Hm → Prop} : Ok (mTru a e h) P ↔ Ok (a e h) fun x h1 => ∃ b, truD h1 x = some b ∧ P b h1 := by
  unfold mTru; rw [ok_bind]
  constructor <;> intro o <;> refine o.mono fun x h1 q => ?_
  · split at q
    · exact ⟨_, by assumption, q⟩
    · exact q.elim
  · obtain ⟨i, e1, q⟩ := q; rw [e1]; exact q
theorem w_not {a : MT} {P : Bool → Hm → Prop} : Ok (mNotT a e h) P ↔ Ok (a e h) fun b h1 => P (!b) h1 := by unfold mNotT; rw [ok_bind]; simp only [ok_ok]
theorem w_and {a b : MT} {P : Bool → Hm → Prop} : Ok (mAndT a b e h) P ↔ Ok (a e h) fun c h1 => if c = true then Ok (b e h1) P else P false h1 := by unfold mAndT; rw [ok_bind]; simp only [ok_ite, ok_ok]
theorem w_or {a b : MT} {P : Bool → Hm → Prop} : Ok (mOrT a b e h) P ↔ Ok (a e h) fun c h1 => if c = true then P true h1 else Ok (b e h1) P := by unfold mOrT; rw [ok_bind]; simp only [ok_ite, ok_ok]
theorem w_andV {a b : ME} : Ok (mAndV a b e h) P ↔ Ok (a e h) fun d h1 => ∃ c, truD h1 d = some c ∧ if c = true then Ok (b e h1) P else P d h1 := by
  unfold mAndV; rw [ok_bind]
  constructor <;> intro o <;> refine o.mono fun x h1 q => ?_
  · split at q
    · exact ⟨true, by assumption, q⟩
    · exact ⟨false, by assumption, q⟩
    · exact q.elim
  · obtain ⟨c, e1, q⟩ := q; rw [e1]; cases c <;> exact q
theorem w_orV {a b : ME} : Ok (mOrV a b e h) P ↔ Ok (a e h) fun d h1 => ∃ c, truD h1 d = some c ∧ if c = true then P d h1 else Ok (b e h1) P := by
  unfold mOrV; rw [ok_bind]
  constructor <;> intro o <;> refine o.mono fun x h1 q => ?_
  · split at q
    · exact ⟨true, by assumption, q⟩
    · exact ⟨false, by assumption, q⟩
    · exact q.elim
  · obtain ⟨c, e1, q⟩ := q; rw [e1]; cases c <;> exact q
theorem w_notV {a : ME} : Ok (mNotV a e h) P ↔ Ok (a e h) fun d h1 => ∃ c, truD h1 d = some c ∧ P (.bl (!c)) h1 := by
  unfold mNotV; rw [ok_bind]
  constructor <;> intro o <;> refine o.mono fun x h1 q => ?_
  · split at q
    · exact ⟨_, by assumption, q⟩
    · exact q.elim
  · obtain ⟨c, e1, q⟩ := q; rw [e1]; exact q
/-! statements -/
theorem w_seq {a b : MS} : OkS (mSeq a b e h) N R ↔ OkS (a e h) (fun e' h' => OkS (b e' h') N R) R := by
  unfold mSeq; cases a e h <;> exact Iff.rfl
theorem w_pass : OkS (mPass e h) N R ↔ N e h := Iff.rfl
theorem w_set {i : Nat} {a : ME} : OkS (mSet i a e h) N R ↔ Ok (a e h) fun d h1 => N (e.set i (some d)) h1 := by unfold mSet; rw [ok_bs]; exact Iff.rfl
theorem w_ret {a : ME} : OkS (mRet a e h) N R ↔ Ok (a e h) R := by unfold mRet; rw [ok_bs]; exact Iff.rfl
theorem w_drop {a : ME} : OkS (mDrop a e h) N R ↔ Ok (a e h) fun _ h1 => N e h1 := by unfold mDrop; rw [ok_bs]; exact Iff.rfl
theorem w_ifS {t : MT} {a b : MS} : OkS (mIfS t a b e h) N R ↔ Ok (t e h) fun c h1 => if c = true then OkS (a e h1) N R else OkS (b e h1) N R := by
  unfold mIfS; rw [ok_bs]; simp only [oks_ite]
theorem w_par {i j : Nat} {a : MA} : OkS (mPar i j a e h) N R ↔ Ok (a e h) fun ds h1 => ∃ d d', ds = [d, d'] ∧ N ((e.set i (some d)).set j (some d')) h1 := by
  unfold mPar; rw [ok_bs]
  constructor <;> intro o <;> refine o.mono fun x h1 q => ?_
  · split at q
    · exact ⟨_, _, rfl, q⟩
    · exact q.elim
  · obtain ⟨d, d', rfl, q⟩ := q; exact q
theorem w_asg {g : MG} {a : ME} : OkS (mAsg g a e h) N R ↔ Ok (a e h) fun d h1 => ∃ e', g d e h1 = some e' ∧ N e' h1 := by
  unfold mAsg; rw [ok_bs]
  constructor <;> intro o <;> refine o.mono fun x h1 q => ?_
  · split at q
    · exact ⟨_, by assumption, q⟩
    · exact q.elim
  · obtain ⟨e', e1, q⟩ := q; rw [e1]; exact q
theorem w_sub {o i v : ME} : OkS (mSub o i v e h) N R ↔ Ok (v e h) fun d h1 => Ok (o e h1) fun x h2 => Ok (i e h2) fun k h3 =>
    ∃ n j xs, x = .ref n ∧ k = .int j ∧ h3[n]? = some (.lst xs) ∧ (0 ≤ j ∧ j < xs.length) ∧ N e (h3.set n (.lst (xs.set j.toNat d))) := by
  unfold mSub; simp only [ok_bs]
  constructor <;> intro w <;> refine w.mono fun d h1 w1 => w1.mono fun x h2 w2 => w2.mono fun k h3 q => ?_
  · split at q
    · split at q
      · split at q
        · exact ⟨_, _, _, rfl, rfl, by assumption, by assumption, q⟩
        · exact q.elim
      · exact q.elim
    · exact q.elim
  · obtain ⟨n, j, xs, rfl, rfl, e1, c, q⟩ := q
    simp only [e1]
    rw [if_pos c]
    exact q
/-! primitives -/
theorem w_idxL {n : Nat} {i : Int} {xs : List D} {d : D} (q : itemsOf h n = some xs) (a : atD xs i = some d) : Ok (pIdx (.ref n) (.int i) h) P ↔ P d h := by
  unfold pIdx; simp only [q, a]; exact Iff.rfl
theorem w_idxT {i : Int} {xs : List D} {d : D} (a : atD xs i = some d) : Ok (pIdx (.tup xs) (.int i) h) P ↔ P d h := by
  unfold pIdx; simp only [a]; exact Iff.rfl
theorem w_addI {i j : Int} : Ok (pAdd (.int i) (.int j) h) P ↔ P (.int (i + j)) h := Iff.rfl
theorem w_subI {i j : Int} : Ok (pSub (.int i) (.int j) h) P ↔ P (.int (i - j)) h := by unfold pSub pInt; rfl
theorem w_lt {i j : Int} : Ok (pLt (.int i) (.int j) h) P ↔ P (.bl (decide (i < j))) h := Iff.rfl
theorem w_le {i j : Int} : Ok (pLe (.int i) (.int j) h) P ↔ P (.bl (decide (i ≤ j))) h := Iff.rfl
theorem w_gt {i j : Int} : Ok (pGt (.int i) (.int j) h) P ↔ P (.bl (decide (j < i))) h := Iff.rfl
theorem w_ge {i j : Int} : Ok (pGe (.int i) (.int j) h) P ↔ P (.bl (decide (j ≤ i))) h := Iff.rfl
theorem w_int {i : Int} : Ok (pInt1 [.int i] h) P ↔ P (.int i) h := Iff.rfl
theorem w_intB {b : Bool} : Ok (pInt1 [.bl b] h) P ↔ P (.int (if b then 1 else 0)) h := Iff.rfl
theorem w_md {i j : Int} (q : 0 < j) : Ok (pMd (.int i) (.int j) h) P ↔ P (.int (i % j)) h := by
  unfold pMd pInt
  simp only [decide_eq_true q, if_true]
  exact Iff.rfl
theorem w_fd {i j : Int} (q : cFd i j = true) : Ok (pFd (.int i) (.int j) h) P ↔ P (.int (i / j)) h := by
  unfold pFd pInt
  simp only [q, if_true]
  exact Iff.rfl
theorem w_mul {i j : Int} (q : cMul i j = true) : Ok (pMulA (.int i) (.int j) h) P ↔ P (.int (i * j)) h := by
  unfold pMulA pMulI pInt
  simp only [q, if_true]
  exact Iff.rfl
theorem mul_l {i j : Int} (a : -(2 ^ 64) < i) (b : i < 2 ^ 64) : cMul i j = true := by unfold cMul; simp; omega
theorem mul_r {i j : Int} (a : -(2 ^ 64) < j) (b : j < 2 ^ 64) : cMul i j = true := by unfold cMul; simp; omega
theorem fd_ok {i j : Int} (a : 0 < j) (b : j < 2 ^ 64) : cFd i j = true := by
  unfold cFd
  rw [Bool.and_eq_true]
  refine ⟨decide_eq_true a, decide_eq_true ?_⟩
  have h1 : j.natAbs < 2 ^ 64 := by omega
  have h2 : j.natAbs ≠ 0 := by omega
  have := (Nat.log2_lt h2).mpr h1
  omega

/-! explicit slots -/
def ok1 (x : Option (Option D)) (k : D → Prop) : Prop := match x with
  | some (some d) => k d
  | _ => False
theorem ok1_some {d : D} {k : D → Prop} : ok1 (some (some d)) k ↔ k d := Iff.rfl
theorem w_v {i : Nat} : Ok (mVar i e h) P ↔ ok1 e[i]? fun d => P d h := by
  unfold mVar ok1
  cases e[i]? with
  | none => exact Iff.rfl
  | some o => cases o <;> exact Iff.rfl
theorem w_ix {n : Nat} {i : Int} : Ok (pIdx (.ref n) (.int i) h) P ↔ ∃ xs, itemsOf h n = some xs ∧ ∃ d, atD xs i = some d ∧ P d h := by
  unfold pIdx
  dsimp only
  cases q : itemsOf h n with
  | none => exact ⟨fun z => z.elim, fun ⟨_, z, _⟩ => by cases z⟩
  | some xs =>
    dsimp only
    cases a : atD xs i with
    | none => exact ⟨fun z => z.elim, fun ⟨ys, z, d, w, _⟩ => by cases z; rw [a] at w; cases w⟩
    | some d => exact ⟨fun z => ⟨xs, rfl, d, a, z⟩, fun ⟨ys, z, d', w, p⟩ => by cases z; rw [a] at w; cases w; exact p⟩
theorem w_ixT {xs : List D} {i : Int} : Ok (pIdx (.tup xs) (.int i) h) P ↔ ∃ d, atD xs i = some d ∧ P d h := by
  unfold pIdx
  dsimp only
  cases a : atD xs i with
  | none => exact ⟨fun z => z.elim, fun ⟨d, w, _⟩ => by cases w⟩
  | some d => exact ⟨fun z => ⟨d, rfl, z⟩, fun ⟨d', w, p⟩ => by cases w; exact p⟩
theorem at0 {α : Type} {x : α} {xs : List α} : atD (x :: xs) 0 = some x := rfl
theorem at1 {α : Type} {x y : α} {xs : List α} : atD (x :: y :: xs) 1 = some y := rfl
theorem at2 {α : Type} {x y z : α} {xs : List α} : atD (x :: y :: z :: xs) 2 = some z := rfl
theorem at3 {α : Type} {x y z w : α} {xs : List α} : atD (x :: y :: z :: w :: xs) 3 = some w := rfl
theorem w_lenL {n : Nat} {xs : List D} (q : itemsOf h n = some xs) : Ok (pLen [.ref n] h) P ↔ P (.int xs.length) h := by
  unfold pLen; simp only [q]; exact Iff.rfl
theorem w_append {n : Nat} {xs : List D} {d : D} (q : h[n]? = some (.lst xs)) (c : xs.length < big) : Ok (pAppend (.ref n) [d] h) P ↔ P .non (h.set n (.lst (xs ++ [d]))) := by
  unfold pAppend; simp only [q]; rw [if_pos c]; exact Iff.rfl
theorem w_methL {p : D → List D → Hm → Re D} {o : ME} {a : MA} : Ok (mMethL p o a e h) P ↔ Ok (o e h) fun x h1 => isLst h1 x = true ∧ Ok (a e h1) fun xs h2 => Ok (p x xs h2) P := by
  unfold mMethL
  rw [ok_bind]
  constructor <;> intro w <;> refine w.mono fun x h1 q => ?_
  · rw [ok_ite] at q
    split at q
    · rename_i c
      exact ⟨c, by rw [ok_bind] at q; exact q⟩
    · exact q.elim
  · rw [if_pos q.1, ok_bind]; exact q.2
theorem isLst_of {n : Nat} {xs : List D} (q : itemsOf h n = some xs) : isLst h (.ref n) = true := by unfold isLst; simp only [q]
theorem w_tupleL {n : Nat} {xs : List D} (q : itemsOf h n = some xs) (c : xs.length ≤ big) : Ok (pTuple [.ref n] h) P ↔ P (.tup xs) h := by
  unfold pTuple; simp only [q]; first | exact Iff.rfl | (rw [if_pos c]; exact Iff.rfl)
theorem w_rng1 {a : MA} {P : Src → Hm → Prop} : Ok (mRng1 a e h) P ↔ Ok (a e h) fun ds h1 => ∃ j : Int, ds = [.int j] ∧ smallI j = true ∧ P (.fix (intsR 0 j.toNat)) h1 := by
  unfold mRng1; rw [ok_bind]
  constructor <;> intro w <;> refine w.mono fun ds h1 q => ?_
  · split at q
    · split at q
      · exact ⟨_, rfl, by assumption, q⟩
      · exact q.elim
    · exact q.elim
  · obtain ⟨j, rfl, c, q⟩ := q
    dsimp only
    rw [if_pos c]
    exact q
theorem w_for {it : MI} {g : MG} {b : MS} : OkS (mFor it g b e h) N R ↔ Ok (it e h) fun src h1 => OkS (mLoop src g b lots 0 e h1) N R := by unfold mFor; rw [ok_bs]
/-- a walk over values that stand still -/
theorem loop_fix {xs : List D} {g : MG} {b : MS} (Inv : Nat → En → Hm → Prop) (step : ∀ (j : Nat) (x : D) (e : En) (h : Hm), xs[j]? = some x → Inv j e h → ∃ e1, g x e h = some e1 ∧ OkS (b e1 h) (Inv (j + 1)) R) (fin : ∀ e h, Inv xs.length e h → N e h) :
    ∀ (n f j : Nat) (e : En) (h : Hm), j + n = xs.length → n < f → Inv j e h → OkS (mLoop (.fix xs) g b f j e h) N R
  | 0, f + 1, j, e, h, hj, _, v => by
    have q : xs[j]? = none := List.getElem?_eq_none (by omega)
    unfold mLoop
    simp only [nxt, q]
    have ej : j = xs.length := by omega
    subst ej
    exact fin e h v
  | n + 1, f + 1, j, e, h, hj, hf, v => by
    have hl : j < xs.length := by omega
    have q : xs[j]? = some xs[j] := List.getElem?_eq_getElem hl
    obtain ⟨e1, ge, o⟩ := step j _ e h q v
    unfold mLoop
    simp only [nxt, q, ge]
    revert o
    cases b e1 h with
    | nx e2 h2 => exact fun o => loop_fix Inv step fin n f (j + 1) e2 h2 (by omega) (by omega) o
    | rt d h2 => exact fun o => o
    | bk e2 h2 => exact fun o => o.elim
    | ct e2 h2 => exact fun o => o.elim
    | ex c d e2 h2 => exact fun o => o.elim
    | no => exact fun o => o.elim
/-- a comprehension over values that stand still, no test: the results one by one -/
theorem cloop_fix {xs : List D} {g : MG} {el : ME} {e0 : En} {n : Nat} (Inv : Nat → List D → Hm → Prop) (hn : ∀ j acc h, Inv j acc h → h[n]? = some (.lst acc))
    (step : ∀ (j : Nat) (x : D) (acc : List D) (h : Hm), xs[j]? = some x → Inv j acc h → ∃ e1, g x e0 h = some e1 ∧ Ok (el e1 h) fun y h2 => ∃ acc2, h2[n]? = some (.lst acc2) ∧ acc2.length < big ∧ Inv (j + 1) (acc2 ++ [y]) (h2.set n (.lst (acc2 ++ [y])))) (fin : ∀ acc h, Inv xs.length acc h → P (.ref n) h) :
    ∀ (k f j : Nat) (acc : List D) (h : Hm), j + k = xs.length → k < f → Inv j acc h → Ok (mCLoop (.fix xs) g mYes el e0 n f j h) P
  | 0, f + 1, j, acc, h, hj, _, v => by
    have q : xs[j]? = none := List.getElem?_eq_none (by omega)
    unfold mCLoop
    simp only [nxt, q]
    have ej : j = xs.length := by omega
    subst ej
    exact fin acc h v
  | k + 1, f + 1, j, acc, h, hj, hf, v => by
    have hl : j < xs.length := by omega
    have q : xs[j]? = some xs[j] := List.getElem?_eq_getElem hl
    obtain ⟨e1, ge, o⟩ := step j _ acc h q v
    unfold mCLoop
    simp only [nxt, q, ge, mYes]
    revert o
    cases el e1 h with
    | ok y h2 =>
      intro o
      obtain ⟨acc2, e2, c, v2⟩ := o
      simp only [e2]
      rw [if_pos c]
      exact cloop_fix Inv hn step fin k f (j + 1) _ _ (by omega) (by omega) v2
    | ex c d h2 => exact fun o => o.elim
    | no => exact fun o => o.elim
theorem w_comp {it : MI} {g : MG} {t : MT} {el : ME} {vs : List Nat} : Ok (mComp it g t el vs e h) P ↔ Ok (it e h) fun src h1 => Ok (mCLoop src g t el (wipeE e vs) h1.length lots 0 (h1 ++ [.lst []])) P := by unfold mComp; rw [ok_bind]
theorem w_eqI {i j : Int} : Ok (pEq (.int i) (.int j) h) P ↔ P (.bl (i == j)) h := by
  unfold pEq
  rw [if_pos (by rfl)]
  exact Iff.rfl
theorem w_ixL {n : Nat} {i : Int} {xs : List D} (q : itemsOf h n = some xs) : Ok (pIdx (.ref n) (.int i) h) P ↔ ∃ d, atD xs i = some d ∧ P d h := by
  rw [w_ix, q]
  exact ⟨fun ⟨ys, z, w⟩ => by cases z; exact w, fun w => ⟨xs, rfl, w⟩⟩
end
end L2.Lv
end
section
set_option maxRecDepth 100000
set_option maxHeartbeats 1000000
set_option autoImplicit false
namespace L2.Lv
namespace ND
open PySem
/-! ### how the laws draw, over any family of defs that holds these -/
abbrev CT := Nat → List D → Hm → Re D

def b_55 (c : CT) : MS :=
  (mSeq (mSet 2 (mC (.int 0)))
  (mSeq (mIfS (mTb (mBin pLt (mVar 1) (mApp pLen (mCons (mVar 0) mNil)))) (mSet 2 (mBin pIdx (mVar 0) (mVar 1))) mPass)
  (mSeq (mSet 3 (mApp (pMM maxI) (mCons (mApp pInt1 (mCons (mVar 2) mNil)) (mCons (mApp pInt1 (mCons (mBin pSub (mNeg (mC (.int 1))) (mVar 2)) mNil)) mNil))))
  (mSeq (mSet 4 (mBin pMd (mApp pInt1 (mCons (mBin pMulA (mBin pAdd (mBin pAdd (mBin pAdd (mBin pMd (mApp pInt1 (mCons (mVar 3) mNil)) (mC (.int 2147483629))) (mBin pMulA (mBin pMulA (mC (.int 7919)) (mVar 1)) (mVar 1))) (mBin pMulA (mC (.int 31)) (mVar 1))) (mC (.int 17))) (mC (.int 48271))) mNil)) (mC (.int 2147483647))))
  (mRet (mLst (mCons (mBin pMulA (mVar 3) (mApp pInt1 (mCons (mBin pGe (mVar 3) (mBin pPw (mC (.int 10)) (mC (.int 18)))) mNil))) (mCons (mVar 4) mNil))))))))
def b_56 (c : CT) : MS :=
  (mSeq (mIfS (mTb (mBin pGt (mBin pIdx (mVar 0) (mC (.int 0))) (mC (.int 0)))) (mSeq (mSet 2 (mBin pMd (mApp pInt1 (mCons (mBin pIdx (mVar 0) (mC (.int 0))) mNil)) (mVar 1)))
  (mSeq (mSub (mVar 0) (mC (.int 0)) (mBin pFd (mBin pIdx (mVar 0) (mC (.int 0))) (mVar 1)))
  (mRet (mVar 2)))) mPass)
  (mSeq (mSub (mVar 0) (mC (.int 1)) (mBin pMd (mApp pInt1 (mCons (mBin pAdd (mBin pMulA (mBin pIdx (mVar 0) (mC (.int 1))) (mC (.int 39373))) (mC (.int 7))) mNil)) (mC (.int 2147483647))))
  (mRet (mBin pMd (mApp pInt1 (mCons (mBin pFd (mBin pMd (mApp pInt1 (mCons (mBin pMulA (mBin pIdx (mVar 0) (mC (.int 1))) (mBin pIdx (mVar 0) (mC (.int 1)))) mNil)) (mC (.int 2147483629))) (mC (.int 32))) mNil)) (mVar 1)))))
def b_57 (c : CT) : MS :=
  (mRet (mBin pIdx (mVar 1) (mCall (c 56) (mCons (mVar 0) (mCons (mApp pLen (mCons (mVar 1) mNil)) mNil)))))
def b_59 (c : CT) : MS :=
  (mSeq (mSet 1 (mLst (mCons (mLst (mCons (mC (.str [120])) (mCons (mC (.str [121])) mNil))) (mCons (mLst (mCons (mC (.str [120])) (mCons (mC (.str [121])) (mCons (mC (.str [122])) (mCons (mC (.str [97])) mNil))))) (mCons (mLst (mCons (mC (.str [97])) (mCons (mC (.str [98])) (mCons (mC (.str [99])) (mCons (mC (.str [100])) (mCons (mC (.str [101])) (mCons (mC (.str [102])) mNil))))))) (mCons (mLst (mCons (mC (.str [120])) (mCons (mC (.str [97, 98, 99, 100, 101, 102, 103, 104])) (mCons (mC (.str [97, 97])) (mCons (mC (.str [98])) (mCons (mC (.str [122, 122])) mNil)))))) mNil))))))
  (mRet (mCall (c 57) (mCons (mVar 0) (mCons (mVar 1) mNil)))))
def b_60 (c : CT) : MS :=
  (mRet (mTup (mCons (mC (.str [117, 115, 101])) (mCons (mCall (c 57) (mCons (mVar 0) (mCons (mVar 1) mNil))) mNil))))
def b_61 (c : CT) : MS :=
  (mSeq (mIfS (mOrT (mTb (mBin pLt (mBin pIdx (mVar 2) (mC (.int 0))) (mC (.int 3)))) (mTb (mBin pEq (mCall (c 56) (mCons (mVar 0) (mCons (mC (.int 7)) mNil))) (mC (.int 0))))) (mRet (mLst (mCons (mCall (c 60) (mCons (mVar 0) (mCons (mVar 1) mNil))) (mCons (mLst (mCons (mBin pSub (mBin pIdx (mVar 2) (mC (.int 0))) (mC (.int 1))) (mCons (mBin pIdx (mVar 2) (mC (.int 1))) mNil))) mNil)))) mPass)
  (mSeq (mIfS (mAndT (mTb (mBin pGt (mBin pIdx (mVar 2) (mC (.int 1))) (mC (.int 0)))) (mTb (mBin pGt (mCall (c 56) (mCons (mVar 0) (mCons (mC (.int 3)) mNil))) (mC (.int 0))))) (mRet (mCall (c 62) (mCons (mVar 0) (mCons (mVar 1) (mCons (mVar 2) mNil))))) mPass)
  (mSeq (mPar 3 4 (mCons (mLst mNil) (mCons (mLst (mCons (mBin pSub (mBin pIdx (mVar 2) (mC (.int 0))) (mC (.int 1))) (mCons (mBin pIdx (mVar 2) (mC (.int 1))) mNil))) mNil)))
  (mSeq (mFor (mRng1 (mCons (mCall (c 57) (mCons (mVar 0) (mCons (mLst (mCons (mC (.int 0)) (mCons (mC (.int 1)) (mCons (mC (.int 2)) (mCons (mC (.int 2)) (mCons (mC (.int 3)) mNil)))))) mNil))) mNil)) (gSet 5) (mIfS (mTb (mBin pGt (mBin pIdx (mVar 4) (mC (.int 0))) (mC (.int 0)))) (mSeq (mAsg (gTupM [(gSet 6), (gSet 4)]) (mCall (c 61) (mCons (mVar 0) (mCons (mVar 1) (mCons (mVar 4) mNil)))))
  (mDrop (mMethL pAppend (mVar 3) (mCons (mVar 6) mNil)))) mPass))
  (mRet (mLst (mCons (mTup (mCons (mC (.str [106, 111, 105, 110])) (mCons (mCall (c 57) (mCons (mVar 0) (mCons (mLst (mCons (mC (.str [102])) (mCons (mC (.str [120])) (mCons (mC (.str [106, 111, 105, 110])) mNil)))) mNil))) (mCons (mApp pTuple (mCons (mVar 3) mNil)) mNil)))) (mCons (mVar 4) mNil))))))))
def b_62 (c : CT) : MS :=
  (mSeq (mPar 3 4 (mCons (mLst mNil) (mCons (mLst (mCons (mBin pSub (mBin pIdx (mVar 2) (mC (.int 0))) (mC (.int 1))) (mCons (mBin pSub (mBin pIdx (mVar 2) (mC (.int 1))) (mC (.int 1))) mNil))) mNil)))
  (mSeq (mFor (mRng1 (mCons (mCall (c 57) (mCons (mVar 0) (mCons (mLst (mCons (mC (.int 0)) (mCons (mC (.int 0)) (mCons (mC (.int 0)) (mCons (mC (.int 1)) (mCons (mC (.int 1)) (mCons (mC (.int 2)) mNil))))))) mNil))) mNil)) (gSet 5) (mIfS (mTb (mBin pGt (mBin pIdx (mVar 4) (mC (.int 0))) (mC (.int 3)))) (mSeq (mAsg (gTupM [(gSet 6), (gSet 4)]) (mCall (c 61) (mCons (mVar 0) (mCons (mVar 1) (mCons (mVar 4) mNil)))))
  (mDrop (mMethL pAppend (mVar 3) (mCons (mVar 6) mNil)))) mPass))
  (mSeq (mIfS (mTb (mBin pLt (mBin pIdx (mVar 4) (mC (.int 0))) (mC (.int 1)))) (mRet (mLst (mCons (mTup (mCons (mC (.str [98, 105, 110, 100])) (mCons (mCall (c 57) (mCons (mVar 0) (mCons (mVar 1) mNil))) (mCons (mTup mNil) (mCons (mBin pIdx (mVar 3) (mC (.int 0))) mNil))))) (mCons (mVar 4) mNil)))) mPass)
  (mSeq (mAsg (gTupM [(gSet 6), (gSet 4)]) (mCall (c 61) (mCons (mVar 0) (mCons (mVar 1) (mCons (mVar 4) mNil)))))
  (mRet (mLst (mCons (mTup (mCons (mC (.str [98, 105, 110, 100])) (mCons (mCall (c 57) (mCons (mVar 0) (mCons (mVar 1) mNil))) (mCons (mApp pTuple (mCons (mVar 3) mNil)) (mCons (mVar 6) mNil))))) (mCons (mVar 4) mNil))))))))
def b_63 (c : CT) : MS :=
  (mSeq (mSet 3 (mTup (mCons (mC (.str [106, 111, 105, 110])) (mCons (mC (.str [102])) (mCons (mApp pTuple (mCons (mComp (mRng1 (mCons (mBin pAdd (mC (.int 1)) (mCall (c 56) (mCons (mVar 0) (mCons (mC (.int 4)) mNil)))) mNil)) (gSet 4) mYes (mCall (c 60) (mCons (mVar 0) (mCons (mVar 1) mNil))) [4]) mNil)) mNil)))))
  (mSeq (mFor (mRng1 (mCons (mVar 2) mNil)) (gSet 4) (mSeq (mSet 5 (mComp (mRng1 (mCons (mCall (c 56) (mCons (mVar 0) (mCons (mC (.int 2)) mNil))) mNil)) (gSet 6) mYes (mCall (c 60) (mCons (mVar 0) (mCons (mVar 1) mNil))) [6]))
  (mSeq (mSet 7 (mIf (mTb (mBin pEq (mVar 5) (mLst mNil))) (mVar 3) (mTup (mCons (mC (.str [106, 111, 105, 110])) (mCons (mC (.str [103])) (mCons (mApp pTuple (mCons (mBin pAdd (mVar 5) (mLst (mCons (mVar 3) mNil))) mNil)) mNil))))))
  (mSeq (mSet 8 (mIf (mTb (mBin pEq (mCall (c 56) (mCons (mVar 0) (mCons (mC (.int 4)) mNil))) (mC (.int 0)))) (mLst (mCons (mCall (c 60) (mCons (mVar 0) (mCons (mVar 1) mNil))) mNil)) (mLst mNil)))
  (mSet 3 (mTup (mCons (mC (.str [98, 105, 110, 100])) (mCons (mCall (c 57) (mCons (mVar 0) (mCons (mVar 1) mNil))) (mCons (mApp pTuple (mCons (mVar 8) mNil)) (mCons (mVar 7) mNil))))))))))
  (mRet (mVar 3))))
def b_64 (c : CT) : MS :=
  (mSeq (mPar 3 4 (mCons (mCall (c 59) (mCons (mVar 0) mNil)) (mCons (mCall (c 56) (mCons (mVar 0) (mCons (mC (.int 4)) mNil))) mNil)))
  (mSeq (mIfS (mTb (mBin pEq (mVar 4) (mC (.int 0)))) (mRet (mCall (c 63) (mCons (mVar 0) (mCons (mVar 3) (mCons (mCall (c 56) (mCons (mVar 0) (mCons (mBin pAdd (mApp (pMM minI) (mCons (mVar 2) (mCons (mBin pFd (mVar 1) (mC (.int 6))) mNil))) (mC (.int 1))) mNil))) mNil))))) mPass)
  (mSeq (mIfS (mTb (mBin pEq (mVar 4) (mC (.int 1)))) (mSeq (mSet 5 (mLst (mCons (mBin pFd (mVar 1) (mC (.int 2))) (mCons (mBin pFd (mVar 2) (mC (.int 2))) mNil))))
  (mSeq (mPar 6 7 (mCons (mBin pIdx (mCall (c 61) (mCons (mVar 0) (mCons (mVar 3) (mCons (mVar 5) mNil)))) (mC (.int 0))) (mCons (mBin pIdx (mCall (c 61) (mCons (mVar 0) (mCons (mVar 3) (mCons (mVar 5) mNil)))) (mC (.int 0))) mNil)))
  (mRet (mTup (mCons (mC (.str [106, 111, 105, 110])) (mCons (mC (.str [102])) (mCons (mTup (mCons (mVar 6) (mCons (mVar 7) mNil))) mNil))))))) mPass)
  (mRet (mBin pIdx (mCall (c 61) (mCons (mVar 0) (mCons (mVar 3) (mCons (mLst (mCons (mVar 1) (mCons (mVar 2) mNil))) mNil)))) (mC (.int 0)))))))
class Draws (cf : Nat → CT) : Prop where
  h55 : ∀ m, cf (m + 1) 55 = mBody 2 5 (b_55 (cf m))
  h56 : ∀ m, cf (m + 1) 56 = mBody 2 3 (b_56 (cf m))
  h57 : ∀ m, cf (m + 1) 57 = mBody 2 2 (b_57 (cf m))
  h59 : ∀ m, cf (m + 1) 59 = mBody 1 2 (b_59 (cf m))
  h60 : ∀ m, cf (m + 1) 60 = mBody 2 2 (b_60 (cf m))
  h61 : ∀ m, cf (m + 1) 61 = mBody 3 7 (b_61 (cf m))
  h62 : ∀ m, cf (m + 1) 62 = mBody 3 7 (b_62 (cf m))
  h63 : ∀ m, cf (m + 1) 63 = mBody 3 9 (b_63 (cf m))
  h64 : ∀ m, cf (m + 1) 64 = mBody 3 8 (b_64 (cf m))
variable {cf : Nat → CT} [Draws cf]
theorem c_55 {m : Nat} : cf (m + 1) 55 = mBody 2 5 (b_55 (cf m)) := Draws.h55 m
theorem c_56 {m : Nat} : cf (m + 1) 56 = mBody 2 3 (b_56 (cf m)) := Draws.h56 m
theorem c_57 {m : Nat} : cf (m + 1) 57 = mBody 2 2 (b_57 (cf m)) := Draws.h57 m
theorem c_59 {m : Nat} : cf (m + 1) 59 = mBody 1 2 (b_59 (cf m)) := Draws.h59 m
theorem c_60 {m : Nat} : cf (m + 1) 60 = mBody 2 2 (b_60 (cf m)) := Draws.h60 m
theorem c_61 {m : Nat} : cf (m + 1) 61 = mBody 3 7 (b_61 (cf m)) := Draws.h61 m
theorem c_62 {m : Nat} : cf (m + 1) 62 = mBody 3 7 (b_62 (cf m)) := Draws.h62 m
theorem c_63 {m : Nat} : cf (m + 1) 63 = mBody 3 9 (b_63 (cf m)) := Draws.h63 m
theorem c_64 {m : Nat} : cf (m + 1) 64 = mBody 3 8 (b_64 (cf m)) := Draws.h64 m
/-- the source of the draws at s -/
def Src0 (h : Hm) (s : Nat) : Prop := ∃ a b : Int, h[s]? = some (.lst [.int a, .int b]) ∧ 0 ≤ b ∧ b < 2147483647
/-- all but the object at s stays -/
def But (s : Nat) (h h' : Hm) : Prop := h.length ≤ h'.length ∧ ∀ n ob, n ≠ s → h[n]? = some ob → h'[n]? = some ob
theorem But.refl {s : Nat} {h : Hm} : But s h h := ⟨Nat.le_refl _, fun _ _ _ q => q⟩
theorem But.trans {s : Nat} {h h1 h2 : Hm} (a : But s h h1) (b : But s h1 h2) : But s h h2 := ⟨Nat.le_trans a.1 b.1, fun n ob e q => b.2 n ob e (a.2 n ob e q)⟩
theorem But.set {s : Nat} {h : Hm} {o : Ob} : But s h (h.set s o) := ⟨by simp, fun n ob e q => by rw [List.getElem?_set_ne (Ne.symm e)]; exact q⟩
theorem But.app {s : Nat} {h : Hm} {l : List Ob} : But s h (h ++ l) := ⟨by simp, fun n ob _ q => by rw [List.getElem?_append_left (List.getElem?_eq_some_iff.mp q).1]; exact q⟩
theorem lt_of_at {h : Hm} {n : Nat} {o : Ob} (q : h[n]? = some o) : n < h.length := (List.getElem?_eq_some_iff.mp q).1
theorem Src0.app {s : Nat} {h : Hm} {l : List Ob} (q : Src0 h s) : Src0 (h ++ l) s := by
  obtain ⟨a, b, e, r⟩ := q
  exact ⟨a, b, by rw [List.getElem?_append_left (lt_of_at e)]; exact e, r⟩
theorem ok_run {n : Nat} {b : MS} {ds : List D} {h : Hm} {P : D → Hm → Prop} (o : OkS (b (startE n ds) h) (fun _ h' => P .non h') P) : Ok (mRun n b ds h) P := by
  unfold mRun
  revert o
  cases b (startE n ds) h <;> intro o <;> exact o
theorem ok_body {ar n : Nat} {b : MS} {ds : List D} {h : Hm} {P : D → Hm → Prop} (hl : ds.length = ar) (o : OkS (b (startE n ds) h) (fun _ h' => P .non h') P) : Ok (mBody ar n b ds h) P := by
  unfold mBody
  rw [if_pos hl]
  exact ok_run o
theorem items_l {h : Hm} {n : Nat} {xs : List D} (q : h[n]? = some (.lst xs)) : itemsOf h n = some xs := by unfold itemsOf; rw [q]
theorem take_ok {m s : Nat} {top : Int} {h : Hm} {P : D → Hm → Prop} (hs : Src0 h s) (ht : 0 < top) (ht2 : top < 1000000) (k : ∀ (t : Int) (h' : Hm), 0 ≤ t → t < top → Src0 h' s → But s h h' → h'.length = h.length → P (.int t) h') : Ok (cf (m + 1) 56 [.ref s, .int top] h) P := by
  obtain ⟨a, b, e, b0, b1⟩ := hs
  have it := items_l e
  have ls := lt_of_at e
  rw [c_56 (cf := cf)]
  refine ok_body rfl ?_
  unfold b_56
  have i0 : atD [D.int a, D.int b] 0 = some (.int a) := rfl
  have i1 : atD [D.int a, D.int b] 1 = some (.int b) := rfl
  have z0 : (startE 3 [D.ref s, D.int top])[0]? = some (some (.ref s)) := rfl
  have z1 : (startE 3 [D.ref s, D.int top])[1]? = some (some (.int top)) := rfl
  simp only [w_seq, w_ifS, w_tb, w_bin, w_var z0, w_c, w_idxL it i0, w_gt]
  refine ⟨_, rfl, ?_⟩
  by_cases c : 0 < a
  · simp only [decide_eq_true c, if_true]
    have hf : cFd a top = true := fd_ok ht (by omega)
    simp only [w_seq, w_set, w_bin, w_app, w_cons, w_nil, w_var z0, w_var z1, w_c, w_idxL it i0, w_int, w_md ht, w_sub, w_ret]
    have y0 : ((startE 3 [D.ref s, D.int top]).set 2 (some (.int (a % top))))[0]? = some (some (.ref s)) := rfl
    have y1 : ((startE 3 [D.ref s, D.int top]).set 2 (some (.int (a % top))))[1]? = some (some (.int top)) := rfl
    have y2 : ((startE 3 [D.ref s, D.int top]).set 2 (some (.int (a % top))))[2]? = some (some (.int (a % top))) := rfl
    simp only [w_bin, w_var y0, w_var y1, w_var y2, w_c, w_idxL it i0, w_fd hf]
    refine ⟨s, 0, _, rfl, rfl, e, ⟨by omega, by simp⟩, ?_⟩
    refine k _ _ (Int.emod_nonneg _ (by omega)) (Int.emod_lt_of_pos _ ht) ⟨a / top, b, ?_, b0, b1⟩ But.set (by simp)
    rw [List.getElem?_set_self ls]
    rfl
  · simp only [decide_eq_false c, Bool.false_eq_true, if_false]
    have m1 : cMul b 39373 = true := mul_r (by decide) (by decide)
    have b' : ∃ b' : Int, (b * 39373 + 7) % 2147483647 = b' ∧ 0 ≤ b' ∧ b' < 2147483647 := ⟨_, rfl, Int.emod_nonneg _ (by decide), Int.emod_lt_of_pos _ (by decide)⟩
    obtain ⟨b', eb, c0, c1⟩ := b'
    have m2 : cMul b' b' = true := mul_r (by omega) (by omega)
    have p1 : (0 : Int) < 2147483647 := by decide
    have p2 : (0 : Int) < 2147483629 := by decide
    simp only [w_pass, w_sub, w_bin, w_app, w_cons, w_nil, w_var z0, w_var z1, w_c, w_idxL it i1, w_int, w_addI, w_mul m1, w_md p1, w_ret, eb]
    refine ⟨s, 1, _, rfl, rfl, e, ⟨by omega, by simp⟩, ?_⟩
    have e2 : (h.set s (.lst ([D.int a, D.int b].set (1 : Int).toNat (D.int b'))))[s]? = some (.lst [.int a, .int b']) := by
      rw [List.getElem?_set_self ls]
      rfl
    have it2 := items_l e2
    have i2 : atD [D.int a, D.int b'] 1 = some (.int b') := rfl
    have hf : cFd (b' * b' % 2147483629) 32 = true := fd_ok (by decide) (by decide)
    simp only [w_bin, w_app, w_cons, w_nil, w_var z0, w_var z1, w_c, w_idxL it2 i2, w_int, w_mul m2, w_md p2, w_fd hf, w_md ht]
    exact k _ _ (Int.emod_nonneg _ (by omega)) (Int.emod_lt_of_pos _ ht) ⟨a, b', e2, c0, c1⟩ But.set (by simp)

/-! ### trees -/
inductive Tr where
  | use (n : List Nat) | join (l : List Nat) (ts : List Tr) | bind (n : List Nat) (ah : List Tr) (b : Tr)
def tUse : List Nat := [117, 115, 101]
def tJoin : List Nat := [106, 111, 105, 110]
def tBind : List Nat := [98, 105, 110, 100]
mutual
def toD : Tr → D
  | .use n => .tup [.str tUse, .str n]
  | .join l ts => .tup [.str tJoin, .str l, .tup (toDs ts)]
  | .bind n ah b => .tup [.str tBind, .str n, .tup (toDs ah), toD b]
def toDs : List Tr → List D
  | [] => []
  | t :: ts => toD t :: toDs ts
end
mutual
def siz : Tr → Nat
  | .use _ => 1
  | .join _ ts => 1 + sizs ts
  | .bind _ ah b => 1 + sizs ah + siz b
def sizs : List Tr → Nat
  | [] => 0
  | t :: ts => siz t + sizs ts
end
mutual
def bnd : Tr → Nat
  | .use _ => 0
  | .join _ ts => bnds ts
  | .bind _ ah b => 1 + bnds ah + bnd b
def bnds : List Tr → Nat
  | [] => 0
  | t :: ts => bnd t + bnds ts
end
/-- a name that is drawn: a right one, not the strange one -/
def goodN (n : List Nat) : Bool := Txt.isascii ⟨n.toArray⟩ && Txt.isalpha ⟨n.toArray⟩ && Txt.islower ⟨n.toArray⟩ && decide (n.length ≤ 8) && decide (n ≠ [113]) && n.all fun c => decide (c < 1114112)
mutual
def good : Tr → Prop
  | .use n => goodN n = true
  | .join l ts => goodN l = true ∧ goods ts
  | .bind n ah b => goodN n = true ∧ goods ah ∧ good b
def goods : List Tr → Prop
  | [] => True
  | t :: ts => good t ∧ goods ts
end
theorem toDs_map : ∀ ts : List Tr, toDs ts = ts.map toD
  | [] => rfl
  | t :: ts => by rw [toDs, toDs_map ts, List.map_cons]
theorem sizs_app : ∀ a b : List Tr, sizs (a ++ b) = sizs a + sizs b
  | [], b => by simp [sizs]
  | t :: a, b => by simp only [List.cons_append, sizs, sizs_app a b]; omega
theorem bnds_app : ∀ a b : List Tr, bnds (a ++ b) = bnds a + bnds b
  | [], b => by simp [bnds]
  | t :: a, b => by simp only [List.cons_append, bnds, bnds_app a b]; omega
theorem goods_app : ∀ a b : List Tr, goods (a ++ b) ↔ goods a ∧ goods b
  | [], b => by simp [goods]
  | t :: a, b => by simp only [List.cons_append, goods, goods_app a b, and_assoc]
theorem siz_pos (t : Tr) : 1 ≤ siz t := by cases t <;> simp [siz] <;> omega
/-! ### the draws -/
/-- a list of good names at w -/
def Names (h : Hm) (w : Nat) : Prop := ∃ ws : List (List Nat), h[w]? = some (.lst (ws.map D.str)) ∧ 0 < ws.length ∧ ws.length < 100 ∧ ∀ n ∈ ws, goodN n = true
theorem Names.but {h h' : Hm} {s w : Nat} (q : Names h w) (b : But s h h') (ne : w ≠ s) : Names h' w := by
  obtain ⟨ws, e, r⟩ := q
  exact ⟨ws, b.2 w _ ne e, r⟩
theorem one_ok {m s l : Nat} {xs : List D} {h : Hm} {P : D → Hm → Prop} (hs : Src0 h s) (hl : h[l]? = some (.lst xs)) (ne : l ≠ s) (h0 : 0 < xs.length) (h1 : xs.length < 100000)
    (k : ∀ (d : D) (h' : Hm), d ∈ xs → Src0 h' s → But s h h' → h'.length = h.length → P d h') : Ok (cf (m + 2) 57 [.ref s, .ref l] h) P := by
  rw [c_57 (cf := cf)]
  refine ok_body rfl ?_
  unfold b_57
  have it := items_l hl
  simp only [w_ret, w_bin, w_v, w_call, w_cons, w_nil, w_app, startE, List.map_cons, List.map_nil, List.cons_append, List.nil_append, List.getElem?_cons_zero, List.getElem?_cons_succ, ok1_some, w_lenL it]
  refine take_ok hs (by omega) (by omega) fun t h' t0 t1 s' b' lh => ?_
  rw [w_ix]
  have hl' : h'[l]? = some (.lst xs) := b'.2 l _ ne hl
  have c : t.toNat < xs.length := by omega
  refine ⟨xs, items_l hl', xs[t.toNat], ?_, k _ _ (List.getElem_mem c) s' b' lh⟩
  unfold atD
  rw [if_pos t0]
  exact List.getElem?_eq_getElem c
theorem name_ok {m s w : Nat} {h : Hm} {P : D → Hm → Prop} (hs : Src0 h s) (hw : Names h w) (ne : w ≠ s)
    (k : ∀ (n : List Nat) (h' : Hm), goodN n = true → Src0 h' s → But s h h' → h'.length = h.length → P (.str n) h') : Ok (cf (m + 2) 57 [.ref s, .ref w] h) P := by
  obtain ⟨ws, e, w0, w1, wg⟩ := hw
  refine one_ok hs e ne (by simpa using w0) (by simp; omega) fun d h' hd s' b' lh => ?_
  obtain ⟨n, hn, rfl⟩ := List.mem_map.mp hd
  exact k n h' (wg n hn) s' b' lh
theorem leaf_ok {m s w : Nat} {h : Hm} {P : D → Hm → Prop} (hs : Src0 h s) (hw : Names h w) (ne : w ≠ s)
    (k : ∀ (t : Tr) (h' : Hm), good t → siz t = 1 → bnd t = 0 → Src0 h' s → But s h h' → h'.length = h.length → P (toD t) h') : Ok (cf (m + 3) 60 [.ref s, .ref w] h) P := by
  rw [c_60 (cf := cf)]
  refine ok_body rfl ?_
  unfold b_60
  simp only [w_ret, w_tup, w_v, w_c, w_call, w_cons, w_nil, startE, List.map_cons, List.map_nil, List.cons_append, List.nil_append, List.getElem?_cons_zero, List.getElem?_cons_succ, ok1_some]
  exact name_ok hs hw ne fun n h' g s' b' lh => ⟨by simp [big], k (.use n) h' g rfl rfl s' b' lh⟩
/-- the room that is left, at q -/
def Room0 (h : Hm) (q : Nat) (r b : Int) : Prop := h[q]? = some (.lst [.int r, .int b])

theorem But.put {s p : Nat} {h h' : Hm} {o : Ob} (b : But s h h') (l : h.length ≤ p) : But s h (h'.set p o) :=
  ⟨by simp; exact b.1, fun n ob e q => by
    have ln := lt_of_at q
    rw [List.getElem?_set_ne (by omega)]
    exact b.2 n ob e q⟩
theorem Src0.put {s p : Nat} {h : Hm} {o : Ob} (q : Src0 h s) (ne : p ≠ s) : Src0 (h.set p o) s := by
  obtain ⟨a, b, e, r⟩ := q
  exact ⟨a, b, by rw [List.getElem?_set_ne ne]; exact e, r⟩
theorem Src0.lt {s : Nat} {h : Hm} (q : Src0 h s) : s < h.length := by
  obtain ⟨a, b, e, r⟩ := q
  exact lt_of_at e
theorem app_at {h : Hm} {o : Ob} : (h ++ [o])[h.length]? = some o := by simp
theorem app_old {h : Hm} {l : List Ob} {n : Nat} {o : Ob} (q : h[n]? = some o) : (h ++ l)[n]? = some o := by
  rw [List.getElem?_append_left (lt_of_at q)]
  exact q
/-- what a draw of a tree leaves -/
def GK (h : Hm) (s : Nat) (r b : Int) (P : D → Hm → Prop) : Prop := ∀ (t : Tr) (p q : Nat) (h' : Hm) (r' b' : Int), good t → p ≠ s → q ≠ s → h'[p]? = some (.lst [toD t, .ref q]) → Room0 h' q r' b' → 0 ≤ r' → r' + siz t ≤ r → 0 ≤ b' → b' + bnd t ≤ b → Src0 h' s → But s h h' → P (.ref p) h'
def Grows (cf : Nat → CT) (n : Nat) : Prop := ∀ (m s w q : Nat) (h : Hm) (r b : Int) (P : D → Hm → Prop), r ≤ n → 1 ≤ r → 0 ≤ b → Src0 h s → Names h w → w ≠ s → Room0 h q r b → q ≠ s → GK h s r b P → Ok (cf (2 * n + 3 + m) 61 [.ref s, .ref w, .ref q] h) P
theorem draw_ok {m s l : Nat} {js : List Int} {h : Hm} {P : D → Hm → Prop} (hs : Src0 h s) (hl : h[l]? = some (.lst (js.map D.int))) (ne : l ≠ s) (h0 : 0 < js.length) (h1 : js.length < 100)
    (k : ∀ (j : Int) (h' : Hm), j ∈ js → Src0 h' s → But s h h' → h'.length = h.length → P (.int j) h') : Ok (cf (m + 2) 57 [.ref s, .ref l] h) P := by
  refine one_ok hs hl ne (by simpa using h0) (by simp; omega) fun d h' hd s' b' lh => ?_
  obtain ⟨n, hn, rfl⟩ := List.mem_map.mp hd
  exact k n h' hn s' b' lh
/-- the parts that were drawn so far, at pa; what is left, at the room in slot 4 -/
structure Parts (h0 h : Hm) (s pa lq : Nat) (r b rr bb : Int) (ts : List Tr) : Prop where
  pa_ : h[pa]? = some (.lst (toDs ts))
  ro : Room0 h lq rr bb
  r0 : 0 ≤ rr
  r1 : rr + sizs ts ≤ r
  b0 : 0 ≤ bb
  b1 : bb + bnds ts ≤ b
  e0 : ts = [] → rr = r
  gd : goods ts
  ls : lq ≠ s
  src : Src0 h s
  but : But s h0 h
/-- one more part: tree, left = grown(source, words, left); parts.append(tree) -/
theorem part_ok {n m s w q pa lq : Nat} {h0 h : Hm} {r b rr bb : Int} {ts : List Tr} {x5 x6 : Option D} {N : En → Hm → Prop} {R : D → Hm → Prop} (G : Grows cf n) (V : Parts h0 h s pa lq r b rr bb ts) (hl : 0 < rr) (hn : rr ≤ n) (hw : Names h0 w) (nw : w ≠ s) (np : pa ≠ s) (lp : h0.length ≤ pa) (lt : ts.length < 100)
    (k : ∀ (t : Tr) (lq' : Nat) (h' : Hm) (r' b' : Int), Parts h0 h' s pa lq' r b r' b' (ts ++ [t]) → N [some (.ref s), some (.ref w), some (.ref q), some (.ref pa), some (.ref lq'), x5, some (toD t)] h') :
    OkS (mSeq (mAsg (gTupM [(gSet 6), (gSet 4)]) (mCall (cf (2 * n + 3 + m) 61) (mCons (mVar 0) (mCons (mVar 1) (mCons (mVar 4) mNil))))) (mDrop (mMethL pAppend (mVar 3) (mCons (mVar 6) mNil))) [some (.ref s), some (.ref w), some (.ref q), some (.ref pa), some (.ref lq), x5, x6] h) N R := by
  simp only [w_seq, w_ifS, w_set, w_ret, w_par, w_asg, w_sub, w_drop, w_pass, w_bin, w_app, w_call, w_cons, w_nil, w_tup, w_lst, w_if, w_tb, w_not, w_and, w_or, w_c, w_v, w_un, w_int, w_intB, w_addI, w_subI, w_lt, w_le, w_gt, w_ge, w_eqI, w_methL, startE, List.map_cons, List.map_nil, List.cons_append, List.nil_append, List.getElem?_cons_zero, List.getElem?_cons_succ, List.set_cons_zero, List.set_cons_succ, ok1_some, at0, at1, at2, at3, w_ixT, List.length_cons, List.length_nil, Nat.reduceAdd, Nat.reduceSub, Nat.zero_add, List.replicate_succ, List.replicate_zero]
  refine G m s w lq h _ _ _ hn (by omega) V.b0 V.src (hw.but V.but nw) nw V.ro V.ls ?_
  intro t p q' h' r' b2 gt ps qs e1 ro r0 r1 b0 b1 s' b'
  have hp : h'[pa]? = some (.lst (toDs ts)) := b'.2 pa _ np V.pa_
  have sq : seqOf h' (.ref p) = some [toD t, .ref q'] := by
    show itemsOf h' p = _
    exact items_l e1
  refine ⟨[some (.ref s), some (.ref w), some (.ref q), some (.ref pa), some (.ref q'), x5, some (toD t)], ?_, ?_⟩
  · unfold gTupM
    rw [sq]
    rfl
  simp only [w_seq, w_ifS, w_set, w_ret, w_par, w_asg, w_sub, w_drop, w_pass, w_bin, w_app, w_call, w_cons, w_nil, w_tup, w_lst, w_if, w_tb, w_not, w_and, w_or, w_c, w_v, w_un, w_int, w_intB, w_addI, w_subI, w_lt, w_le, w_gt, w_ge, w_eqI, w_methL, startE, List.map_cons, List.map_nil, List.cons_append, List.nil_append, List.getElem?_cons_zero, List.getElem?_cons_succ, List.set_cons_zero, List.set_cons_succ, ok1_some, at0, at1, at2, at3, w_ixT, List.length_cons, List.length_nil, Nat.reduceAdd, Nat.reduceSub, Nat.zero_add, List.replicate_succ, List.replicate_zero]
  refine ⟨isLst_of (items_l hp), ?_⟩
  rw [w_append hp (by rw [toDs_map, List.length_map]; unfold big; omega)]
  have a1 := V.r1
  have a2 := V.b1
  refine k t q' _ r' b2 ⟨?_, ?_, r0, ?_, b0, ?_, fun z => by simp at z, (goods_app ts [t]).mpr ⟨V.gd, gt, trivial⟩, qs, s'.put np, (V.but.trans b').put lp⟩
  · rw [List.getElem?_set_self (lt_of_at hp), toDs_map, toDs_map, List.map_append]
    rfl
  · show (h'.set pa _)[q']? = _
    by_cases c : pa = q'
    · subst c
      have z := ro.symm.trans hp
      exfalso
      cases ts with
      | nil => simp [toDs] at z
      | cons a ts => cases a <;> simp [toDs, toD] at z
    · rw [List.getElem?_set_ne c]
      exact ro
  · rw [sizs_app]
    simp only [sizs]
    omega
  · rw [bnds_app]
    simp only [bnds]
    omega

theorem small_of {j : Int} (a : 0 ≤ j) (b : j ≤ 1000) : smallI j = true := by
  unfold smallI
  rw [Bool.and_eq_true]
  exact ⟨decide_eq_true (by omega), decide_eq_true (by omega)⟩
theorem intsR_len {lo : Int} {n : Nat} : (intsR lo n).length = n := by simp [intsR]
theorem bound_ok {n : Nat} (G : Grows cf n) {m s w q : Nat} {h : Hm} {r b : Int} {P : D → Hm → Prop} (hr : r ≤ n + 1) (r2 : 2 ≤ r) (rn : r < 90) (b1 : 1 ≤ b) (hs : Src0 h s) (hw : Names h w) (nw : w ≠ s) (ro : Room0 h q r b) (nq : q ≠ s) (k : GK h s r b P) : Ok (cf (2 * n + 4 + m) 62 [.ref s, .ref w, .ref q] h) P := by
  have lv : 2 * n + 4 + m = (2 * n + 3 + m) + 1 := by omega
  rw [lv, c_62 (cf := cf)]
  refine ok_body rfl ?_
  unfold b_62
  have it := items_l ro
  have z4 : (([] : List D).length ≤ big) := by simp [big]
  simp only [w_seq, w_ifS, w_set, w_ret, w_par, w_asg, w_sub, w_drop, w_pass, w_bin, w_app, w_call, w_cons, w_nil, w_tup, w_lst, w_if, w_tb, w_not, w_and, w_or, w_c, w_v, w_un, w_int, w_intB, w_addI, w_subI, w_lt, w_le, w_gt, w_ge, w_eqI, w_methL, startE, List.map_cons, List.map_nil, List.cons_append, List.nil_append, List.getElem?_cons_zero, List.getElem?_cons_succ, List.set_cons_zero, List.set_cons_succ, ok1_some, at0, at1, at2, at3, w_ixT, List.length_cons, List.length_nil, Nat.reduceAdd, Nat.reduceSub, Nat.zero_add, List.replicate_succ, List.replicate_zero]
  have e1 : (h ++ [Ob.lst []])[q]? = some (.lst [.int r, .int b]) := app_old ro
  refine ⟨by simp [big], ?_⟩
  rw [w_ixL (items_l e1)]
  refine ⟨_, at0, ?_⟩
  simp only [w_seq, w_ifS, w_set, w_ret, w_par, w_asg, w_sub, w_drop, w_pass, w_bin, w_app, w_call, w_cons, w_nil, w_tup, w_lst, w_if, w_tb, w_not, w_and, w_or, w_c, w_v, w_un, w_int, w_intB, w_addI, w_subI, w_lt, w_le, w_gt, w_ge, w_eqI, w_methL, startE, List.map_cons, List.map_nil, List.cons_append, List.nil_append, List.getElem?_cons_zero, List.getElem?_cons_succ, List.set_cons_zero, List.set_cons_succ, ok1_some, at0, at1, at2, at3, w_ixT, List.length_cons, List.length_nil, Nat.reduceAdd, Nat.reduceSub, Nat.zero_add, List.replicate_succ, List.replicate_zero]
  rw [w_ixL (items_l e1)]
  refine ⟨_, at1, ?_⟩
  simp only [w_seq, w_ifS, w_set, w_ret, w_par, w_asg, w_sub, w_drop, w_pass, w_bin, w_app, w_call, w_cons, w_nil, w_tup, w_lst, w_if, w_tb, w_not, w_and, w_or, w_c, w_v, w_un, w_int, w_intB, w_addI, w_subI, w_lt, w_le, w_gt, w_ge, w_eqI, w_methL, startE, List.map_cons, List.map_nil, List.cons_append, List.nil_append, List.getElem?_cons_zero, List.getElem?_cons_succ, List.set_cons_zero, List.set_cons_succ, ok1_some, at0, at1, at2, at3, w_ixT, List.length_cons, List.length_nil, Nat.reduceAdd, Nat.reduceSub, Nat.zero_add, List.replicate_succ, List.replicate_zero]
  refine ⟨by simp [big], _, _, rfl, ?_⟩
  have ls := hs.lt
  have lpa : h.length < (h ++ [Ob.lst []] ++ [Ob.lst [.int (r - 1), .int (b - 1)]]).length := by simp
  have V0 : Parts h (h ++ [Ob.lst []] ++ [Ob.lst [.int (r - 1), .int (b - 1)]]) s h.length (h ++ [Ob.lst []]).length (r - 1) (b - 1) (r - 1) (b - 1) [] := by
    refine ⟨app_old app_at, app_at, by omega, by simp [sizs], by omega, by simp [bnds], fun _ => rfl, trivial, by simp; omega, hs.app.app, But.app.trans But.app⟩
  generalize h ++ [Ob.lst []] ++ [Ob.lst [.int (r - 1), .int (b - 1)]] = h1 at V0 lpa ⊢
  generalize (h ++ [Ob.lst []]).length = lq at V0 ⊢
  have np : h.length ≠ s := by omega
  rw [w_for, w_rng1]
  simp only [w_seq, w_ifS, w_set, w_ret, w_par, w_asg, w_sub, w_drop, w_pass, w_bin, w_app, w_call, w_cons, w_nil, w_tup, w_lst, w_if, w_tb, w_not, w_and, w_or, w_c, w_v, w_un, w_int, w_intB, w_addI, w_subI, w_lt, w_le, w_gt, w_ge, w_eqI, w_methL, startE, List.map_cons, List.map_nil, List.cons_append, List.nil_append, List.getElem?_cons_zero, List.getElem?_cons_succ, List.set_cons_zero, List.set_cons_succ, ok1_some, at0, at1, at2, at3, w_ixT, List.length_cons, List.length_nil, Nat.reduceAdd, Nat.reduceSub, Nat.zero_add, List.replicate_succ, List.replicate_zero]
  refine ⟨by simp [big], ?_⟩
  have V1 : Parts h (h1 ++ [Ob.lst [D.int 0, D.int 0, D.int 0, D.int 1, D.int 1, D.int 2]]) s h.length lq (r - 1) (b - 1) (r - 1) (b - 1) [] := ⟨app_old V0.pa_, app_old V0.ro, V0.r0, V0.r1, V0.b0, V0.b1, V0.e0, V0.gd, V0.ls, V0.src.app, V0.but.trans But.app⟩
  have lv2 : 2 * n + 3 + m = (2 * n + 1 + m) + 2 := by omega
  rw [lv2]
  refine draw_ok (js := [0, 0, 0, 1, 1, 2]) V1.src app_at (by omega) (by simp) (by simp) fun j h2 hj s2 b2 _ => ?_
  have j2 : 0 ≤ j ∧ j ≤ 2 := by
    simp at hj
    omega
  refine ⟨j, rfl, small_of j2.1 (by omega), ?_⟩
  have V2 : Parts h h2 s h.length lq (r - 1) (b - 1) (r - 1) (b - 1) [] := ⟨b2.2 _ _ np V1.pa_, b2.2 _ _ V1.ls V1.ro, V1.r0, V1.r1, V1.b0, V1.b1, V1.e0, V1.gd, V1.ls, s2, V1.but.trans b2⟩
  rw [← lv2]
  have lj : (intsR 0 j.toNat).length = j.toNat := intsR_len
  refine loop_fix (fun i e hx => ∃ (ts : List Tr) (lq' : Nat) (x5 x6 : Option D) (rr bb : Int), e = [some (.ref s), some (.ref w), some (.ref q), some (.ref h.length), some (.ref lq'), x5, x6] ∧ Parts h hx s h.length lq' (r - 1) (b - 1) rr bb ts ∧ ts.length ≤ i) ?_ ?_ j.toNat lots 0 _ h2 (by rw [lj]; omega) (by unfold lots; omega) ⟨[], lq, none, none, _, _, rfl, V2, Nat.le_refl _⟩
  · rintro i x e hx hi ⟨ts, lq', x5, x6, rr, bb, rfl, V, tl⟩
    have il : i < j.toNat := by
      rw [← lj]
      exact (List.getElem?_eq_some_iff.mp hi).1
    refine ⟨_, rfl, ?_⟩
    show OkS (mIfS _ _ _ [some (.ref s), some (.ref w), some (.ref q), some (.ref h.length), some (.ref lq'), some x, x6] hx) _ _
    simp only [w_ifS, w_bin, w_app, w_call, w_cons, w_nil, w_tup, w_lst, w_if, w_tb, w_not, w_and, w_or, w_c, w_v, w_un, w_int, w_intB, w_addI, w_subI, w_lt, w_le, w_gt, w_ge, w_eqI, w_methL, startE, List.map_cons, List.map_nil, List.cons_append, List.nil_append, List.getElem?_cons_zero, List.getElem?_cons_succ, List.set_cons_zero, List.set_cons_succ, ok1_some, at0, at1, at2, at3, w_ixT, List.length_cons, List.length_nil, Nat.reduceAdd, Nat.reduceSub, Nat.zero_add, List.replicate_succ, List.replicate_zero]
    rw [w_ixL (items_l V.ro)]
    refine ⟨_, at0, ?_⟩
    simp only [w_ifS, w_bin, w_app, w_call, w_cons, w_nil, w_tup, w_lst, w_if, w_tb, w_not, w_and, w_or, w_c, w_v, w_un, w_int, w_intB, w_addI, w_subI, w_lt, w_le, w_gt, w_ge, w_eqI, w_methL, startE, List.map_cons, List.map_nil, List.cons_append, List.nil_append, List.getElem?_cons_zero, List.getElem?_cons_succ, List.set_cons_zero, List.set_cons_succ, ok1_some, at0, at1, at2, at3, w_ixT, List.length_cons, List.length_nil, Nat.reduceAdd, Nat.reduceSub, Nat.zero_add, List.replicate_succ, List.replicate_zero]
    refine ⟨_, rfl, ?_⟩
    by_cases c : (3 : Int) < rr
    · simp only [decide_eq_true c, if_true]
      have v1 := V.r1
      exact part_ok G V (by omega) (by omega) hw nw np (Nat.le_refl _) (by omega) fun t lq2 h3 r3 b3 V3 => ⟨ts ++ [t], lq2, some x, some (toD t), r3, b3, rfl, V3, by simp; omega⟩
    · simp only [decide_eq_false c, Bool.false_eq_true, if_false, w_pass]
      exact ⟨ts, lq', some x, x6, rr, bb, rfl, V, by omega⟩
  · rintro e hx ⟨ts, lq', x5, x6, rr, bb, rfl, V, tl⟩
    rw [lj] at tl
    simp only [w_ifS, w_bin, w_app, w_call, w_cons, w_nil, w_tup, w_lst, w_if, w_tb, w_not, w_and, w_or, w_c, w_v, w_un, w_int, w_intB, w_addI, w_subI, w_lt, w_le, w_gt, w_ge, w_eqI, w_methL, startE, List.map_cons, List.map_nil, List.cons_append, List.nil_append, List.getElem?_cons_zero, List.getElem?_cons_succ, List.set_cons_zero, List.set_cons_succ, ok1_some, at0, at1, at2, at3, w_ixT, List.length_cons, List.length_nil, Nat.reduceAdd, Nat.reduceSub, Nat.zero_add, List.replicate_succ, List.replicate_zero]
    rw [w_ixL (items_l V.ro)]
    refine ⟨_, at0, ?_⟩
    simp only [w_ifS, w_bin, w_app, w_call, w_cons, w_nil, w_tup, w_lst, w_if, w_tb, w_not, w_and, w_or, w_c, w_v, w_un, w_int, w_intB, w_addI, w_subI, w_lt, w_le, w_gt, w_ge, w_eqI, w_methL, startE, List.map_cons, List.map_nil, List.cons_append, List.nil_append, List.getElem?_cons_zero, List.getElem?_cons_succ, List.set_cons_zero, List.set_cons_succ, ok1_some, at0, at1, at2, at3, w_ixT, List.length_cons, List.length_nil, Nat.reduceAdd, Nat.reduceSub, Nat.zero_add, List.replicate_succ, List.replicate_zero]
    refine ⟨_, rfl, ?_⟩
    by_cases c : rr < 1
    · simp only [decide_eq_true c, if_true, w_seq, w_ifS, w_set, w_ret, w_par, w_asg, w_sub, w_drop, w_pass, w_bin, w_app, w_call, w_cons, w_nil, w_tup, w_lst, w_if, w_tb, w_not, w_and, w_or, w_c, w_v, w_un, w_int, w_intB, w_addI, w_subI, w_lt, w_le, w_gt, w_ge, w_eqI, w_methL, startE, List.map_cons, List.map_nil, List.cons_append, List.nil_append, List.getElem?_cons_zero, List.getElem?_cons_succ, List.set_cons_zero, List.set_cons_succ, ok1_some, at0, at1, at2, at3, w_ixT, List.length_cons, List.length_nil, Nat.reduceAdd, Nat.reduceSub, Nat.zero_add, List.replicate_succ, List.replicate_zero]
      rw [lv2]
      refine name_ok V.src (hw.but V.but nw) nw fun nm h3 gn s3 b3 _ => ?_
      cases ts with
      | nil =>
        have := V.e0 rfl
        omega
      | cons t ts =>
        have e3 : h3[h.length]? = some (.lst (toDs (t :: ts))) := b3.2 _ _ np V.pa_
        refine ⟨by simp [big], ?_⟩
        rw [w_ixL (items_l e3)]
        refine ⟨toD t, rfl, by simp [big], by simp [big], ?_⟩
        have v1 := V.r1
        have v2 := V.b1
        have v3 := V.r0
        have l3 := s3.lt
        refine k (.bind nm [] t) _ lq' _ rr bb ⟨gn, trivial, V.gd.1⟩ (by omega) V.ls app_at (app_old (b3.2 _ _ V.ls V.ro)) V.r0 ?_ V.b0 ?_ s3.app ((V.but.trans b3).trans But.app)
        · simp only [siz, sizs] at v1 ⊢
          omega
        · simp only [bnd, bnds] at v2 ⊢
          omega
    · simp only [decide_eq_false c, Bool.false_eq_true, if_false, w_seq, w_ifS, w_set, w_ret, w_par, w_asg, w_sub, w_drop, w_pass, w_bin, w_app, w_call, w_cons, w_nil, w_tup, w_lst, w_if, w_tb, w_not, w_and, w_or, w_c, w_v, w_un, w_int, w_intB, w_addI, w_subI, w_lt, w_le, w_gt, w_ge, w_eqI, w_methL, startE, List.map_cons, List.map_nil, List.cons_append, List.nil_append, List.getElem?_cons_zero, List.getElem?_cons_succ, List.set_cons_zero, List.set_cons_succ, ok1_some, at0, at1, at2, at3, w_ixT, List.length_cons, List.length_nil, Nat.reduceAdd, Nat.reduceSub, Nat.zero_add, List.replicate_succ, List.replicate_zero]
      have v1 := V.r1
      have v2 := V.b1
      refine G m s w lq' hx rr bb _ (by omega) (by omega) V.b0 V.src (hw.but V.but nw) nw V.ro V.ls ?_
      intro t p q' h3 r' b' gt ps qs e1 ro' r0 r1 b0 b1' s3 b3
      have sq : seqOf h3 (.ref p) = some [toD t, .ref q'] := by
        show itemsOf h3 p = _
        exact items_l e1
      refine ⟨[some (.ref s), some (.ref w), some (.ref q), some (.ref h.length), some (.ref q'), x5, some (toD t)], ?_, ?_⟩
      · unfold gTupM
        rw [sq]
        rfl
      simp only [w_seq, w_ifS, w_set, w_ret, w_par, w_asg, w_sub, w_drop, w_pass, w_bin, w_app, w_call, w_cons, w_nil, w_tup, w_lst, w_if, w_tb, w_not, w_and, w_or, w_c, w_v, w_un, w_int, w_intB, w_addI, w_subI, w_lt, w_le, w_gt, w_ge, w_eqI, w_methL, startE, List.map_cons, List.map_nil, List.cons_append, List.nil_append, List.getElem?_cons_zero, List.getElem?_cons_succ, List.set_cons_zero, List.set_cons_succ, ok1_some, at0, at1, at2, at3, w_ixT, List.length_cons, List.length_nil, Nat.reduceAdd, Nat.reduceSub, Nat.zero_add, List.replicate_succ, List.replicate_zero]
      rw [lv2]
      refine name_ok s3 ((hw.but V.but nw).but b3 nw) nw fun nm h4 gn s4 b4 _ => ?_
      have e4 : h4[h.length]? = some (.lst (toDs ts)) := b4.2 _ _ np (b3.2 _ _ np V.pa_)
      rw [w_tupleL (items_l e4) (by rw [toDs_map, List.length_map]; unfold big; omega)]
      have l4 := s4.lt
      refine ⟨by simp [big], by simp [big], ?_⟩
      refine k (.bind nm ts t) _ q' _ r' b' ⟨gn, V.gd, gt⟩ (by omega) qs app_at (app_old (b4.2 _ _ qs ro')) r0 ?_ b0 ?_ s4.app (((V.but.trans b3).trans b4).trans But.app)
      · simp only [siz]
        omega
      · simp only [bnd]
        omega

theorem grow_all : ∀ n : Nat, n ≤ 80 → Grows cf n
  | 0, _ => fun m s w q h r b P hr r1 => by omega
  | n + 1, hn => fun m s w q h r b P hr r1 b0 hs hw nw ro nq k => by
    have G := grow_all n (by omega)
    have lv : 2 * (n + 1) + 3 + m = (2 * n + 4 + m) + 1 := by omega
    rw [lv, c_61 (cf := cf)]
    refine ok_body rfl ?_
    unfold b_61
    have it := items_l ro
    have lv3 : 2 * n + 4 + m = (2 * n + 1 + m) + 3 := by omega
    have lv2 : 2 * n + 4 + m = (2 * n + 2 + m) + 2 := by omega
    have lv1 : 2 * n + 4 + m = (2 * n + 3 + m) + 1 := by omega
    -- a leaf
    have leaf : ∀ (h1 : Hm), Src0 h1 s → But s h h1 → Ok (cf (2 * n + 4 + m) 60 [.ref s, .ref w] h1) fun x h2 => Ok (pIdx (.ref q) (.int 0) h2) fun y h3 => Ok (pSub y (.int 1) h3) fun z h4 => Ok (pIdx (.ref q) (.int 1) h4) fun u h5 =>
        [z, u].length ≤ big ∧ [x, D.ref h5.length].length ≤ big ∧ P (.ref (h5 ++ [Ob.lst [z, u]]).length) (h5 ++ [Ob.lst [z, u]] ++ [Ob.lst [x, D.ref h5.length]]) := by
      intro h1 s1 b1
      rw [lv3]
      refine leaf_ok s1 (hw.but b1 nw) nw fun t h2 gt st bt s2 b2 _ => ?_
      have e2 : h2[q]? = some (.lst [.int r, .int b]) := b2.2 _ _ nq (b1.2 _ _ nq ro)
      rw [w_ixL (items_l e2)]
      refine ⟨_, at0, ?_⟩
      rw [w_subI, w_ixL (items_l e2)]
      have l2 := s2.lt
      refine ⟨_, at1, by simp [big], by simp [big], ?_⟩
      refine k t _ h2.length _ (r - 1) b gt (by simp; omega) (by omega) app_at (app_old app_at) (by omega) (by omega) b0 (by omega) s2.app.app (((b1.trans b2).trans But.app).trans But.app)
    rw [w_seq, w_ifS]
    simp only [w_ifS, w_bin, w_app, w_call, w_cons, w_nil, w_tup, w_lst, w_if, w_tb, w_not, w_and, w_or, w_c, w_v, w_un, w_int, w_intB, w_addI, w_subI, w_lt, w_le, w_gt, w_ge, w_eqI, w_methL, startE, List.map_cons, List.map_nil, List.cons_append, List.nil_append, List.getElem?_cons_zero, List.getElem?_cons_succ, List.set_cons_zero, List.set_cons_succ, ok1_some, at0, at1, at2, at3, w_ixT, List.length_cons, List.length_nil, Nat.reduceAdd, Nat.reduceSub, Nat.zero_add, List.replicate_succ, List.replicate_zero]
    rw [w_ixL it]
    refine ⟨_, at0, ?_⟩
    simp only [w_ifS, w_bin, w_app, w_call, w_cons, w_nil, w_tup, w_lst, w_if, w_tb, w_not, w_and, w_or, w_c, w_v, w_un, w_int, w_intB, w_addI, w_subI, w_lt, w_le, w_gt, w_ge, w_eqI, w_methL, startE, List.map_cons, List.map_nil, List.cons_append, List.nil_append, List.getElem?_cons_zero, List.getElem?_cons_succ, List.set_cons_zero, List.set_cons_succ, ok1_some, at0, at1, at2, at3, w_ixT, List.length_cons, List.length_nil, Nat.reduceAdd, Nat.reduceSub, Nat.zero_add, List.replicate_succ, List.replicate_zero]
    refine ⟨_, rfl, ?_⟩
    by_cases c : r < 3
    · simp only [decide_eq_true c, if_true, w_seq, w_ifS, w_set, w_ret, w_par, w_asg, w_sub, w_drop, w_pass, w_bin, w_app, w_call, w_cons, w_nil, w_tup, w_lst, w_if, w_tb, w_not, w_and, w_or, w_c, w_v, w_un, w_int, w_intB, w_addI, w_subI, w_lt, w_le, w_gt, w_ge, w_eqI, w_methL, startE, List.map_cons, List.map_nil, List.cons_append, List.nil_append, List.getElem?_cons_zero, List.getElem?_cons_succ, List.set_cons_zero, List.set_cons_succ, ok1_some, at0, at1, at2, at3, w_ixT, List.length_cons, List.length_nil, Nat.reduceAdd, Nat.reduceSub, Nat.zero_add, List.replicate_succ, List.replicate_zero]
      exact leaf h hs But.refl
    · simp only [decide_eq_false c, Bool.false_eq_true, if_false, w_ifS, w_bin, w_app, w_call, w_cons, w_nil, w_tup, w_lst, w_if, w_tb, w_not, w_and, w_or, w_c, w_v, w_un, w_int, w_intB, w_addI, w_subI, w_lt, w_le, w_gt, w_ge, w_eqI, w_methL, startE, List.map_cons, List.map_nil, List.cons_append, List.nil_append, List.getElem?_cons_zero, List.getElem?_cons_succ, List.set_cons_zero, List.set_cons_succ, ok1_some, at0, at1, at2, at3, w_ixT, List.length_cons, List.length_nil, Nat.reduceAdd, Nat.reduceSub, Nat.zero_add, List.replicate_succ, List.replicate_zero]
      rw [lv1]
      refine take_ok hs (by omega) (by omega) fun t1 h1 _ _ s1 b1 _ => ?_
      simp only [w_ifS, w_bin, w_app, w_call, w_cons, w_nil, w_tup, w_lst, w_if, w_tb, w_not, w_and, w_or, w_c, w_v, w_un, w_int, w_intB, w_addI, w_subI, w_lt, w_le, w_gt, w_ge, w_eqI, w_methL, startE, List.map_cons, List.map_nil, List.cons_append, List.nil_append, List.getElem?_cons_zero, List.getElem?_cons_succ, List.set_cons_zero, List.set_cons_succ, ok1_some, at0, at1, at2, at3, w_ixT, List.length_cons, List.length_nil, Nat.reduceAdd, Nat.reduceSub, Nat.zero_add, List.replicate_succ, List.replicate_zero]
      refine ⟨_, rfl, ?_⟩
      rw [← lv1]
      cases q1 : (t1 == 0) with
      | true =>
        simp only [if_true, w_seq, w_ifS, w_set, w_ret, w_par, w_asg, w_sub, w_drop, w_pass, w_bin, w_app, w_call, w_cons, w_nil, w_tup, w_lst, w_if, w_tb, w_not, w_and, w_or, w_c, w_v, w_un, w_int, w_intB, w_addI, w_subI, w_lt, w_le, w_gt, w_ge, w_eqI, w_methL, startE, List.map_cons, List.map_nil, List.cons_append, List.nil_append, List.getElem?_cons_zero, List.getElem?_cons_succ, List.set_cons_zero, List.set_cons_succ, ok1_some, at0, at1, at2, at3, w_ixT, List.length_cons, List.length_nil, Nat.reduceAdd, Nat.reduceSub, Nat.zero_add, List.replicate_succ, List.replicate_zero]
        exact leaf h1 s1 b1
      | false =>
        simp only [Bool.false_eq_true, if_false, w_pass]
        have e1 : h1[q]? = some (.lst [.int r, .int b]) := b1.2 _ _ nq ro
        -- a bind
        rw [w_seq, w_ifS]
        simp only [w_ifS, w_bin, w_app, w_call, w_cons, w_nil, w_tup, w_lst, w_if, w_tb, w_not, w_and, w_or, w_c, w_v, w_un, w_int, w_intB, w_addI, w_subI, w_lt, w_le, w_gt, w_ge, w_eqI, w_methL, startE, List.map_cons, List.map_nil, List.cons_append, List.nil_append, List.getElem?_cons_zero, List.getElem?_cons_succ, List.set_cons_zero, List.set_cons_succ, ok1_some, at0, at1, at2, at3, w_ixT, List.length_cons, List.length_nil, Nat.reduceAdd, Nat.reduceSub, Nat.zero_add, List.replicate_succ, List.replicate_zero]
        rw [w_ixL (items_l e1)]
        refine ⟨_, at1, ?_⟩
        simp only [w_ifS, w_bin, w_app, w_call, w_cons, w_nil, w_tup, w_lst, w_if, w_tb, w_not, w_and, w_or, w_c, w_v, w_un, w_int, w_intB, w_addI, w_subI, w_lt, w_le, w_gt, w_ge, w_eqI, w_methL, startE, List.map_cons, List.map_nil, List.cons_append, List.nil_append, List.getElem?_cons_zero, List.getElem?_cons_succ, List.set_cons_zero, List.set_cons_succ, ok1_some, at0, at1, at2, at3, w_ixT, List.length_cons, List.length_nil, Nat.reduceAdd, Nat.reduceSub, Nat.zero_add, List.replicate_succ, List.replicate_zero]
        refine ⟨_, rfl, ?_⟩
        have rest : ∀ h2 : Hm, Src0 h2 s → But s h h2 → OkS (mSeq (mPar 3 4 (mCons (mLst mNil) (mCons (mLst (mCons (mBin pSub (mBin pIdx (mVar 2) (mC (.int 0))) (mC (.int 1))) (mCons (mBin pIdx (mVar 2) (mC (.int 1))) mNil))) mNil)))
            (mSeq (mFor (mRng1 (mCons (mCall (cf (2 * n + 4 + m) 57) (mCons (mVar 0) (mCons (mLst (mCons (mC (.int 0)) (mCons (mC (.int 1)) (mCons (mC (.int 2)) (mCons (mC (.int 2)) (mCons (mC (.int 3)) mNil)))))) mNil))) mNil)) (gSet 5) (mIfS (mTb (mBin pGt (mBin pIdx (mVar 4) (mC (.int 0))) (mC (.int 0)))) (mSeq (mAsg (gTupM [(gSet 6), (gSet 4)]) (mCall (cf (2 * n + 4 + m) 61) (mCons (mVar 0) (mCons (mVar 1) (mCons (mVar 4) mNil)))))
              (mDrop (mMethL pAppend (mVar 3) (mCons (mVar 6) mNil)))) mPass))
            (mRet (mLst (mCons (mTup (mCons (mC (.str [106, 111, 105, 110])) (mCons (mCall (cf (2 * n + 4 + m) 57) (mCons (mVar 0) (mCons (mLst (mCons (mC (.str [102])) (mCons (mC (.str [120])) (mCons (mC (.str [106, 111, 105, 110])) mNil)))) mNil))) (mCons (mApp pTuple (mCons (mVar 3) mNil)) mNil)))) (mCons (mVar 4) mNil))))) [some (.ref s), some (.ref w), some (.ref q), none, none, none, none] h2) (fun _ h' => P .non h') P := by
          intro h2 s2 b2
          have e2 : h2[q]? = some (.lst [.int r, .int b]) := b2.2 _ _ nq ro
          have f2 : (h2 ++ [Ob.lst []])[q]? = some (.lst [.int r, .int b]) := app_old e2
          simp only [w_seq, w_ifS, w_set, w_ret, w_par, w_asg, w_sub, w_drop, w_pass, w_bin, w_app, w_call, w_cons, w_nil, w_tup, w_lst, w_if, w_tb, w_not, w_and, w_or, w_c, w_v, w_un, w_int, w_intB, w_addI, w_subI, w_lt, w_le, w_gt, w_ge, w_eqI, w_methL, startE, List.map_cons, List.map_nil, List.cons_append, List.nil_append, List.getElem?_cons_zero, List.getElem?_cons_succ, List.set_cons_zero, List.set_cons_succ, ok1_some, at0, at1, at2, at3, w_ixT, List.length_cons, List.length_nil, Nat.reduceAdd, Nat.reduceSub, Nat.zero_add, List.replicate_succ, List.replicate_zero]
          refine ⟨by simp [big], ?_⟩
          rw [w_ixL (items_l f2)]
          refine ⟨_, at0, ?_⟩
          simp only [w_seq, w_ifS, w_set, w_ret, w_par, w_asg, w_sub, w_drop, w_pass, w_bin, w_app, w_call, w_cons, w_nil, w_tup, w_lst, w_if, w_tb, w_not, w_and, w_or, w_c, w_v, w_un, w_int, w_intB, w_addI, w_subI, w_lt, w_le, w_gt, w_ge, w_eqI, w_methL, startE, List.map_cons, List.map_nil, List.cons_append, List.nil_append, List.getElem?_cons_zero, List.getElem?_cons_succ, List.set_cons_zero, List.set_cons_succ, ok1_some, at0, at1, at2, at3, w_ixT, List.length_cons, List.length_nil, Nat.reduceAdd, Nat.reduceSub, Nat.zero_add, List.replicate_succ, List.replicate_zero]
          rw [w_ixL (items_l f2)]
          refine ⟨_, at1, by simp [big], _, _, rfl, ?_⟩
          have ls := s2.lt
          have V0 : Parts h2 (h2 ++ [Ob.lst []] ++ [Ob.lst [.int (r - 1), .int b]]) s h2.length (h2 ++ [Ob.lst []]).length (r - 1) b (r - 1) b [] :=
            ⟨app_old app_at, app_at, by omega, by simp [sizs], by omega, by simp [bnds], fun _ => rfl, trivial, by simp; omega, s2.app.app, But.app.trans But.app⟩
          generalize h2 ++ [Ob.lst []] ++ [Ob.lst [.int (r - 1), .int b]] = h3 at V0 ⊢
          generalize (h2 ++ [Ob.lst []]).length = lq at V0 ⊢
          have np : h2.length ≠ s := by omega
          have hw2 := hw.but b2 nw
          rw [w_for, w_rng1]
          simp only [w_seq, w_ifS, w_set, w_ret, w_par, w_asg, w_sub, w_drop, w_pass, w_bin, w_app, w_call, w_cons, w_nil, w_tup, w_lst, w_if, w_tb, w_not, w_and, w_or, w_c, w_v, w_un, w_int, w_intB, w_addI, w_subI, w_lt, w_le, w_gt, w_ge, w_eqI, w_methL, startE, List.map_cons, List.map_nil, List.cons_append, List.nil_append, List.getElem?_cons_zero, List.getElem?_cons_succ, List.set_cons_zero, List.set_cons_succ, ok1_some, at0, at1, at2, at3, w_ixT, List.length_cons, List.length_nil, Nat.reduceAdd, Nat.reduceSub, Nat.zero_add, List.replicate_succ, List.replicate_zero]
          refine ⟨by simp [big], ?_⟩
          have V1 : Parts h2 (h3 ++ [Ob.lst [D.int 0, D.int 1, D.int 2, D.int 2, D.int 3]]) s h2.length lq (r - 1) b (r - 1) b [] := ⟨app_old V0.pa_, app_old V0.ro, V0.r0, V0.r1, V0.b0, V0.b1, V0.e0, V0.gd, V0.ls, V0.src.app, V0.but.trans But.app⟩
          rw [lv2]
          refine draw_ok (js := [0, 1, 2, 2, 3]) V1.src app_at (by have := V0.but.1; omega) (by simp) (by simp) fun j h4 hj s4 b4 _ => ?_
          have j2 : 0 ≤ j ∧ j ≤ 3 := by
            simp at hj
            omega
          refine ⟨j, rfl, small_of j2.1 (by omega), ?_⟩
          have V2 : Parts h2 h4 s h2.length lq (r - 1) b (r - 1) b [] := ⟨b4.2 _ _ np V1.pa_, b4.2 _ _ V1.ls V1.ro, V1.r0, V1.r1, V1.b0, V1.b1, V1.e0, V1.gd, V1.ls, s4, V1.but.trans b4⟩
          have lj : (intsR 0 j.toNat).length = j.toNat := intsR_len
          refine loop_fix (fun i e hx => ∃ (ts : List Tr) (lq' : Nat) (x5 x6 : Option D) (rr bb : Int), e = [some (.ref s), some (.ref w), some (.ref q), some (.ref h2.length), some (.ref lq'), x5, x6] ∧ Parts h2 hx s h2.length lq' (r - 1) b rr bb ts ∧ ts.length ≤ i) ?_ ?_ j.toNat lots 0 _ h4 (by rw [lj]; omega) (by unfold lots; omega) ⟨[], lq, none, none, _, _, rfl, V2, Nat.le_refl _⟩
          · rintro i x e hx hi ⟨ts, lq', x5, x6, rr, bb, rfl, V, tl⟩
            have il : i < j.toNat := by
              rw [← lj]
              exact (List.getElem?_eq_some_iff.mp hi).1
            refine ⟨_, rfl, ?_⟩
            show OkS (mIfS _ _ _ [some (.ref s), some (.ref w), some (.ref q), some (.ref h2.length), some (.ref lq'), some x, x6] hx) _ _
            simp only [w_ifS, w_bin, w_app, w_call, w_cons, w_nil, w_tup, w_lst, w_if, w_tb, w_not, w_and, w_or, w_c, w_v, w_un, w_int, w_intB, w_addI, w_subI, w_lt, w_le, w_gt, w_ge, w_eqI, w_methL, startE, List.map_cons, List.map_nil, List.cons_append, List.nil_append, List.getElem?_cons_zero, List.getElem?_cons_succ, List.set_cons_zero, List.set_cons_succ, ok1_some, at0, at1, at2, at3, w_ixT, List.length_cons, List.length_nil, Nat.reduceAdd, Nat.reduceSub, Nat.zero_add, List.replicate_succ, List.replicate_zero]
            rw [w_ixL (items_l V.ro)]
            refine ⟨_, at0, ?_⟩
            simp only [w_ifS, w_bin, w_app, w_call, w_cons, w_nil, w_tup, w_lst, w_if, w_tb, w_not, w_and, w_or, w_c, w_v, w_un, w_int, w_intB, w_addI, w_subI, w_lt, w_le, w_gt, w_ge, w_eqI, w_methL, startE, List.map_cons, List.map_nil, List.cons_append, List.nil_append, List.getElem?_cons_zero, List.getElem?_cons_succ, List.set_cons_zero, List.set_cons_succ, ok1_some, at0, at1, at2, at3, w_ixT, List.length_cons, List.length_nil, Nat.reduceAdd, Nat.reduceSub, Nat.zero_add, List.replicate_succ, List.replicate_zero]
            refine ⟨_, rfl, ?_⟩
            by_cases c2 : (0 : Int) < rr
            · simp only [decide_eq_true c2, if_true]
              have v1 := V.r1
              have lv5 : 2 * n + 2 + m + 2 = 2 * n + 3 + (m + 1) := by omega
              rw [lv5]
              exact part_ok G V c2 (by omega) hw2 nw np (Nat.le_refl _) (by omega) fun t lq2 h5 r5 b5 V5 => ⟨ts ++ [t], lq2, some x, some (toD t), r5, b5, rfl, V5, by simp; omega⟩
            · simp only [decide_eq_false c2, Bool.false_eq_true, if_false, w_pass]
              exact ⟨ts, lq', some x, x6, rr, bb, rfl, V, by omega⟩
          · rintro e hx ⟨ts, lq', x5, x6, rr, bb, rfl, V, tl⟩
            rw [lj] at tl
            simp only [w_seq, w_ifS, w_set, w_ret, w_par, w_asg, w_sub, w_drop, w_pass, w_bin, w_app, w_call, w_cons, w_nil, w_tup, w_lst, w_if, w_tb, w_not, w_and, w_or, w_c, w_v, w_un, w_int, w_intB, w_addI, w_subI, w_lt, w_le, w_gt, w_ge, w_eqI, w_methL, startE, List.map_cons, List.map_nil, List.cons_append, List.nil_append, List.getElem?_cons_zero, List.getElem?_cons_succ, List.set_cons_zero, List.set_cons_succ, ok1_some, at0, at1, at2, at3, w_ixT, List.length_cons, List.length_nil, Nat.reduceAdd, Nat.reduceSub, Nat.zero_add, List.replicate_succ, List.replicate_zero]
            refine ⟨by simp [big], ?_⟩
            have lx : hx.length ≠ s := by have := V.src.lt; omega
            refine one_ok (xs := [.str [102], .str [120], .str [106, 111, 105, 110]]) V.src.app app_at lx (by simp) (by simp) fun d h6 hd s6 b6 _ => ?_
            have e6 : h6[h2.length]? = some (.lst (toDs ts)) := b6.2 _ _ np (app_old V.pa_)
            rw [w_tupleL (items_l e6) (by rw [toDs_map, List.length_map]; unfold big; omega)]
            have l6 := s6.lt
            have v1 := V.r1
            have v2 := V.b1
            have fin : ∀ l : List Nat, goodN l = true → P (.ref h6.length) (h6 ++ [Ob.lst [D.tup [D.str [106, 111, 105, 110], D.str l, D.tup (toDs ts)], D.ref lq']]) := fun l gl => by
              refine k (.join l ts) _ lq' _ rr bb ⟨gl, V.gd⟩ (by omega) V.ls app_at (app_old (b6.2 _ _ V.ls (app_old V.ro))) V.r0 ?_ V.b0 ?_ s6.app ((((b2.trans V.but).trans But.app).trans b6).trans But.app)
              · simp only [siz]
                omega
              · simp only [bnd]
                omega
            refine ⟨by simp [big], by simp [big], ?_⟩
            simp only [List.mem_cons, List.not_mem_nil, or_false] at hd
            rcases hd with rfl | rfl | rfl
            · exact fin [102] (by decide +kernel)
            · exact fin [120] (by decide +kernel)
            · exact fin [106, 111, 105, 110] (by decide +kernel)
        by_cases c2 : (0 : Int) < b
        · simp only [decide_eq_true c2, if_true, w_ifS, w_bin, w_app, w_call, w_cons, w_nil, w_tup, w_lst, w_if, w_tb, w_not, w_and, w_or, w_c, w_v, w_un, w_int, w_intB, w_addI, w_subI, w_lt, w_le, w_gt, w_ge, w_eqI, w_methL, startE, List.map_cons, List.map_nil, List.cons_append, List.nil_append, List.getElem?_cons_zero, List.getElem?_cons_succ, List.set_cons_zero, List.set_cons_succ, ok1_some, at0, at1, at2, at3, w_ixT, List.length_cons, List.length_nil, Nat.reduceAdd, Nat.reduceSub, Nat.zero_add, List.replicate_succ, List.replicate_zero]
          rw [lv1]
          refine take_ok s1 (by omega) (by omega) fun t2 h2 _ _ s2 b2 _ => ?_
          simp only [w_ifS, w_bin, w_app, w_call, w_cons, w_nil, w_tup, w_lst, w_if, w_tb, w_not, w_and, w_or, w_c, w_v, w_un, w_int, w_intB, w_addI, w_subI, w_lt, w_le, w_gt, w_ge, w_eqI, w_methL, startE, List.map_cons, List.map_nil, List.cons_append, List.nil_append, List.getElem?_cons_zero, List.getElem?_cons_succ, List.set_cons_zero, List.set_cons_succ, ok1_some, at0, at1, at2, at3, w_ixT, List.length_cons, List.length_nil, Nat.reduceAdd, Nat.reduceSub, Nat.zero_add, List.replicate_succ, List.replicate_zero]
          refine ⟨_, rfl, ?_⟩
          rw [← lv1]
          cases q2 : decide (0 < t2) with
          | true =>
            simp only [if_true, w_seq, w_ifS, w_set, w_ret, w_par, w_asg, w_sub, w_drop, w_pass, w_bin, w_app, w_call, w_cons, w_nil, w_tup, w_lst, w_if, w_tb, w_not, w_and, w_or, w_c, w_v, w_un, w_int, w_intB, w_addI, w_subI, w_lt, w_le, w_gt, w_ge, w_eqI, w_methL, startE, List.map_cons, List.map_nil, List.cons_append, List.nil_append, List.getElem?_cons_zero, List.getElem?_cons_succ, List.set_cons_zero, List.set_cons_succ, ok1_some, at0, at1, at2, at3, w_ixT, List.length_cons, List.length_nil, Nat.reduceAdd, Nat.reduceSub, Nat.zero_add, List.replicate_succ, List.replicate_zero]
            have e2 : h2[q]? = some (.lst [.int r, .int b]) := b2.2 _ _ nq e1
            refine bound_ok G (by omega) (by omega) (by omega) (by omega) s2 (hw.but (b1.trans b2) nw) nw e2 nq ?_
            intro t p q' h' r' b' gt ps qs z1 z2 z3 z4 z5 z6 z7 z8
            exact k t p q' h' r' b' gt ps qs z1 z2 z3 z4 z5 z6 z7 ((b1.trans b2).trans z8)
          | false =>
            simp only [Bool.false_eq_true, if_false, w_pass]
            exact rest h2 s2 (b1.trans b2)
        · simp only [decide_eq_false c2, Bool.false_eq_true, if_false, w_pass]
          exact rest h1 s1 b1

/-! ### data at hand -/
mutual
theorem okD_tree {h : Hm} : ∀ (t : Tr) (n : Nat), 2 * siz t + 1 ≤ n → good t → okD n h (toD t) = true
  | .use a, n, hn, g => by
    obtain ⟨k, rfl⟩ : ∃ k, n = k + 2 := ⟨n - 2, by simp [siz] at hn; omega⟩
    have g : goodN a = true := g
    unfold goodN at g
    simp only [Bool.and_eq_true] at g
    simp only [toD, okD, List.all_cons, List.all_nil, Bool.and_true, Bool.and_eq_true]
    exact ⟨by decide, g.2⟩
  | .join l ts, n, hn, g => by
    obtain ⟨k, rfl⟩ : ∃ k, n = k + 2 := ⟨n - 2, by simp [siz] at hn; omega⟩
    obtain ⟨gl, gt⟩ := g
    unfold goodN at gl
    simp only [Bool.and_eq_true] at gl
    simp only [toD, okD, List.all_cons, List.all_nil, Bool.and_true, Bool.and_eq_true]
    refine ⟨by decide, gl.2, okD_trees ts k (by simp only [siz] at hn; omega) gt⟩
  | .bind a ah b, n, hn, g => by
    obtain ⟨k, rfl⟩ : ∃ k, n = k + 2 := ⟨n - 2, by simp [siz] at hn; omega⟩
    obtain ⟨gl, gt, gb⟩ := g
    unfold goodN at gl
    simp only [Bool.and_eq_true] at gl
    have h1 := okD_tree (h := h) b (k + 1) (by simp only [siz] at hn; omega) gb
    simp only [toD, List.all_cons, List.all_nil, Bool.and_true, Bool.and_eq_true]
    show (okD (k + 1) h (.str tBind) && (okD (k + 1) h (.str a) && (okD (k + 1) h (.tup (toDs ah)) && (okD (k + 1) h (toD b) && true)))) = true
    rw [h1]
    simp only [okD, Bool.and_true, Bool.and_eq_true]
    exact ⟨by decide, gl.2, okD_trees ah k (by simp only [siz] at hn; omega) gt⟩
theorem okD_trees {h : Hm} : ∀ (ts : List Tr) (n : Nat), 2 * sizs ts + 1 ≤ n → goods ts → (toDs ts).all (okD n h) = true
  | [], _, _, _ => rfl
  | t :: ts, n, hn, g => by
    simp only [toDs, List.all_cons, Bool.and_eq_true]
    simp only [sizs] at hn
    exact ⟨okD_tree t n (by omega) g.1, okD_trees ts n (by omega) g.2⟩
end
theorem eqL_refl {f : D → D → Bool} : ∀ {l : List D}, (∀ x ∈ l, f x x = true) → eqL f l l = true
  | [], _ => rfl
  | x :: l, h => by
    unfold eqL
    rw [h x List.mem_cons_self, eqL_refl fun y hy => h y (List.mem_cons_of_mem _ hy)]
    rfl
theorem eqB_refl {h : Hm} : ∀ (n : Nat) (d : D), okD n h d = true → eqB n h d d = true
  | 0, _, e => by cases e
  | n + 1, d, e => by
    cases d with
    | non => rfl
    | bl b => simp [eqB]
    | int i => simp [eqB]
    | str s => simp [eqB]
    | tup xs =>
      show eqL (eqB n h) xs xs = true
      exact eqL_refl fun x hx => eqB_refl n x (List.all_eq_true.mp e x hx)
    | ref i =>
      obtain ⟨xs, e1, e2⟩ := okD_ref e
      show (match itemsOf h i, itemsOf h i with | some xs, some ys => eqL (eqB n h) xs ys | _, _ => false) = true
      rw [e1]
      exact eqL_refl fun x hx => eqB_refl n x (List.all_eq_true.mp e2 x hx)
/-- two lists at hand with the same values -/
theorem okD_lst {h : Hm} {i n : Nat} {xs : List D} (e : itemsOf h i = some xs) (q : xs.all (okD n h) = true) : okD (n + 1) h (.ref i) = true := by
  unfold okD
  unfold itemsOf at e
  cases z : h[i]? with
  | none => rw [z] at e; cases e
  | some ob =>
    rw [z] at e
    cases ob <;> cases e <;> (simp only [z]; exact q)
theorem eqB_lsts {h : Hm} {i j n : Nat} {xs ys : List D} (e1 : itemsOf h i = some xs) (e2 : itemsOf h j = some ys) : eqB (n + 1) h (.ref i) (.ref j) = eqL (eqB n h) xs ys := by
  show (match itemsOf h i, itemsOf h j with | some xs, some ys => eqL (eqB n h) xs ys | _, _ => false) = _
  rw [e1, e2]
theorem w_eq {x y : D} {h : Hm} {P : D → Hm → Prop} (a : okD deep h x = true) (b : okD deep h y = true) : Ok (pEq x y h) P ↔ P (.bl (eqB deep h x y)) h := by
  unfold pEq
  rw [a, b]
  exact Iff.rfl
theorem w_ne {x y : D} {h : Hm} {P : D → Hm → Prop} (a : okD deep h x = true) (b : okD deep h y = true) : Ok (pNe x y h) P ↔ P (.bl (!eqB deep h x y)) h := by
  unfold pNe
  rw [a, b]
  exact Iff.rfl
/-! ### leaves, nested trees -/
theorem leaves_ok {m s w i k : Nat} {e0 : En} {h : Hm} {P : D → Hm → Prop} (hs : Src0 h s) (hw : Names h w) (nw : w ≠ s) (i0 : i ≠ 0) (i1 : i ≠ 1) (q0 : e0[0]? = some (some (.ref s))) (q1 : e0[1]? = some (some (.ref w))) (hk : k < 100)
    (kk : ∀ (ts : List Tr) (h' : Hm), ts.length = k → goods ts → sizs ts = k → bnds ts = 0 → h'[h.length]? = some (.lst (toDs ts)) → Src0 h' s → But s h h' → P (.ref h.length) h') :
    Ok (mCLoop (.fix (intsR 0 k)) (gSet i) mYes (mCall (cf (m + 3) 60) (mCons (mVar 0) (mCons (mVar 1) mNil))) e0 h.length lots 0 (h ++ [.lst []])) P := by
  have ls := hs.lt
  have np : h.length ≠ s := by omega
  have lk : (intsR 0 k).length = k := intsR_len
  refine cloop_fix (fun j acc hx => ∃ ts : List Tr, acc = toDs ts ∧ ts.length = j ∧ goods ts ∧ sizs ts = j ∧ bnds ts = 0 ∧ hx[h.length]? = some (.lst acc) ∧ Src0 hx s ∧ But s h hx) (fun j acc hx v => ?_) (fun j x acc hx hj v => ?_) (fun acc hx v => ?_) k lots 0 [] _ (by rw [lk]; omega) (by unfold lots; omega) ⟨[], rfl, rfl, trivial, rfl, rfl, app_at, hs.app, But.app⟩
  · obtain ⟨_, _, _, _, _, _, q, _⟩ := v
    exact q
  · obtain ⟨ts, rfl, tl, g, sz, bz, q, s1, b1⟩ := v
    have jl : j < k := by
      rw [← lk]
      exact (List.getElem?_eq_some_iff.mp hj).1
    refine ⟨_, rfl, ?_⟩
    have r0 : (e0.set i (some x))[0]? = some (some (.ref s)) := by rw [List.getElem?_set_ne i0]; exact q0
    have r1 : (e0.set i (some x))[1]? = some (some (.ref w)) := by rw [List.getElem?_set_ne i1]; exact q1
    simp only [w_call, w_cons, w_nil, w_var r0, w_var r1]
    refine leaf_ok s1 (hw.but b1 nw) nw fun t h2 gt st bt s2 b2 _ => ?_
    have q2 := b2.2 _ _ np q
    refine ⟨_, q2, by rw [toDs_map, List.length_map]; unfold big; omega, ts ++ [t], ?_, by simp [tl], (goods_app ts [t]).mpr ⟨g, gt, trivial⟩, ?_, ?_, ?_, s2.put np, (b1.trans b2).put (Nat.le_refl _)⟩
    · rw [toDs_map, toDs_map, List.map_append]
      rfl
    · rw [sizs_app]
      simp [sizs, sz, st]
    · rw [bnds_app]
      simp [bnds, bz, bt]
    · rw [List.getElem?_set_self (lt_of_at q2)]
  · obtain ⟨ts, rfl, tl, g, sz, bz, q, s1, b1⟩ := v
    rw [lk] at tl sz
    exact kk ts hx tl g sz bz q s1 b1

theorem w_addL {i j : Nat} {xs ys : List D} {h : Hm} {P : D → Hm → Prop} (e1 : h[i]? = some (.lst xs)) (e2 : h[j]? = some (.lst ys)) (c : xs.length + ys.length ≤ big) : Ok (pAdd (.ref i) (.ref j) h) P ↔ P (.ref h.length) (h ++ [.lst (xs ++ ys)]) := by
  unfold pAdd
  simp only [e1, e2]
  rw [if_pos c]
  exact Iff.rfl
theorem nested_ok {m s w : Nat} {dp : Int} {h : Hm} {P : D → Hm → Prop} (hs : Src0 h s) (hw : Names h w) (nw : w ≠ s) (d0 : 0 ≤ dp) (d1 : dp ≤ 9)
    (k : ∀ (t : Tr) (h' : Hm), good t → (siz t : Int) ≤ 5 + 4 * dp → (bnd t : Int) ≤ dp → Src0 h' s → But s h h' → P (toD t) h') : Ok (cf (m + 4) 63 [.ref s, .ref w, .int dp] h) P := by
  rw [c_63 (cf := cf)]
  refine ok_body rfl ?_
  unfold b_63
  rw [w_seq, w_set]
  simp only [w_ifS, w_bin, w_app, w_call, w_cons, w_nil, w_tup, w_lst, w_if, w_tb, w_not, w_and, w_or, w_c, w_v, w_un, w_int, w_intB, w_addI, w_subI, w_lt, w_le, w_gt, w_ge, w_eqI, w_methL, startE, List.map_cons, List.map_nil, List.cons_append, List.nil_append, List.getElem?_cons_zero, List.getElem?_cons_succ, List.set_cons_zero, List.set_cons_succ, ok1_some, at0, at1, at2, at3, w_ixT, List.length_cons, List.length_nil, Nat.reduceAdd, Nat.reduceSub, Nat.zero_add, List.replicate_succ, List.replicate_zero]
  rw [w_comp, w_rng1]
  simp only [w_ifS, w_bin, w_app, w_call, w_cons, w_nil, w_tup, w_lst, w_if, w_tb, w_not, w_and, w_or, w_c, w_v, w_un, w_int, w_intB, w_addI, w_subI, w_lt, w_le, w_gt, w_ge, w_eqI, w_methL, startE, List.map_cons, List.map_nil, List.cons_append, List.nil_append, List.getElem?_cons_zero, List.getElem?_cons_succ, List.set_cons_zero, List.set_cons_succ, ok1_some, at0, at1, at2, at3, w_ixT, List.length_cons, List.length_nil, Nat.reduceAdd, Nat.reduceSub, Nat.zero_add, List.replicate_succ, List.replicate_zero]
  have lv1 : m + 3 = (m + 2) + 1 := rfl
  have lv2 : m + 3 = (m + 1) + 2 := rfl
  rw [lv1]
  refine take_ok hs (by omega) (by omega) fun t1 h1 t10 t11 s1 b1 _ => ?_
  simp only [w_ifS, w_bin, w_app, w_call, w_cons, w_nil, w_tup, w_lst, w_if, w_tb, w_not, w_and, w_or, w_c, w_v, w_un, w_int, w_intB, w_addI, w_subI, w_lt, w_le, w_gt, w_ge, w_eqI, w_methL, startE, List.map_cons, List.map_nil, List.cons_append, List.nil_append, List.getElem?_cons_zero, List.getElem?_cons_succ, List.set_cons_zero, List.set_cons_succ, ok1_some, at0, at1, at2, at3, w_ixT, List.length_cons, List.length_nil, Nat.reduceAdd, Nat.reduceSub, Nat.zero_add, List.replicate_succ, List.replicate_zero]
  refine ⟨_, rfl, small_of (by omega) (by omega), ?_⟩
  refine leaves_ok (m := m) s1 (hw.but b1 nw) nw (by decide) (by decide) rfl rfl (by omega) fun ts0 h2 tl g2 sz2 bz2 q2 s2 b2 => ?_
  rw [w_tupleL (items_l q2) (by rw [toDs_map, List.length_map]; unfold big; omega)]
  refine ⟨by simp [big], ?_⟩
  rw [w_seq, w_for, w_rng1]
  simp only [w_ifS, w_bin, w_app, w_call, w_cons, w_nil, w_tup, w_lst, w_if, w_tb, w_not, w_and, w_or, w_c, w_v, w_un, w_int, w_intB, w_addI, w_subI, w_lt, w_le, w_gt, w_ge, w_eqI, w_methL, startE, List.map_cons, List.map_nil, List.cons_append, List.nil_append, List.getElem?_cons_zero, List.getElem?_cons_succ, List.set_cons_zero, List.set_cons_succ, ok1_some, at0, at1, at2, at3, w_ixT, List.length_cons, List.length_nil, Nat.reduceAdd, Nat.reduceSub, Nat.zero_add, List.replicate_succ, List.replicate_zero]
  refine ⟨dp, rfl, small_of d0 (by omega), ?_⟩
  have lj : (intsR 0 dp.toNat).length = dp.toNat := intsR_len
  have g0 : good (.join [102] ts0) := ⟨by decide +kernel, g2⟩
  refine loop_fix (fun i e hx => ∃ (t : Tr) (x4 x5 x6 x7 x8 : Option D), e = [some (.ref s), some (.ref w), some (.int dp), some (toD t), x4, x5, x6, x7, x8] ∧ good t ∧ siz t ≤ 5 + 4 * i ∧ bnd t = i ∧ Src0 hx s ∧ But s h hx) ?_ ?_ dp.toNat lots 0 _ h2 (by rw [lj]; omega) (by unfold lots; omega)
    ⟨.join [102] ts0, none, none, none, none, none, rfl, g0, by simp only [siz]; omega, by simp only [bnd]; omega, s2, b1.trans b2⟩
  · rintro i x e hx hi ⟨t, x4, x5, x6, x7, x8, rfl, gt, st, bt, s3, b3⟩
    have il : i < dp.toNat := by
      rw [← lj]
      exact (List.getElem?_eq_some_iff.mp hi).1
    refine ⟨_, rfl, ?_⟩
    show OkS (mSeq _ _ [some (.ref s), some (.ref w), some (.int dp), some (toD t), some x, x5, x6, x7, x8] hx) _ _
    rw [w_seq, w_set, w_comp, w_rng1]
    simp only [w_ifS, w_bin, w_app, w_call, w_cons, w_nil, w_tup, w_lst, w_if, w_tb, w_not, w_and, w_or, w_c, w_v, w_un, w_int, w_intB, w_addI, w_subI, w_lt, w_le, w_gt, w_ge, w_eqI, w_methL, startE, List.map_cons, List.map_nil, List.cons_append, List.nil_append, List.getElem?_cons_zero, List.getElem?_cons_succ, List.set_cons_zero, List.set_cons_succ, ok1_some, at0, at1, at2, at3, w_ixT, List.length_cons, List.length_nil, Nat.reduceAdd, Nat.reduceSub, Nat.zero_add, List.replicate_succ, List.replicate_zero]
    refine take_ok s3 (by omega) (by omega) fun t2 h3 t20 t21 s4 b4 _ => ?_
    refine ⟨t2, rfl, small_of t20 (by omega), ?_⟩
    have b34 := b3.trans b4
    refine leaves_ok (m := m) s4 (hw.but b34 nw) nw (by decide) (by decide) rfl rfl (by omega) fun ts h4 tl4 g4 sz4 bz4 q4 s5 b5 => ?_
    have b35 := b34.trans b5
    have l3 := s4.lt
    have np : h3.length ≠ s := by omega
    -- the core
    have core : ∃ c : Tr, good c ∧ siz c ≤ siz t + 2 ∧ bnd c = bnd t ∧ ∀ (N : D → Hm → Prop), (∀ h5, Src0 h5 s → But s h4 h5 → N (toD c) h5) →
        Ok (mIf (mTb (mBin pEq (mVar 5) (mLst mNil))) (mVar 3) (mTup (mCons (mC (.str [106, 111, 105, 110])) (mCons (mC (.str [103])) (mCons (mApp pTuple (mCons (mBin pAdd (mVar 5) (mLst (mCons (mVar 3) mNil))) mNil)) mNil)))) [some (.ref s), some (.ref w), some (.int dp), some (toD t), some x, some (.ref h3.length), x6, x7, x8] h4) N := by
      have q5 : (h4 ++ [Ob.lst []])[h3.length]? = some (.lst (toDs ts)) := app_old q4
      have q6 : (h4 ++ [Ob.lst []])[h4.length]? = some (.lst []) := app_at
      have o1 : okD deep (h4 ++ [Ob.lst []]) (.ref h3.length) = true := okD_lst (n := 109) (items_l q5) (okD_trees ts 109 (by omega) g4)
      have o2 : okD deep (h4 ++ [Ob.lst []]) (.ref h4.length) = true := okD_lst (n := 109) (items_l q6) rfl
      have ev := eqB_lsts (n := 109) (items_l q5) (items_l q6)
      cases ts with
      | nil =>
        refine ⟨t, gt, by omega, rfl, fun N hN => ?_⟩
        simp only [w_ifS, w_bin, w_app, w_call, w_cons, w_nil, w_tup, w_lst, w_if, w_tb, w_not, w_and, w_or, w_c, w_v, w_un, w_int, w_intB, w_addI, w_subI, w_lt, w_le, w_gt, w_ge, w_eqI, w_methL, startE, List.map_cons, List.map_nil, List.cons_append, List.nil_append, List.getElem?_cons_zero, List.getElem?_cons_succ, List.set_cons_zero, List.set_cons_succ, ok1_some, at0, at1, at2, at3, w_ixT, List.length_cons, List.length_nil, Nat.reduceAdd, Nat.reduceSub, Nat.zero_add, List.replicate_succ, List.replicate_zero]
        refine ⟨by simp [big], ?_⟩
        rw [w_eq o1 o2]
        refine ⟨true, by rw [show deep = 109 + 1 from rfl, ev]; rfl, ?_⟩
        simp only [if_true, w_ifS, w_bin, w_app, w_call, w_cons, w_nil, w_tup, w_lst, w_if, w_tb, w_not, w_and, w_or, w_c, w_v, w_un, w_int, w_intB, w_addI, w_subI, w_lt, w_le, w_gt, w_ge, w_eqI, w_methL, startE, List.map_cons, List.map_nil, List.cons_append, List.nil_append, List.getElem?_cons_zero, List.getElem?_cons_succ, List.set_cons_zero, List.set_cons_succ, ok1_some, at0, at1, at2, at3, w_ixT, List.length_cons, List.length_nil, Nat.reduceAdd, Nat.reduceSub, Nat.zero_add, List.replicate_succ, List.replicate_zero]
        exact hN _ s5.app But.app
      | cons a ts =>
        refine ⟨.join [103] ((a :: ts) ++ [t]), ⟨by decide +kernel, (goods_app _ _).mpr ⟨g4, gt, trivial⟩⟩, ?_, ?_, fun N hN => ?_⟩
        · simp only [siz, sizs_app]
          simp only [sizs] at sz4 ⊢
          omega
        · simp only [bnd, bnds_app]
          simp only [bnds] at bz4 ⊢
          omega
        simp only [w_ifS, w_bin, w_app, w_call, w_cons, w_nil, w_tup, w_lst, w_if, w_tb, w_not, w_and, w_or, w_c, w_v, w_un, w_int, w_intB, w_addI, w_subI, w_lt, w_le, w_gt, w_ge, w_eqI, w_methL, startE, List.map_cons, List.map_nil, List.cons_append, List.nil_append, List.getElem?_cons_zero, List.getElem?_cons_succ, List.set_cons_zero, List.set_cons_succ, ok1_some, at0, at1, at2, at3, w_ixT, List.length_cons, List.length_nil, Nat.reduceAdd, Nat.reduceSub, Nat.zero_add, List.replicate_succ, List.replicate_zero]
        refine ⟨by simp [big], ?_⟩
        rw [w_eq o1 o2]
        refine ⟨false, by rw [show deep = 109 + 1 from rfl, ev]; rfl, ?_⟩
        simp only [Bool.false_eq_true, if_false, w_ifS, w_bin, w_app, w_call, w_cons, w_nil, w_tup, w_lst, w_if, w_tb, w_not, w_and, w_or, w_c, w_v, w_un, w_int, w_intB, w_addI, w_subI, w_lt, w_le, w_gt, w_ge, w_eqI, w_methL, startE, List.map_cons, List.map_nil, List.cons_append, List.nil_append, List.getElem?_cons_zero, List.getElem?_cons_succ, List.set_cons_zero, List.set_cons_succ, ok1_some, at0, at1, at2, at3, w_ixT, List.length_cons, List.length_nil, Nat.reduceAdd, Nat.reduceSub, Nat.zero_add, List.replicate_succ, List.replicate_zero]
        refine ⟨by simp [big], ?_⟩
        have q7 : (h4 ++ [Ob.lst []] ++ [Ob.lst [toD t]])[h3.length]? = some (.lst (toDs (a :: ts))) := app_old q5
        rw [w_addL q7 app_at (by rw [toDs_map, List.length_map]; simp only [List.length_cons, List.length_nil] at tl4 ⊢; unfold big; omega)]
        rw [w_tupleL (items_l app_at) (by rw [toDs_map, List.length_append, List.length_map]; simp only [List.length_cons, List.length_nil] at tl4 ⊢; unfold big; omega)]
        refine ⟨by simp [big], ?_⟩
        have ee : toDs (a :: ts) ++ [toD t] = toDs ((a :: ts) ++ [t]) := by
          rw [toDs_map, toDs_map, List.map_append]
          rfl
        rw [ee]
        exact hN _ s5.app.app.app ((But.app.trans But.app).trans But.app)
    obtain ⟨c, gc, sc, bc, kc⟩ := core
    rw [w_seq, w_set]
    refine kc _ fun h5 s6 b6 => ?_
    rw [w_seq, w_set]
    have b36 := b35.trans b6
    simp only [w_ifS, w_bin, w_app, w_call, w_cons, w_nil, w_tup, w_lst, w_if, w_tb, w_not, w_and, w_or, w_c, w_v, w_un, w_int, w_intB, w_addI, w_subI, w_lt, w_le, w_gt, w_ge, w_eqI, w_methL, startE, List.map_cons, List.map_nil, List.cons_append, List.nil_append, List.getElem?_cons_zero, List.getElem?_cons_succ, List.set_cons_zero, List.set_cons_succ, ok1_some, at0, at1, at2, at3, w_ixT, List.length_cons, List.length_nil, Nat.reduceAdd, Nat.reduceSub, Nat.zero_add, List.replicate_succ, List.replicate_zero]
    refine take_ok s6 (by omega) (by omega) fun t3 h6 t30 t31 s7 b7 _ => ?_
    simp only [w_ifS, w_bin, w_app, w_call, w_cons, w_nil, w_tup, w_lst, w_if, w_tb, w_not, w_and, w_or, w_c, w_v, w_un, w_int, w_intB, w_addI, w_subI, w_lt, w_le, w_gt, w_ge, w_eqI, w_methL, startE, List.map_cons, List.map_nil, List.cons_append, List.nil_append, List.getElem?_cons_zero, List.getElem?_cons_succ, List.set_cons_zero, List.set_cons_succ, ok1_some, at0, at1, at2, at3, w_ixT, List.length_cons, List.length_nil, Nat.reduceAdd, Nat.reduceSub, Nat.zero_add, List.replicate_succ, List.replicate_zero]
    refine ⟨_, rfl, ?_⟩
    have b37 := b36.trans b7
    have fin : ∀ (ah : List Tr) (h7 : Hm), goods ah → ah.length ≤ 1 → sizs ah ≤ 1 → bnds ah = 0 → Src0 h7 s → But s h h7 → ∀ p : Nat, h7[p]? = some (.lst (toDs ah)) → p ≠ s →
        OkS (mSet 3 (mTup (mCons (mC (.str [98, 105, 110, 100])) (mCons (mCall (cf (m + 3) 57) (mCons (mVar 0) (mCons (mVar 1) mNil))) (mCons (mApp pTuple (mCons (mVar 8) mNil)) (mCons (mVar 7) mNil))))) [some (.ref s), some (.ref w), some (.int dp), some (toD t), some x, some (.ref h3.length), x6, some (toD c), some (.ref p)] h7)
          (fun e hx => ∃ (t : Tr) (x4 x5 x6 x7 x8 : Option D), e = [some (.ref s), some (.ref w), some (.int dp), some (toD t), x4, x5, x6, x7, x8] ∧ good t ∧ siz t ≤ 5 + 4 * (i + 1) ∧ bnd t = i + 1 ∧ Src0 hx s ∧ But s h hx) P := by
      intro ah h7 ga la sa ba s8 b8 p qp nps
      rw [w_set]
      simp only [w_ifS, w_bin, w_app, w_call, w_cons, w_nil, w_tup, w_lst, w_if, w_tb, w_not, w_and, w_or, w_c, w_v, w_un, w_int, w_intB, w_addI, w_subI, w_lt, w_le, w_gt, w_ge, w_eqI, w_methL, startE, List.map_cons, List.map_nil, List.cons_append, List.nil_append, List.getElem?_cons_zero, List.getElem?_cons_succ, List.set_cons_zero, List.set_cons_succ, ok1_some, at0, at1, at2, at3, w_ixT, List.length_cons, List.length_nil, Nat.reduceAdd, Nat.reduceSub, Nat.zero_add, List.replicate_succ, List.replicate_zero]
      rw [lv2]
      refine name_ok s8 (hw.but b8 nw) nw fun nm h8 gn s9 b9 _ => ?_
      rw [w_tupleL (items_l (b9.2 _ _ nps qp)) (by rw [toDs_map, List.length_map]; unfold big; omega)]
      refine ⟨by simp [big], .bind nm ah c, _, _, _, _, _, rfl, ⟨gn, ga, gc⟩, ?_, ?_, s9, b8.trans b9⟩
      · simp only [siz]
        omega
      · simp only [bnd]
        omega
    cases q9 : (t3 == 0) with
    | true =>
      simp only [if_true, w_ifS, w_bin, w_app, w_call, w_cons, w_nil, w_tup, w_lst, w_if, w_tb, w_not, w_and, w_or, w_c, w_v, w_un, w_int, w_intB, w_addI, w_subI, w_lt, w_le, w_gt, w_ge, w_eqI, w_methL, startE, List.map_cons, List.map_nil, List.cons_append, List.nil_append, List.getElem?_cons_zero, List.getElem?_cons_succ, List.set_cons_zero, List.set_cons_succ, ok1_some, at0, at1, at2, at3, w_ixT, List.length_cons, List.length_nil, Nat.reduceAdd, Nat.reduceSub, Nat.zero_add, List.replicate_succ, List.replicate_zero]
      refine leaf_ok s7 (hw.but b37 nw) nw fun lf h7 gl sl bl s8 b8 _ => ?_
      have l7 := s8.lt
      refine ⟨by simp [big], ?_⟩
      exact fin [lf] _ ⟨gl, trivial⟩ (by simp) (by simp [sizs, sl]) (by simp [bnds, bl]) s8.app ((b37.trans b8).trans But.app) _ app_at (by omega)
    | false =>
      simp only [Bool.false_eq_true, if_false, w_ifS, w_bin, w_app, w_call, w_cons, w_nil, w_tup, w_lst, w_if, w_tb, w_not, w_and, w_or, w_c, w_v, w_un, w_int, w_intB, w_addI, w_subI, w_lt, w_le, w_gt, w_ge, w_eqI, w_methL, startE, List.map_cons, List.map_nil, List.cons_append, List.nil_append, List.getElem?_cons_zero, List.getElem?_cons_succ, List.set_cons_zero, List.set_cons_succ, ok1_some, at0, at1, at2, at3, w_ixT, List.length_cons, List.length_nil, Nat.reduceAdd, Nat.reduceSub, Nat.zero_add, List.replicate_succ, List.replicate_zero]
      have l6 := s7.lt
      refine ⟨by simp [big], ?_⟩
      exact fin [] _ trivial (by simp) (by simp [sizs]) (by simp [bnds]) s7.app (b37.trans But.app) _ app_at (by omega)
  · rintro e hx ⟨t, x4, x5, x6, x7, x8, rfl, gt, st, bt, s3, b3⟩
    rw [lj] at st bt
    simp only [w_seq, w_ifS, w_set, w_ret, w_par, w_asg, w_sub, w_drop, w_pass, w_bin, w_app, w_call, w_cons, w_nil, w_tup, w_lst, w_if, w_tb, w_not, w_and, w_or, w_c, w_v, w_un, w_int, w_intB, w_addI, w_subI, w_lt, w_le, w_gt, w_ge, w_eqI, w_methL, startE, List.map_cons, List.map_nil, List.cons_append, List.nil_append, List.getElem?_cons_zero, List.getElem?_cons_succ, List.set_cons_zero, List.set_cons_succ, ok1_some, at0, at1, at2, at3, w_ixT, List.length_cons, List.length_nil, Nat.reduceAdd, Nat.reduceSub, Nat.zero_add, List.replicate_succ, List.replicate_zero]
    exact k t hx gt (by omega) (by omega) s3 b3

theorem words_ok {m s : Nat} {h : Hm} {P : D → Hm → Prop} (hs : Src0 h s) (k : ∀ (w : Nat) (h' : Hm), Names h' w → w ≠ s → Src0 h' s → But s h h' → P (.ref w) h') : Ok (cf (m + 3) 59 [.ref s] h) P := by
  rw [c_59 (cf := cf)]
  refine ok_body rfl ?_
  unfold b_59
  simp only [w_seq, w_ifS, w_set, w_ret, w_par, w_asg, w_sub, w_drop, w_pass, w_bin, w_app, w_call, w_cons, w_nil, w_tup, w_lst, w_if, w_tb, w_not, w_and, w_or, w_c, w_v, w_un, w_int, w_intB, w_addI, w_subI, w_lt, w_le, w_gt, w_ge, w_eqI, w_methL, startE, List.map_cons, List.map_nil, List.cons_append, List.nil_append, List.getElem?_cons_zero, List.getElem?_cons_succ, List.set_cons_zero, List.set_cons_succ, ok1_some, at0, at1, at2, at3, w_ixT, List.length_cons, List.length_nil, Nat.reduceAdd, Nat.reduceSub, Nat.zero_add, List.replicate_succ, List.replicate_zero]
  have ls := hs.lt
  refine ⟨by simp [big], by simp [big], by simp [big], by simp [big], by simp [big], ?_⟩
  have s5 := (((((hs.app (l := [Ob.lst [D.str [120], D.str [121]]])).app (l := [Ob.lst [D.str [120], D.str [121], D.str [122], D.str [97]]])).app (l := [Ob.lst [D.str [97], D.str [98], D.str [99], D.str [100], D.str [101], D.str [102]]])).app (l := [Ob.lst [D.str [120], D.str [97, 98, 99, 100, 101, 102, 103, 104], D.str [97, 97], D.str [98], D.str [122, 122]]])))
  refine one_ok (xs := [.ref h.length, .ref (h ++ [Ob.lst [D.str [120], D.str [121]]]).length, .ref (h ++ [Ob.lst [D.str [120], D.str [121]]] ++ [Ob.lst [D.str [120], D.str [121], D.str [122], D.str [97]]]).length, .ref (h ++ [Ob.lst [D.str [120], D.str [121]]] ++ [Ob.lst [D.str [120], D.str [121], D.str [122], D.str [97]]] ++ [Ob.lst [D.str [97], D.str [98], D.str [99], D.str [100], D.str [101], D.str [102]]]).length]) s5.app app_at (by simp; omega) (by simp) (by simp) fun d h6 hd s6 b6 _ => ?_
  have nm : ∀ (w : Nat) (ws : List (List Nat)), w ≠ s → (h ++ [Ob.lst [D.str [120], D.str [121]]] ++ [Ob.lst [D.str [120], D.str [121], D.str [122], D.str [97]]] ++ [Ob.lst [D.str [97], D.str [98], D.str [99], D.str [100], D.str [101], D.str [102]]] ++ [Ob.lst [D.str [120], D.str [97, 98, 99, 100, 101, 102, 103, 104], D.str [97, 97], D.str [98], D.str [122, 122]]])[w]? = some (.lst (ws.map D.str)) →
      0 < ws.length → ws.length < 100 → (∀ n ∈ ws, goodN n = true) → P (.ref w) h6 := fun w ws nw e l0 l1 g =>
    k w h6 ⟨ws, b6.2 _ _ nw (app_old e), l0, l1, g⟩ nw s6 (((((But.app.trans But.app).trans But.app).trans But.app).trans But.app).trans b6)
  simp only [List.mem_cons, List.not_mem_nil, or_false] at hd
  rcases hd with rfl | rfl | rfl | rfl
  · exact nm _ [[120], [121]] (by omega) (app_old (app_old (app_old app_at))) (by simp) (by simp) (by decide +kernel)
  · exact nm _ [[120], [121], [122], [97]] (by simp; omega) (app_old (app_old app_at)) (by simp) (by simp) (by decide +kernel)
  · exact nm _ [[97], [98], [99], [100], [101], [102]] (by simp; omega) (app_old app_at) (by simp) (by simp) (by decide +kernel)
  · exact nm _ [[120], [97, 98, 99, 100, 101, 102, 103, 104], [97, 97], [98], [122, 122]] (by simp; omega) app_at (by simp) (by simp) (by decide +kernel)
theorem w_min2 {i j : Int} {h : Hm} {P : D → Hm → Prop} : Ok (pMM minI [.int i, .int j] h) P ↔ P (.int (minI i j)) h := Iff.rfl
theorem w_max2 {i j : Int} {h : Hm} {P : D → Hm → Prop} : Ok (pMM maxI [.int i, .int j] h) P ↔ P (.int (maxI i j)) h := Iff.rfl
/-- grow from a room that is written here: the tree alone -/
theorem grow_ok {m s w q n : Nat} {h : Hm} {r b : Int} {P : D → Hm → Prop} (hn : n ≤ 80) (hr : r ≤ n) (r1 : 1 ≤ r) (b0 : 0 ≤ b) (hs : Src0 h s) (hw : Names h w) (nw : w ≠ s) (ro : Room0 h q r b) (nq : q ≠ s)
    (k : ∀ (t : Tr) (h' : Hm), good t → (siz t : Int) ≤ r → (bnd t : Int) ≤ b → Src0 h' s → But s h h' → P (toD t) h') : Ok (cf (2 * n + 3 + m) 61 [.ref s, .ref w, .ref q] h) fun x h1 => Ok (pIdx x (.int 0) h1) P := by
  refine grow_all n hn m s w q h r b _ hr r1 b0 hs hw nw ro nq ?_
  intro t p q' h' r' b' gt ps qs e1 ro' r0 rs b0' bs s' bt
  rw [w_ixL (items_l e1)]
  exact ⟨_, at0, k t h' gt (by omega) (by omega) s' bt⟩
/-- a drawn tree of at most n nodes and b binders (as the laws say it) -/
theorem tree_ok {m s n : Nat} {b : Int} {h : Hm} {P : D → Hm → Prop} (n2 : 2 ≤ n) (n9 : n ≤ 30) (b0 : 0 ≤ b) (b9 : b < 1000) (hs : Src0 h s)
    (k : ∀ (t : Tr) (h' : Hm), good t → (siz t : Int) ≤ n + 17 → (bnd t : Int) ≤ b → Src0 h' s → But s h h' → P (toD t) h') : Ok (cf (2 * n + 4 + m) 64 [.ref s, .int n, .int b] h) P := by
  rw [show 2 * n + 4 + m = (2 * n + 3 + m) + 1 by omega, c_64 (cf := cf)]
  refine ok_body rfl ?_
  unfold b_64
  have lv3 : 2 * n + 3 + m = (2 * n + m) + 3 := by omega
  have lv1 : 2 * n + 3 + m = (2 * n + 2 + m) + 1 := by omega
  have lv4 : 2 * n + 3 + m = (2 * n - 1 + m) + 4 := by omega
  have f2n : cFd (n : Int) 2 = true := fd_ok (by decide) (by decide)
  have f6n : cFd (n : Int) 6 = true := fd_ok (by decide) (by decide)
  have f2b : cFd b 2 = true := fd_ok (by decide) (by decide)
  rw [w_seq, w_par]
  simp only [w_ifS, w_bin, w_app, w_call, w_cons, w_nil, w_tup, w_lst, w_if, w_tb, w_not, w_and, w_or, w_c, w_v, w_un, w_int, w_intB, w_addI, w_subI, w_lt, w_le, w_gt, w_ge, w_eqI, w_methL, startE, List.map_cons, List.map_nil, List.cons_append, List.nil_append, List.getElem?_cons_zero, List.getElem?_cons_succ, List.set_cons_zero, List.set_cons_succ, ok1_some, at0, at1, at2, at3, w_ixT, List.length_cons, List.length_nil, Nat.reduceAdd, Nat.reduceSub, Nat.zero_add, List.replicate_succ, List.replicate_zero]
  rw [lv3]
  refine words_ok hs fun w h1 hw nw s1 b1 => ?_
  rw [← lv3, lv1]
  refine take_ok s1 (by omega) (by omega) fun t1 h2 t10 t11 s2 b2 _ => ?_
  have hw2 := hw.but b2 nw
  have b02 := b1.trans b2
  refine ⟨_, _, rfl, ?_⟩
  rw [w_seq]
  simp only [w_ifS, w_bin, w_app, w_call, w_cons, w_nil, w_tup, w_lst, w_if, w_tb, w_not, w_and, w_or, w_c, w_v, w_un, w_int, w_intB, w_addI, w_subI, w_lt, w_le, w_gt, w_ge, w_eqI, w_methL, startE, List.map_cons, List.map_nil, List.cons_append, List.nil_append, List.getElem?_cons_zero, List.getElem?_cons_succ, List.set_cons_zero, List.set_cons_succ, ok1_some, at0, at1, at2, at3, w_ixT, List.length_cons, List.length_nil, Nat.reduceAdd, Nat.reduceSub, Nat.zero_add, List.replicate_succ, List.replicate_zero]
  refine ⟨_, rfl, ?_⟩
  cases q1 : (t1 == 0) with
  | true =>
    simp only [if_true, w_seq, w_ifS, w_set, w_ret, w_par, w_asg, w_sub, w_drop, w_pass, w_bin, w_app, w_call, w_cons, w_nil, w_tup, w_lst, w_if, w_tb, w_not, w_and, w_or, w_c, w_v, w_un, w_int, w_intB, w_addI, w_subI, w_lt, w_le, w_gt, w_ge, w_eqI, w_methL, startE, List.map_cons, List.map_nil, List.cons_append, List.nil_append, List.getElem?_cons_zero, List.getElem?_cons_succ, List.set_cons_zero, List.set_cons_succ, ok1_some, at0, at1, at2, at3, w_ixT, List.length_cons, List.length_nil, Nat.reduceAdd, Nat.reduceSub, Nat.zero_add, List.replicate_succ, List.replicate_zero]
    rw [w_fd f6n, w_min2]
    try simp only [w_ifS, w_bin, w_app, w_call, w_cons, w_nil, w_tup, w_lst, w_if, w_tb, w_not, w_and, w_or, w_c, w_v, w_un, w_int, w_intB, w_addI, w_subI, w_lt, w_le, w_gt, w_ge, w_eqI, w_methL, startE, List.map_cons, List.map_nil, List.cons_append, List.nil_append, List.getElem?_cons_zero, List.getElem?_cons_succ, List.set_cons_zero, List.set_cons_succ, ok1_some, at0, at1, at2, at3, w_ixT, List.length_cons, List.length_nil, Nat.reduceAdd, Nat.reduceSub, Nat.zero_add, List.replicate_succ, List.replicate_zero]
    have mb : 0 ≤ minI b (n / 6) ∧ minI b (n / 6) ≤ b ∧ minI b (n / 6) ≤ 5 := by
      unfold minI
      split <;> omega
    refine take_ok s2 (by omega) (by omega) fun t2 h3 t20 t21 s3 b3 _ => ?_
    rw [← lv1, lv4]
    refine nested_ok s3 (hw2.but b3 nw) nw t20 (by omega) fun t h4 gt st bt s4 b4 => ?_
    exact k t h4 gt (by have z : minI b (n / 6) ≤ n / 6 := (by unfold minI; split <;> omega); omega) (by omega) s4 ((b02.trans b3).trans b4)
  | false =>
    simp only [Bool.false_eq_true, if_false, w_pass]
    rw [w_seq]
    simp only [w_ifS, w_bin, w_app, w_call, w_cons, w_nil, w_tup, w_lst, w_if, w_tb, w_not, w_and, w_or, w_c, w_v, w_un, w_int, w_intB, w_addI, w_subI, w_lt, w_le, w_gt, w_ge, w_eqI, w_methL, startE, List.map_cons, List.map_nil, List.cons_append, List.nil_append, List.getElem?_cons_zero, List.getElem?_cons_succ, List.set_cons_zero, List.set_cons_succ, ok1_some, at0, at1, at2, at3, w_ixT, List.length_cons, List.length_nil, Nat.reduceAdd, Nat.reduceSub, Nat.zero_add, List.replicate_succ, List.replicate_zero]
    refine ⟨_, rfl, ?_⟩
    rw [← lv1]
    have l2 := s2.lt
    cases q2 : (t1 == 1) with
    | true =>
      simp only [if_true, w_seq, w_ifS, w_set, w_ret, w_par, w_asg, w_sub, w_drop, w_pass, w_bin, w_app, w_call, w_cons, w_nil, w_tup, w_lst, w_if, w_tb, w_not, w_and, w_or, w_c, w_v, w_un, w_int, w_intB, w_addI, w_subI, w_lt, w_le, w_gt, w_ge, w_eqI, w_methL, startE, List.map_cons, List.map_nil, List.cons_append, List.nil_append, List.getElem?_cons_zero, List.getElem?_cons_succ, List.set_cons_zero, List.set_cons_succ, ok1_some, at0, at1, at2, at3, w_ixT, List.length_cons, List.length_nil, Nat.reduceAdd, Nat.reduceSub, Nat.zero_add, List.replicate_succ, List.replicate_zero]
      rw [w_fd f2n, w_fd f2b]
      refine ⟨by simp [big], ?_⟩
      have nq : h2.length ≠ s := by omega
      refine grow_ok (n := n) (r := n / 2) (b := b / 2) (by omega) (by omega) (by omega) (by omega) s2.app (hw2.but But.app nw) nw app_at nq fun ta h3 ga sa ba s3 b3 => ?_
      have e3 : Room0 h3 h2.length (n / 2) (b / 2) := b3.2 _ _ nq app_at
      refine grow_ok (n := n) (r := n / 2) (b := b / 2) (by omega) (by omega) (by omega) (by omega) s3 ((hw2.but But.app nw).but b3 nw) nw e3 nq fun tb h4 gb sb bb s4 b4 => ?_
      refine ⟨_, _, rfl, ?_⟩
      refine ⟨by simp [big], by simp [big], ?_⟩
      exact k (.join [102] [ta, tb]) h4 ⟨by decide +kernel, ga, gb, trivial⟩ (by simp only [siz, sizs]; omega) (by simp only [bnd, bnds]; omega) s4 (((b02.trans But.app).trans b3).trans b4)
    | false =>
      simp only [Bool.false_eq_true, if_false, w_seq, w_ifS, w_set, w_ret, w_par, w_asg, w_sub, w_drop, w_pass, w_bin, w_app, w_call, w_cons, w_nil, w_tup, w_lst, w_if, w_tb, w_not, w_and, w_or, w_c, w_v, w_un, w_int, w_intB, w_addI, w_subI, w_lt, w_le, w_gt, w_ge, w_eqI, w_methL, startE, List.map_cons, List.map_nil, List.cons_append, List.nil_append, List.getElem?_cons_zero, List.getElem?_cons_succ, List.set_cons_zero, List.set_cons_succ, ok1_some, at0, at1, at2, at3, w_ixT, List.length_cons, List.length_nil, Nat.reduceAdd, Nat.reduceSub, Nat.zero_add, List.replicate_succ, List.replicate_zero]
      refine ⟨by simp [big], ?_⟩
      have nq : h2.length ≠ s := by omega
      refine grow_ok (n := n) (r := n) (b := b) (by omega) (by omega) (by omega) (by omega) s2.app (hw2.but But.app nw) nw app_at nq fun ta h3 ga sa ba s3 b3 => ?_
      exact k ta h3 ga (by omega) (by omega) s3 ((b02.trans But.app).trans b3)
theorem w_pw {i j : Int} {h : Hm} {P : D → Hm → Prop} (q : cPw i j = true) : Ok (pPw (.int i) (.int j) h) P ↔ P (.int (i ^ j.toNat)) h := by
  unfold pPw pInt
  simp only [q, if_true]
  exact Iff.rfl
theorem w_negI {a : ME} {e : En} {h : Hm} {P : D → Hm → Prop} : Ok (mNeg a e h) P ↔ Ok (a e h) fun x h1 => ∃ i, x = .int i ∧ P (.int (-i)) h1 := w_neg
theorem items_f {h : Hm} {n : Nat} {xs : List D} (q : h[n]? = some (.frz xs)) : itemsOf h n = some xs := by unfold itemsOf; rw [q]
theorem pool_ok {m sc : Nat} {ns : List Int} {kk : Int} {h : Hm} {P : D → Hm → Prop} (hs : h[sc]? = some (.frz (ns.map D.int))) (k0 : 0 ≤ kk) (k1 : kk < 100)
    (k : ∀ (s : Nat) (h' : Hm), s = h.length → Src0 h' s → (∀ (n : Nat) (ob : Ob), h[n]? = some ob → h'[n]? = some ob) → P (.ref s) h') : Ok (cf (m + 1) 55 [.ref sc, .int kk] h) P := by
  rw [c_55 (cf := cf)]
  refine ok_body rfl ?_
  unfold b_55
  have it := items_f hs
  rw [w_seq, w_set]
  simp only [w_ifS, w_bin, w_app, w_call, w_cons, w_nil, w_tup, w_lst, w_if, w_tb, w_not, w_and, w_or, w_c, w_v, w_un, w_int, w_intB, w_addI, w_subI, w_lt, w_le, w_gt, w_ge, w_eqI, w_methL, startE, List.map_cons, List.map_nil, List.cons_append, List.nil_append, List.getElem?_cons_zero, List.getElem?_cons_succ, List.set_cons_zero, List.set_cons_succ, ok1_some, at0, at1, at2, at3, w_ixT, List.length_cons, List.length_nil, Nat.reduceAdd, Nat.reduceSub, Nat.zero_add, List.replicate_succ, List.replicate_zero]
  rw [w_seq]
  simp only [w_ifS, w_bin, w_app, w_call, w_cons, w_nil, w_tup, w_lst, w_if, w_tb, w_not, w_and, w_or, w_c, w_v, w_un, w_int, w_intB, w_addI, w_subI, w_lt, w_le, w_gt, w_ge, w_eqI, w_methL, startE, List.map_cons, List.map_nil, List.cons_append, List.nil_append, List.getElem?_cons_zero, List.getElem?_cons_succ, List.set_cons_zero, List.set_cons_succ, ok1_some, at0, at1, at2, at3, w_ixT, List.length_cons, List.length_nil, Nat.reduceAdd, Nat.reduceSub, Nat.zero_add, List.replicate_succ, List.replicate_zero]
  rw [w_lenL it]
  refine ⟨_, rfl, ?_⟩
  have rest : ∀ cell : Int, OkS (mSeq (mSet 3 (mApp (pMM maxI) (mCons (mApp pInt1 (mCons (mVar 2) mNil)) (mCons (mApp pInt1 (mCons (mBin pSub (mNeg (mC (.int 1))) (mVar 2)) mNil)) mNil))))
      (mSeq (mSet 4 (mBin pMd (mApp pInt1 (mCons (mBin pMulA (mBin pAdd (mBin pAdd (mBin pAdd (mBin pMd (mApp pInt1 (mCons (mVar 3) mNil)) (mC (.int 2147483629))) (mBin pMulA (mBin pMulA (mC (.int 7919)) (mVar 1)) (mVar 1))) (mBin pMulA (mC (.int 31)) (mVar 1))) (mC (.int 17))) (mC (.int 48271))) mNil)) (mC (.int 2147483647))))
      (mRet (mLst (mCons (mBin pMulA (mVar 3) (mApp pInt1 (mCons (mBin pGe (mVar 3) (mBin pPw (mC (.int 10)) (mC (.int 18)))) mNil))) (mCons (mVar 4) mNil))))) [some (.ref sc), some (.int kk), some (.int cell), none, none] h) (fun _ h' => P .non h') P := by
    intro cell
    simp only [w_seq, w_ifS, w_set, w_ret, w_par, w_asg, w_sub, w_drop, w_pass, w_bin, w_app, w_call, w_cons, w_nil, w_tup, w_lst, w_if, w_tb, w_not, w_and, w_or, w_c, w_v, w_un, w_int, w_intB, w_addI, w_subI, w_lt, w_le, w_gt, w_ge, w_eqI, w_methL, startE, List.map_cons, List.map_nil, List.cons_append, List.nil_append, List.getElem?_cons_zero, List.getElem?_cons_succ, List.set_cons_zero, List.set_cons_succ, ok1_some, at0, at1, at2, at3, w_ixT, List.length_cons, List.length_nil, Nat.reduceAdd, Nat.reduceSub, Nat.zero_add, List.replicate_succ, List.replicate_zero, w_negI]
    refine ⟨_, rfl, ?_⟩
    simp only [w_seq, w_ifS, w_set, w_ret, w_par, w_asg, w_sub, w_drop, w_pass, w_bin, w_app, w_call, w_cons, w_nil, w_tup, w_lst, w_if, w_tb, w_not, w_and, w_or, w_c, w_v, w_un, w_int, w_intB, w_addI, w_subI, w_lt, w_le, w_gt, w_ge, w_eqI, w_methL, startE, List.map_cons, List.map_nil, List.cons_append, List.nil_append, List.getElem?_cons_zero, List.getElem?_cons_succ, List.set_cons_zero, List.set_cons_succ, ok1_some, at0, at1, at2, at3, w_ixT, List.length_cons, List.length_nil, Nat.reduceAdd, Nat.reduceSub, Nat.zero_add, List.replicate_succ, List.replicate_zero, w_max2]
    have p1 : (0 : Int) < 2147483647 := by decide
    have p2 : (0 : Int) < 2147483629 := by decide
    generalize maxI cell (-1 - cell) = bg
    rw [w_md p2, w_mul (mul_l (by decide) (by decide)), w_mul (mul_r (by omega) (by omega))]
    simp only [w_seq, w_ifS, w_set, w_ret, w_par, w_asg, w_sub, w_drop, w_pass, w_bin, w_app, w_call, w_cons, w_nil, w_tup, w_lst, w_if, w_tb, w_not, w_and, w_or, w_c, w_v, w_un, w_int, w_intB, w_addI, w_subI, w_lt, w_le, w_gt, w_ge, w_eqI, w_methL, startE, List.map_cons, List.map_nil, List.cons_append, List.nil_append, List.getElem?_cons_zero, List.getElem?_cons_succ, List.set_cons_zero, List.set_cons_succ, ok1_some, at0, at1, at2, at3, w_ixT, List.length_cons, List.length_nil, Nat.reduceAdd, Nat.reduceSub, Nat.zero_add, List.replicate_succ, List.replicate_zero]
    rw [w_mul (mul_l (by decide) (by decide))]
    simp only [w_seq, w_ifS, w_set, w_ret, w_par, w_asg, w_sub, w_drop, w_pass, w_bin, w_app, w_call, w_cons, w_nil, w_tup, w_lst, w_if, w_tb, w_not, w_and, w_or, w_c, w_v, w_un, w_int, w_intB, w_addI, w_subI, w_lt, w_le, w_gt, w_ge, w_eqI, w_methL, startE, List.map_cons, List.map_nil, List.cons_append, List.nil_append, List.getElem?_cons_zero, List.getElem?_cons_succ, List.set_cons_zero, List.set_cons_succ, ok1_some, at0, at1, at2, at3, w_ixT, List.length_cons, List.length_nil, Nat.reduceAdd, Nat.reduceSub, Nat.zero_add, List.replicate_succ, List.replicate_zero]
    rw [w_mul (mul_r (by decide) (by decide))]
    simp only [w_seq, w_ifS, w_set, w_ret, w_par, w_asg, w_sub, w_drop, w_pass, w_bin, w_app, w_call, w_cons, w_nil, w_tup, w_lst, w_if, w_tb, w_not, w_and, w_or, w_c, w_v, w_un, w_int, w_intB, w_addI, w_subI, w_lt, w_le, w_gt, w_ge, w_eqI, w_methL, startE, List.map_cons, List.map_nil, List.cons_append, List.nil_append, List.getElem?_cons_zero, List.getElem?_cons_succ, List.set_cons_zero, List.set_cons_succ, ok1_some, at0, at1, at2, at3, w_ixT, List.length_cons, List.length_nil, Nat.reduceAdd, Nat.reduceSub, Nat.zero_add, List.replicate_succ, List.replicate_zero]
    rw [w_md p1, w_pw (by decide)]
    simp only [w_seq, w_ifS, w_set, w_ret, w_par, w_asg, w_sub, w_drop, w_pass, w_bin, w_app, w_call, w_cons, w_nil, w_tup, w_lst, w_if, w_tb, w_not, w_and, w_or, w_c, w_v, w_un, w_int, w_intB, w_addI, w_subI, w_lt, w_le, w_gt, w_ge, w_eqI, w_methL, startE, List.map_cons, List.map_nil, List.cons_append, List.nil_append, List.getElem?_cons_zero, List.getElem?_cons_succ, List.set_cons_zero, List.set_cons_succ, ok1_some, at0, at1, at2, at3, w_ixT, List.length_cons, List.length_nil, Nat.reduceAdd, Nat.reduceSub, Nat.zero_add, List.replicate_succ, List.replicate_zero]
    rw [w_mul (by split <;> exact mul_r (by decide) (by decide))]
    refine ⟨by simp [big], ?_⟩
    refine k _ _ rfl ⟨_, _, app_at, Int.emod_nonneg _ (by decide), Int.emod_lt_of_pos _ p1⟩ fun n ob q => app_old q
  by_cases c : kk < (ns.map D.int).length
  · simp only [decide_eq_true c, if_true, w_set, w_ifS, w_bin, w_app, w_call, w_cons, w_nil, w_tup, w_lst, w_if, w_tb, w_not, w_and, w_or, w_c, w_v, w_un, w_int, w_intB, w_addI, w_subI, w_lt, w_le, w_gt, w_ge, w_eqI, w_methL, startE, List.map_cons, List.map_nil, List.cons_append, List.nil_append, List.getElem?_cons_zero, List.getElem?_cons_succ, List.set_cons_zero, List.set_cons_succ, ok1_some, at0, at1, at2, at3, w_ixT, List.length_cons, List.length_nil, Nat.reduceAdd, Nat.reduceSub, Nat.zero_add, List.replicate_succ, List.replicate_zero]
    rw [w_ixL it]
    have c2 : kk.toNat < ns.length := by
      rw [List.length_map] at c
      omega
    refine ⟨.int ns[kk.toNat], ?_, rest _⟩
    unfold atD
    rw [if_pos k0, List.getElem?_map, List.getElem?_eq_getElem c2]
    rfl
  · simp only [decide_eq_false c, Bool.false_eq_true, if_false, w_pass]
    exact rest 0

end ND
end L2.Lv
end
section
set_option maxRecDepth 100000
set_option maxHeartbeats 1000000
set_option autoImplicit false
namespace L2.Lv
/-! ### walks in general -/
section
variable {P : D → Hm → Prop} {N : En → Hm → Prop} {R : D → Hm → Prop} {src src1 : Src} {g g1 : MG} {b : MS} {t t1 : MT} {el : ME} {e0 : En} {n : Nat} {xs : List D}
theorem loop_of (Inv : Nat → En → Hm → Prop) (hx : ∀ j e h, Inv j e h → nxt src j h = some xs[j]?) (step : ∀ (j : Nat) (x : D) (e : En) (h : Hm), xs[j]? = some x → Inv j e h → ∃ e1, g x e h = some e1 ∧ OkS (b e1 h) (Inv (j + 1)) R) (fin : ∀ e h, Inv xs.length e h → N e h) :
    ∀ (k f j : Nat) (e : En) (h : Hm), j + k = xs.length → k < f → Inv j e h → OkS (mLoop src g b f j e h) N R
  | 0, f + 1, j, e, h, hj, _, v => by
    have q : xs[j]? = none := List.getElem?_eq_none (by omega)
    unfold mLoop
    simp only [hx j e h v, q]
    have ej : j = xs.length := by omega
    subst ej
    exact fin e h v
  | k + 1, f + 1, j, e, h, hj, hf, v => by
    have hl : j < xs.length := by omega
    have q : xs[j]? = some xs[j] := List.getElem?_eq_getElem hl
    obtain ⟨e1, ge, o⟩ := step j _ e h q v
    unfold mLoop
    simp only [hx j e h v, q, ge]
    revert o
    cases b e1 h with
    | nx e2 h2 => exact fun o => loop_of Inv hx step fin k f (j + 1) e2 h2 (by omega) (by omega) o
    | rt d h2 => exact fun o => o
    | bk e2 h2 => exact fun o => o.elim
    | ct e2 h2 => exact fun o => o.elim
    | ex c d e2 h2 => exact fun o => o.elim
    | no => exact fun o => o.elim
theorem cloop_of (Inv : Nat → Hm → Prop) (hx : ∀ j h, Inv j h → nxt src j h = some xs[j]?)
    (step : ∀ (j : Nat) (x : D) (h : Hm), xs[j]? = some x → Inv j h → ∃ e1, g x e0 h = some e1 ∧ Ok (t e1 h) fun c h1 => if c = true then Ok (el e1 h1) fun y h2 => ∃ acc2, h2[n]? = some (.lst acc2) ∧ acc2.length < big ∧ Inv (j + 1) (h2.set n (.lst (acc2 ++ [y]))) else Inv (j + 1) h1) (fin : ∀ h, Inv xs.length h → P (.ref n) h) :
    ∀ (k f j : Nat) (h : Hm), j + k = xs.length → k < f → Inv j h → Ok (mCLoop src g t el e0 n f j h) P
  | 0, f + 1, j, h, hj, _, v => by
    have q : xs[j]? = none := List.getElem?_eq_none (by omega)
    unfold mCLoop
    simp only [hx j h v, q]
    have ej : j = xs.length := by omega
    subst ej
    exact fin h v
  | k + 1, f + 1, j, h, hj, hf, v => by
    have hl : j < xs.length := by omega
    have q : xs[j]? = some xs[j] := List.getElem?_eq_getElem hl
    obtain ⟨e1, ge, o⟩ := step j _ h q v
    unfold mCLoop
    simp only [hx j h v, q, ge]
    revert o
    cases t e1 h with
    | ok c h1 =>
      cases c with
      | false => exact fun o => cloop_of Inv hx step fin k f (j + 1) h1 (by omega) (by omega) o
      | true =>
        intro o
        have o : Ok (el e1 h1) _ := o
        simp only
        revert o
        cases el e1 h1 with
        | ok y h2 =>
          intro o
          obtain ⟨acc2, e2, c, v2⟩ := o
          simp only [e2]
          rw [if_pos c]
          exact cloop_of Inv hx step fin k f (j + 1) _ (by omega) (by omega) v2
        | ex c d h2 => exact fun o => o.elim
        | no => exact fun o => o.elim
    | ex c d h2 => exact fun o => o.elim
    | no => exact fun o => o.elim
/-- the inner walk of a comprehension of two clauses -/
theorem cin_of {P : Unit → Hm → Prop} (Inv : Nat → Hm → Prop) (hx : ∀ j h, Inv j h → nxt src j h = some xs[j]?)
    (step : ∀ (j : Nat) (x : D) (h : Hm), xs[j]? = some x → Inv j h → ∃ e1, g x e0 h = some e1 ∧ Ok (el e1 h) fun y h2 => ∃ acc2, h2[n]? = some (.lst acc2) ∧ acc2.length < big ∧ Inv (j + 1) (h2.set n (.lst (acc2 ++ [y])))) (fin : ∀ h, Inv xs.length h → P () h) :
    ∀ (k f j : Nat) (h : Hm), j + k = xs.length → k < f → Inv j h → Ok (mCIn src g mYes el e0 n f j h) P
  | 0, f + 1, j, h, hj, _, v => by
    have q : xs[j]? = none := List.getElem?_eq_none (by omega)
    unfold mCIn
    simp only [hx j h v, q]
    have ej : j = xs.length := by omega
    subst ej
    exact fin h v
  | k + 1, f + 1, j, h, hj, hf, v => by
    have hl : j < xs.length := by omega
    have q : xs[j]? = some xs[j] := List.getElem?_eq_getElem hl
    obtain ⟨e1, ge, o⟩ := step j _ h q v
    unfold mCIn
    simp only [hx j h v, q, ge, mYes]
    revert o
    cases el e1 h with
    | ok y h2 =>
      intro o
      obtain ⟨acc2, e2, c, v2⟩ := o
      simp only [e2]
      rw [if_pos c]
      exact cin_of Inv hx step fin k f (j + 1) _ (by omega) (by omega) v2
    | ex c d h2 => exact fun o => o.elim
    | no => exact fun o => o.elim
theorem cloop2_of {it1 : MI} {vs1 : List Nat} (Inv : Nat → Hm → Prop) (hx : ∀ j h, Inv j h → nxt src j h = some xs[j]?)
    (step : ∀ (j : Nat) (x : D) (h : Hm), xs[j]? = some x → Inv j h → ∃ e1, g x e0 h = some e1 ∧ Ok (it1 e1 h) fun s1 h1 => Ok (mCIn s1 g1 t1 el (wipeE e1 vs1) n lots 0 h1) fun _ h2 => Inv (j + 1) h2) (fin : ∀ h, Inv xs.length h → P (.ref n) h) :
    ∀ (k f j : Nat) (h : Hm), j + k = xs.length → k < f → Inv j h → Ok (mCLoop2 src g mYes it1 g1 t1 el e0 vs1 n f j h) P
  | 0, f + 1, j, h, hj, _, v => by
    have q : xs[j]? = none := List.getElem?_eq_none (by omega)
    unfold mCLoop2
    simp only [hx j h v, q]
    have ej : j = xs.length := by omega
    subst ej
    exact fin h v
  | k + 1, f + 1, j, h, hj, hf, v => by
    have hl : j < xs.length := by omega
    have q : xs[j]? = some xs[j] := List.getElem?_eq_getElem hl
    obtain ⟨e1, ge, o⟩ := step j _ h q v
    unfold mCLoop2
    simp only [hx j h v, q, ge, mYes]
    revert o
    cases it1 e1 h with
    | ok s1 h1 =>
      intro o
      have o : Ok (mCIn s1 g1 t1 el (wipeE e1 vs1) n lots 0 h1) _ := o
      simp only
      rw [ok_bind]
      exact o.mono fun _ h2 v2 => cloop2_of Inv hx step fin k f (j + 1) h2 (by omega) (by omega) v2
    | ex c d h2 => exact fun o => o.elim
    | no => exact fun o => o.elim
theorem w_comp2 {it it1 : MI} {vs vs1 : List Nat} {e : En} {h : Hm} : Ok (mComp2 it g t it1 g1 t1 el vs vs1 e h) P ↔ Ok (it e h) fun src h1 => Ok (mCLoop2 src g t it1 g1 t1 el (wipeE e vs) vs1 h1.length lots 0 (h1 ++ [.lst []])) P := by unfold mComp2; rw [ok_bind]
theorem while_of (Inv : Nat → En → Hm → Prop) (step : ∀ k e h, Inv k e h → Ok (t e h) fun c h1 => if c = true then OkS (b e h1) (fun e2 h2 => ∃ k', k' < k ∧ Inv k' e2 h2) R else N e h1) :
    ∀ (f k : Nat) (e : En) (h : Hm), k < f → Inv k e h → OkS (mWhileN t b f e h) N R
  | f + 1, k, e, h, hk, v => by
    unfold mWhileN
    rw [ok_bs]
    refine (step k e h v).mono fun c h1 o => ?_
    cases c with
    | false => exact o
    | true =>
      have o : OkS (b e h1) _ R := o
      simp only [if_true]
      revert o
      cases b e h1 with
      | nx e2 h2 =>
        intro o
        obtain ⟨k', lt, v2⟩ := o
        exact while_of Inv step f k' e2 h2 (by omega) v2
      | rt d h2 => exact fun o => o
      | bk e2 h2 => exact fun o => o.elim
      | ct e2 h2 => exact fun o => o.elim
      | ex c d e2 h2 => exact fun o => o.elim
      | no => exact fun o => o.elim
theorem w_src {a : ME} {e : En} {h : Hm} {P : Src → Hm → Prop} (o : Ok (a e h) fun d h1 => (∃ xs, d = .tup xs ∧ P (.fix xs) h1) ∨ ∃ n xs, d = .ref n ∧ itemsOf h1 n = some xs ∧ P (.live n) h1) : Ok (mSrc a e h) P := by
  unfold mSrc
  rw [ok_bind]
  refine o.mono fun d h1 q => ?_
  rcases q with ⟨xs, rfl, q⟩ | ⟨n, xs, rfl, it, q⟩
  · exact q
  · simp only [it]
    exact q
end
/-- what was at hand stays -/
def Ext (h h' : Hm) : Prop := ∀ (n : Nat) (ob : Ob), h[n]? = some ob → h'[n]? = some ob
theorem Ext.refl {h : Hm} : Ext h h := fun _ _ q => q
theorem Ext.trans {h h1 h2 : Hm} (a : Ext h h1) (b : Ext h1 h2) : Ext h h2 := fun n ob q => b n ob (a n ob q)
theorem Ext.app {h : Hm} {l : List Ob} : Ext h (h ++ l) := fun n ob q => ND.app_old q
theorem Ext.items {h h' : Hm} {n : Nat} {xs : List D} (x : Ext h h') (q : itemsOf h n = some xs) : itemsOf h' n = some xs := by
  unfold itemsOf at q ⊢
  cases e : h[n]? with
  | none => rw [e] at q; cases q
  | some ob => rw [x n ob e]; rw [e] at q; exact q
theorem Ext.le {h h' : Hm} (x : Ext h h') : h.length ≤ h'.length := by
  cases q : h.length with
  | zero => omega
  | succ k =>
    have e : h[k]? = some h[k] := List.getElem?_eq_getElem (by omega)
    have := ND.lt_of_at (x _ _ e)
    omega
theorem Ext.put {h h' : Hm} {p : Nat} {o : Ob} (x : Ext h h') (l : h.length ≤ p) : Ext h (h'.set p o) := fun n ob q => by
  have := ND.lt_of_at q
  rw [List.getElem?_set_ne (by omega)]
  exact x n ob q
theorem nxt_live {h : Hm} {p j : Nat} {xs : List D} (q : itemsOf h p = some xs) : nxt (.live p) j h = some xs[j]? := by
  simp only [nxt, q]
end L2.Lv
end
section
set_option maxRecDepth 100000
set_option maxHeartbeats 1000000
set_option autoImplicit false

namespace L2.Lv
section
variable {P : D → Hm → Prop} {N : En → Hm → Prop} {R : D → Hm → Prop} {e : En} {h : Hm}
theorem w_methL0 {p : D → List D → Hm → Re D} {o : ME} : Ok (mMethL0 p o e h) P ↔ Ok (o e h) fun x h1 => isLst h1 x = true ∧ Ok (p x [] h1) P := by
  unfold mMethL0
  rw [ok_bind]
  constructor <;> intro w <;> refine w.mono fun x h1 q => ?_
  · rw [ok_ite] at q
    split at q
    · rename_i c
      exact ⟨c, q⟩
    · exact q.elim
  · rw [if_pos q.1]; exact q.2
theorem w_pop {n : Nat} {xs : List D} {d : D} (q : h[n]? = some (.lst (xs ++ [d]))) : Ok (pPop (.ref n) [] h) P ↔ P d (h.set n (.lst xs)) := by
  unfold pPop
  simp only [q]
  have e1 : (xs ++ [d])[(xs ++ [d]).length - 1]? = some d := by simp
  rw [e1]
  simp only [List.dropLast_concat]
  exact Iff.rfl
theorem w_extT {n : Nat} {xs ys : List D} (q : h[n]? = some (.lst xs)) (c : xs.length + ys.length ≤ big) : Ok (pExtendA (.ref n) [.tup ys] h) P ↔ P .non (h.set n (.lst (xs ++ ys))) := by
  unfold pExtendA
  simp only [q]
  rw [if_pos c]
  exact Iff.rfl
theorem w_revT {xs : List D} : Ok (pRevT (.tup xs) h) P ↔ P (.tup xs.reverse) h := Iff.rfl
theorem w_aug {i : Nat} {p : D → D → Hm → Re D} {a : ME} : OkS (mAug i p a e h) N R ↔ ok1 e[i]? fun d => Ok (a e h) fun d' h1 => Ok (p d d' h1) fun d2 h2 => N (e.set i (some d2)) h2 := by
  unfold mAug ok1
  cases e[i]? with
  | none => exact Iff.rfl
  | some o =>
    cases o with
    | none => exact Iff.rfl
    | some d =>
      dsimp only
      rw [ok_bs]
      simp only [ok_bs]
      exact Iff.rfl
end

namespace ND
open PySem
def b_13 (c : CT) : MS :=
  (mSeq (mIfS (mTb (mBin pEq (mBin pIdx (mVar 0) (mC (.int 0))) (mC (.str [117, 115, 101])))) (mRet (mTup mNil)) mPass)
  (mSeq (mIfS (mTb (mBin pEq (mBin pIdx (mVar 0) (mC (.int 0))) (mC (.str [106, 111, 105, 110])))) (mRet (mBin pIdx (mVar 0) (mC (.int 2)))) mPass)
  (mRet (mTup (mStar (mBin pIdx (mVar 0) (mNeg (mC (.int 2)))) (mCons (mBin pIdx (mVar 0) (mNeg (mC (.int 1)))) mNil))))))
def b_14 (c : CT) : MS :=
  (mRet (mComp2 (mSrc (mVar 0)) (gSet 1) mYes (mSrc (mCall (c 13) (mCons (mVar 1) mNil))) (gSet 2) mYes (mVar 2) [1, 2] [2]))
def b_16 (c : CT) : MS :=
  (mRet (mComp (mEnum (mCons (mVar 1) mNil)) (gTupM [(gSet 2), (gSet 3)]) (mTb (mBin pEq (mBin pIdx (mVar 3) (mC (.int 0))) (mVar 0))) (mVar 2) [2, 3]))
def b_17 (c : CT) : MS :=
  (mSeq (mSet 1 (mC (.int 0)))
  (mSeq (mSet 2 (mLst (mCons (mVar 0) mNil)))
  (mSeq (mWhile (mTru (mVar 2)) (mSeq (mAug 1 (pInt (fun _ _ => true) fun i j => i + j) (mC (.int 1)))
  (mSet 2 (mCall (c 14) (mCons (mVar 2) mNil)))))
  (mRet (mVar 1)))))
class TermF (cf : Nat → CT) : Prop where
  h13 : ∀ m, cf (m + 1) 13 = mBody 1 1 (b_13 (cf m))
  h14 : ∀ m, cf (m + 1) 14 = mBody 1 3 (b_14 (cf m))
  h16 : ∀ m, cf (m + 1) 16 = mBody 2 4 (b_16 (cf m))
  h17 : ∀ m, cf (m + 1) 17 = mBody 1 3 (b_17 (cf m))
variable {cf : Nat → CT} [TermF cf]
theorem c_13 {m : Nat} : cf (m + 1) 13 = mBody 1 1 (b_13 (cf m)) := TermF.h13 m
theorem c_14 {m : Nat} : cf (m + 1) 14 = mBody 1 3 (b_14 (cf m)) := TermF.h14 m
theorem c_16 {m : Nat} : cf (m + 1) 16 = mBody 2 4 (b_16 (cf m)) := TermF.h16 m
theorem c_17 {m : Nat} : cf (m + 1) 17 = mBody 1 3 (b_17 (cf m)) := TermF.h17 m
def below : Tr → List Tr
  | .use _ => []
  | .join _ ts => ts
  | .bind _ ah b => ah ++ [b]
def tag : Tr → List Nat
  | .use _ => tUse
  | .join _ _ => tJoin
  | .bind _ _ _ => tBind
theorem toDs_app (a b : List Tr) : toDs (a ++ b) = toDs a ++ toDs b := by rw [toDs_map, toDs_map, toDs_map, List.map_append]
theorem toDs_len (a : List Tr) : (toDs a).length = a.length := by rw [toDs_map, List.length_map]
theorem toDs_at {ts : List Tr} {j : Nat} {x : D} (q : (toDs ts)[j]? = some x) : ∃ t, ts[j]? = some t ∧ x = toD t := by
  rw [toDs_map, List.getElem?_map] at q
  cases e : ts[j]? with
  | none => rw [e] at q; cases q
  | some t => rw [e] at q; exact ⟨t, rfl, (Option.some.inj q).symm⟩
theorem toDs_take {ts : List Tr} {j : Nat} {t : Tr} (q : ts[j]? = some t) : toDs (ts.take j) ++ [toD t] = toDs (ts.take (j + 1)) := by
  rw [List.take_succ, q, toDs_app]
  rfl
def goodW (n : List Nat) : Bool := Txt.isascii ⟨n.toArray⟩ && Txt.isalpha ⟨n.toArray⟩ && Txt.islower ⟨n.toArray⟩ && decide (n.length ≤ 8)
theorem w_of_good {n : List Nat} (g : goodN n = true) : goodW n = true := by
  unfold goodN at g
  unfold goodW
  simp only [Bool.and_eq_true] at g ⊢
  exact g.1.1
mutual
/-- a right tree, whatever its names -/
def okT : Tr → Prop
  | .use n => goodW n = true
  | .join l ts => goodW l = true ∧ okTs ts
  | .bind n ah b => goodW n = true ∧ okTs ah ∧ okT b
def okTs : List Tr → Prop
  | [] => True
  | t :: ts => okT t ∧ okTs ts
end
mutual
theorem ok_of_good : ∀ {t : Tr}, good t → okT t
  | .use _, g => w_of_good g
  | .join _ _, g => ⟨w_of_good g.1, oks_of_good g.2⟩
  | .bind _ _ _, g => ⟨w_of_good g.1, oks_of_good g.2.1, ok_of_good g.2.2⟩
theorem oks_of_good : ∀ {ts : List Tr}, goods ts → okTs ts
  | [], _ => trivial
  | _ :: _, g => ⟨ok_of_good g.1, oks_of_good g.2⟩
end
theorem oks_app : ∀ a b : List Tr, okTs (a ++ b) ↔ okTs a ∧ okTs b
  | [], b => by simp [okTs]
  | t :: a, b => by simp only [List.cons_append, okTs, oks_app a b, and_assoc]
theorem ok_mem : ∀ {ts : List Tr} {t : Tr}, okTs ts → t ∈ ts → okT t
  | t :: ts, _, g, .head _ => g.1
  | t :: ts, _, g, .tail _ m => ok_mem g.2 m
theorem ok_below {t : Tr} (g : okT t) : okTs (below t) := by
  cases t with
  | use n => trivial
  | join l ts => exact g.2
  | bind n ah b => exact (oks_app ah [b]).mpr ⟨g.2.1, g.2.2, trivial⟩
theorem good_mem : ∀ {ts : List Tr} {t : Tr}, goods ts → t ∈ ts → good t
  | t :: ts, _, g, .head _ => g.1
  | t :: ts, _, g, .tail _ m => good_mem g.2 m
theorem goods_of : ∀ {ts : List Tr}, (∀ t ∈ ts, good t) → goods ts
  | [], _ => trivial
  | t :: ts, h => ⟨h t List.mem_cons_self, goods_of fun x hx => h x (List.mem_cons_of_mem _ hx)⟩
theorem good_below {t : Tr} (g : good t) : goods (below t) := by
  cases t with
  | use n => trivial
  | join l ts => exact g.2
  | bind n ah b => exact (goods_app ah [b]).mpr ⟨g.2.1, g.2.2, trivial⟩
theorem siz_below (t : Tr) : siz t = 1 + sizs (below t) := by
  cases t with
  | use n => rfl
  | join l ts => rfl
  | bind n ah b =>
    simp only [siz, below, sizs_app, sizs]
    omega
theorem len_sizs : ∀ ts : List Tr, ts.length ≤ sizs ts
  | [] => Nat.le_refl _
  | t :: ts => by
    have := siz_pos t
    have := len_sizs ts
    simp only [List.length_cons, sizs]
    omega
theorem siz_mem : ∀ {ts : List Tr} {t : Tr}, t ∈ ts → siz t ≤ sizs ts
  | t :: ts, _, .head _ => by simp only [sizs]; omega
  | a :: ts, _, .tail _ m => by
    have := siz_mem m
    simp only [sizs]
    omega
/-! values of trees -/
theorem d0 (t : Tr) : ∃ xs, toD t = .tup (.str (tag t) :: xs) := by cases t <;> exact ⟨_, rfl⟩
theorem w_eqS {s t : List Nat} {h : Hm} {P : D → Hm → Prop} (a : (s.all fun c => decide (c < 1114112)) = true) (b : (t.all fun c => decide (c < 1114112)) = true) : Ok (pEq (.str s) (.str t) h) P ↔ P (.bl (decide (s = t))) h := by
  rw [w_eq (by simpa [okD, deep] using a) (by simpa [okD, deep] using b)]
  exact Iff.rfl
theorem w_isi {nc : Nat} {ks : List Nat} {d : D} {h : Hm} {P : D → Hm → Prop} (c : kd h d < 7 + nc) : Ok (pIsi nc ks d h) P ↔ P (.bl (ks.contains (kd h d))) h := by
  unfold pIsi
  rw [if_pos c]
  exact Iff.rfl
theorem w_strT {f : Str → Bool} {s : List Nat} {h : Hm} {P : D → Hm → Prop} : Ok (pStrT f (.str s) h) P ↔ P (.bl (f ⟨s.toArray⟩)) h := Iff.rfl
theorem w_lenS {s : List Nat} {h : Hm} {P : D → Hm → Prop} (c : s.length ≤ big) : Ok (pLen [.str s] h) P ↔ P (.int s.length) h := by
  unfold pLen
  simp only
  rw [if_pos c]
  exact Iff.rfl
theorem w_lenT {xs : List D} {h : Hm} {P : D → Hm → Prop} : Ok (pLen [.tup xs] h) P ↔ P (.int xs.length) h := Iff.rfl
theorem tru_bl {h : Hm} {b c : Bool} : (truD h (.bl b) = some c) ↔ b = c := by simp [truD]

theorem tag_ok (t : Tr) : ((tag t).all fun c => decide (c < 1114112)) = true := by cases t <;> rfl

theorem w_neI {i j : Int} {h : Hm} {P : D → Hm → Prop} : Ok (pNe (.int i) (.int j) h) P ↔ P (.bl (!(i == j))) h := by
  unfold pNe
  rw [if_pos (by rfl)]
  exact Iff.rfl

theorem w_star {a : ME} {r : MA} {e : En} {h : Hm} {P : List D → Hm → Prop} (o : Ok (a e h) fun x h1 => ∃ xs, seqOf h1 x = some xs ∧ Ok (r e h1) fun ys h2 => P (xs ++ ys) h2) : Ok (mStar a r e h) P := by
  unfold mStar
  rw [ok_bind]
  refine o.mono fun x h1 q => ?_
  obtain ⟨xs, sx, q⟩ := q
  simp only [sx]
  rw [ok_bind]
  exact q
/-- trees_below -/
theorem below_ok {m : Nat} {t : Tr} {h : Hm} {P : D → Hm → Prop} (hz : siz t ≤ 1000) (k : P (.tup (toDs (below t))) h) : Ok (cf (m + 1) 13 [toD t] h) P := by
  rw [c_13 (cf := cf)]
  refine ok_body rfl ?_
  unfold b_13
  cases t with
  | use n =>
    simp only [toD, w_seq, w_ifS, w_set, w_ret, w_par, w_asg, w_sub, w_drop, w_pass, w_bin, w_app, w_call, w_cons, w_nil, w_tup, w_lst, w_if, w_tb, w_not, w_and, w_or, w_c, w_v, w_un, w_int, w_intB, w_addI, w_subI, w_lt, w_le, w_gt, w_ge, w_eqI, w_methL, startE, List.map_cons, List.map_nil, List.cons_append, List.nil_append, List.getElem?_cons_zero, List.getElem?_cons_succ, List.set_cons_zero, List.set_cons_succ, ok1_some, at0, at1, at2, at3, w_ixT, List.length_cons, List.length_nil, Nat.reduceAdd, Nat.reduceSub, Nat.zero_add, List.replicate_succ, List.replicate_zero]
    refine ⟨_, rfl, ?_⟩
    rw [w_eqS (by rfl) (by rfl)]
    refine ⟨true, rfl, ?_⟩
    simp only [if_true, w_seq, w_ifS, w_set, w_ret, w_par, w_asg, w_sub, w_drop, w_pass, w_bin, w_app, w_call, w_cons, w_nil, w_tup, w_lst, w_if, w_tb, w_not, w_and, w_or, w_c, w_v, w_un, w_int, w_intB, w_addI, w_subI, w_lt, w_le, w_gt, w_ge, w_eqI, w_methL, startE, List.map_cons, List.map_nil, List.cons_append, List.nil_append, List.getElem?_cons_zero, List.getElem?_cons_succ, List.set_cons_zero, List.set_cons_succ, ok1_some, at0, at1, at2, at3, w_ixT, List.length_cons, List.length_nil, Nat.reduceAdd, Nat.reduceSub, Nat.zero_add, List.replicate_succ, List.replicate_zero]
    exact ⟨by simp [big], k⟩
  | join l ts =>
    simp only [toD, w_seq, w_ifS, w_set, w_ret, w_par, w_asg, w_sub, w_drop, w_pass, w_bin, w_app, w_call, w_cons, w_nil, w_tup, w_lst, w_if, w_tb, w_not, w_and, w_or, w_c, w_v, w_un, w_int, w_intB, w_addI, w_subI, w_lt, w_le, w_gt, w_ge, w_eqI, w_methL, startE, List.map_cons, List.map_nil, List.cons_append, List.nil_append, List.getElem?_cons_zero, List.getElem?_cons_succ, List.set_cons_zero, List.set_cons_succ, ok1_some, at0, at1, at2, at3, w_ixT, List.length_cons, List.length_nil, Nat.reduceAdd, Nat.reduceSub, Nat.zero_add, List.replicate_succ, List.replicate_zero]
    refine ⟨_, rfl, ?_⟩
    rw [w_eqS (by rfl) (by rfl)]
    refine ⟨false, rfl, ?_⟩
    simp only [Bool.false_eq_true, if_false, w_seq, w_ifS, w_set, w_ret, w_par, w_asg, w_sub, w_drop, w_pass, w_bin, w_app, w_call, w_cons, w_nil, w_tup, w_lst, w_if, w_tb, w_not, w_and, w_or, w_c, w_v, w_un, w_int, w_intB, w_addI, w_subI, w_lt, w_le, w_gt, w_ge, w_eqI, w_methL, startE, List.map_cons, List.map_nil, List.cons_append, List.nil_append, List.getElem?_cons_zero, List.getElem?_cons_succ, List.set_cons_zero, List.set_cons_succ, ok1_some, at0, at1, at2, at3, w_ixT, List.length_cons, List.length_nil, Nat.reduceAdd, Nat.reduceSub, Nat.zero_add, List.replicate_succ, List.replicate_zero]
    refine ⟨_, rfl, ?_⟩
    rw [w_eqS (by rfl) (by rfl)]
    refine ⟨true, rfl, ?_⟩
    simp only [if_true, w_seq, w_ifS, w_set, w_ret, w_par, w_asg, w_sub, w_drop, w_pass, w_bin, w_app, w_call, w_cons, w_nil, w_tup, w_lst, w_if, w_tb, w_not, w_and, w_or, w_c, w_v, w_un, w_int, w_intB, w_addI, w_subI, w_lt, w_le, w_gt, w_ge, w_eqI, w_methL, startE, List.map_cons, List.map_nil, List.cons_append, List.nil_append, List.getElem?_cons_zero, List.getElem?_cons_succ, List.set_cons_zero, List.set_cons_succ, ok1_some, at0, at1, at2, at3, w_ixT, List.length_cons, List.length_nil, Nat.reduceAdd, Nat.reduceSub, Nat.zero_add, List.replicate_succ, List.replicate_zero]
    exact ⟨_, rfl, k⟩
  | bind n ah b =>
    simp only [toD, w_seq, w_ifS, w_set, w_ret, w_par, w_asg, w_sub, w_drop, w_pass, w_bin, w_app, w_call, w_cons, w_nil, w_tup, w_lst, w_if, w_tb, w_not, w_and, w_or, w_c, w_v, w_un, w_int, w_intB, w_addI, w_subI, w_lt, w_le, w_gt, w_ge, w_eqI, w_methL, startE, List.map_cons, List.map_nil, List.cons_append, List.nil_append, List.getElem?_cons_zero, List.getElem?_cons_succ, List.set_cons_zero, List.set_cons_succ, ok1_some, at0, at1, at2, at3, w_ixT, List.length_cons, List.length_nil, Nat.reduceAdd, Nat.reduceSub, Nat.zero_add, List.replicate_succ, List.replicate_zero]
    refine ⟨_, rfl, ?_⟩
    rw [w_eqS (by rfl) (by rfl)]
    refine ⟨false, rfl, ?_⟩
    simp only [Bool.false_eq_true, if_false, w_seq, w_ifS, w_set, w_ret, w_par, w_asg, w_sub, w_drop, w_pass, w_bin, w_app, w_call, w_cons, w_nil, w_tup, w_lst, w_if, w_tb, w_not, w_and, w_or, w_c, w_v, w_un, w_int, w_intB, w_addI, w_subI, w_lt, w_le, w_gt, w_ge, w_eqI, w_methL, startE, List.map_cons, List.map_nil, List.cons_append, List.nil_append, List.getElem?_cons_zero, List.getElem?_cons_succ, List.set_cons_zero, List.set_cons_succ, ok1_some, at0, at1, at2, at3, w_ixT, List.length_cons, List.length_nil, Nat.reduceAdd, Nat.reduceSub, Nat.zero_add, List.replicate_succ, List.replicate_zero]
    refine ⟨_, rfl, ?_⟩
    rw [w_eqS (by rfl) (by rfl)]
    refine ⟨false, rfl, ?_⟩
    simp only [Bool.false_eq_true, if_false, w_seq, w_ifS, w_set, w_ret, w_par, w_asg, w_sub, w_drop, w_pass, w_bin, w_app, w_call, w_cons, w_nil, w_tup, w_lst, w_if, w_tb, w_not, w_and, w_or, w_c, w_v, w_un, w_int, w_intB, w_addI, w_subI, w_lt, w_le, w_gt, w_ge, w_eqI, w_methL, startE, List.map_cons, List.map_nil, List.cons_append, List.nil_append, List.getElem?_cons_zero, List.getElem?_cons_succ, List.set_cons_zero, List.set_cons_succ, ok1_some, at0, at1, at2, at3, w_ixT, List.length_cons, List.length_nil, Nat.reduceAdd, Nat.reduceSub, Nat.zero_add, List.replicate_succ, List.replicate_zero]
    refine w_star ?_
    simp only [w_seq, w_ifS, w_set, w_ret, w_par, w_asg, w_sub, w_drop, w_pass, w_bin, w_app, w_call, w_cons, w_nil, w_tup, w_lst, w_if, w_tb, w_not, w_and, w_or, w_c, w_v, w_un, w_int, w_intB, w_addI, w_subI, w_lt, w_le, w_gt, w_ge, w_eqI, w_methL, startE, List.map_cons, List.map_nil, List.cons_append, List.nil_append, List.getElem?_cons_zero, List.getElem?_cons_succ, List.set_cons_zero, List.set_cons_succ, ok1_some, at0, at1, at2, at3, w_ixT, List.length_cons, List.length_nil, Nat.reduceAdd, Nat.reduceSub, Nat.zero_add, List.replicate_succ, List.replicate_zero, w_neg]
    refine ⟨2, rfl, .tup (toDs ah), rfl, toDs ah, rfl, 1, rfl, toD b, rfl, ?_⟩
    have l1 := len_sizs ah
    simp only [siz] at hz
    rw [show toDs (below (.bind n ah b)) = toDs ah ++ [toD b] by rw [show below (.bind n ah b) = ah ++ [b] from rfl, toDs_app]; rfl] at k
    refine ⟨?_, k⟩
    rw [List.length_append, toDs_len]
    simp [big]
    omega

def rowB : List Tr → List Tr
  | [] => []
  | t :: ts => below t ++ rowB ts
theorem rowB_app : ∀ a b : List Tr, rowB (a ++ b) = rowB a ++ rowB b
  | [], _ => rfl
  | t :: a, b => by simp only [List.cons_append, rowB, rowB_app a b, List.append_assoc]
theorem rowB_take {ts : List Tr} {j : Nat} {t : Tr} (q : ts[j]? = some t) : rowB (ts.take (j + 1)) = rowB (ts.take j) ++ below t := by
  rw [List.take_succ, q, rowB_app]
  simp [rowB]
theorem sizs_row : ∀ ts : List Tr, sizs (rowB ts) + ts.length = sizs ts
  | [] => rfl
  | t :: ts => by
    have := sizs_row ts
    have := siz_below t
    simp only [rowB, sizs_app, sizs, List.length_cons]
    omega
theorem oks_row : ∀ {ts : List Tr}, okTs ts → okTs (rowB ts)
  | [], _ => trivial
  | t :: ts, g => (oks_app _ _).mpr ⟨ok_below g.1, oks_row g.2⟩
theorem sizs_take (ts : List Tr) (j : Nat) : sizs (ts.take j) ≤ sizs ts := by
  have e := sizs_app (ts.take j) (ts.drop j)
  rw [List.take_append_drop] at e
  omega
theorem row_ok {m p : Nat} {ts : List Tr} {h : Hm} {P : D → Hm → Prop} (it : itemsOf h p = some (toDs ts)) (hz : sizs ts ≤ 1000) (k : ∀ (q : Nat) (h' : Hm), h'[q]? = some (.lst (toDs (rowB ts))) → Ext h h' → h.length ≤ q → P (.ref q) h') : Ok (cf (m + 2) 14 [.ref p] h) P := by
  rw [c_14 (cf := cf)]
  refine ok_body rfl ?_
  unfold b_14
  rw [w_ret, w_comp2]
  refine w_src ?_
  simp only [w_seq, w_ifS, w_set, w_ret, w_par, w_asg, w_sub, w_drop, w_pass, w_bin, w_app, w_call, w_cons, w_nil, w_tup, w_lst, w_if, w_tb, w_not, w_and, w_or, w_c, w_v, w_un, w_int, w_intB, w_addI, w_subI, w_lt, w_le, w_gt, w_ge, w_eqI, w_methL, startE, List.map_cons, List.map_nil, List.cons_append, List.nil_append, List.getElem?_cons_zero, List.getElem?_cons_succ, List.set_cons_zero, List.set_cons_succ, ok1_some, at0, at1, at2, at3, w_ixT, List.length_cons, List.length_nil, Nat.reduceAdd, Nat.reduceSub, Nat.zero_add, List.replicate_succ, List.replicate_zero]
  refine .inr ⟨p, _, rfl, it, ?_⟩
  refine cloop2_of (xs := toDs ts) (fun j hx => Ext h hx ∧ hx[h.length]? = some (.lst (toDs (rowB (ts.take j))))) (fun j hx v => nxt_live (v.1.items it)) ?_ ?_ (toDs ts).length lots 0 _ (by omega) (by rw [toDs_len]; have := len_sizs ts; unfold lots; omega) ⟨Ext.app, app_at⟩
  · rintro j x hx hj ⟨v1, v2⟩
    obtain ⟨t, ht, rfl⟩ := toDs_at hj
    have mt : t ∈ ts := List.mem_of_getElem? ht
    have st := siz_mem mt
    refine ⟨[some (.ref p), some (toD t), none], rfl, ?_⟩
    refine w_src ?_
    simp only [w_seq, w_ifS, w_set, w_ret, w_par, w_asg, w_sub, w_drop, w_pass, w_bin, w_app, w_call, w_cons, w_nil, w_tup, w_lst, w_if, w_tb, w_not, w_and, w_or, w_c, w_v, w_un, w_int, w_intB, w_addI, w_subI, w_lt, w_le, w_gt, w_ge, w_eqI, w_methL, startE, List.map_cons, List.map_nil, List.cons_append, List.nil_append, List.getElem?_cons_zero, List.getElem?_cons_succ, List.set_cons_zero, List.set_cons_succ, ok1_some, at0, at1, at2, at3, w_ixT, List.length_cons, List.length_nil, Nat.reduceAdd, Nat.reduceSub, Nat.zero_add, List.replicate_succ, List.replicate_zero]
    refine below_ok (by omega) (.inl ⟨_, rfl, ?_⟩)
    have lb : (below t).length ≤ siz t := by
      have := siz_below t
      have := len_sizs (below t)
      omega
    refine cin_of (xs := toDs (below t)) (fun i hy => Ext h hy ∧ hy[h.length]? = some (.lst (toDs (rowB (ts.take j)) ++ (toDs (below t)).take i))) (fun _ _ _ => rfl) ?_ ?_ (toDs (below t)).length lots 0 hx (by omega) (by rw [toDs_len]; unfold lots; omega) ⟨v1, by simpa using v2⟩
    · rintro i y hy hi ⟨u1, u2⟩
      refine ⟨[some (.ref p), some (toD t), some y], rfl, ?_⟩
      simp only [w_seq, w_ifS, w_set, w_ret, w_par, w_asg, w_sub, w_drop, w_pass, w_bin, w_app, w_call, w_cons, w_nil, w_tup, w_lst, w_if, w_tb, w_not, w_and, w_or, w_c, w_v, w_un, w_int, w_intB, w_addI, w_subI, w_lt, w_le, w_gt, w_ge, w_eqI, w_methL, startE, List.map_cons, List.map_nil, List.cons_append, List.nil_append, List.getElem?_cons_zero, List.getElem?_cons_succ, List.set_cons_zero, List.set_cons_succ, ok1_some, at0, at1, at2, at3, w_ixT, List.length_cons, List.length_nil, Nat.reduceAdd, Nat.reduceSub, Nat.zero_add, List.replicate_succ, List.replicate_zero]
      refine ⟨_, u2, ?_, u1.put (Nat.le_refl _), ?_⟩
      · rw [List.length_append, toDs_len, List.length_take]
        have a1 := len_sizs (rowB (ts.take j))
        have a2 := sizs_row (ts.take j)
        have a3 := sizs_take ts j
        have a4 := toDs_len (below t)
        unfold big
        omega
      · rw [List.getElem?_set_self (lt_of_at u2), List.take_succ, hi]
        simp
    · rintro hy ⟨u1, u2⟩
      refine ⟨u1, ?_⟩
      rw [rowB_take ht, toDs_app]
      rw [List.take_of_length_le (Nat.le_refl _)] at u2
      exact u2
  · rintro hx ⟨v1, v2⟩
    rw [toDs_len, List.take_of_length_le (Nat.le_refl _)] at v2
    exact k _ hx v2 v1 (Nat.le_refl _)
theorem tru_ref {h : Hm} {p : Nat} {xs : List D} (q : itemsOf h p = some xs) : truD h (.ref p) = some (!xs.isEmpty) := by
  unfold itemsOf at q
  unfold truD
  cases e : h[p]? with
  | none => rw [e] at q; cases q
  | some ob =>
    rw [e] at q
    cases ob <;> cases q <;> simp only [e]

mutual
def nod : Tr → List Tr
  | .use n => [.use n]
  | .join l ts => .join l ts :: nods ts
  | .bind n ah b => .bind n ah b :: (nods ah ++ nod b)
def nods : List Tr → List Tr
  | [] => []
  | t :: ts => nod t ++ nods ts
end
theorem nods_app : ∀ a b : List Tr, nods (a ++ b) = nods a ++ nods b
  | [], _ => rfl
  | t :: a, b => by simp only [List.cons_append, nods, nods_app a b, List.append_assoc]
theorem nod_below (t : Tr) : nod t = t :: nods (below t) := by
  cases t with
  | use n => rfl
  | join l ts => rfl
  | bind n ah b => simp only [nod, below, nods_app, nods, List.append_nil]
mutual
theorem nod_len : ∀ t : Tr, (nod t).length = siz t
  | .use _ => rfl
  | .join _ ts => by simp only [nod, siz, List.length_cons, nods_len ts]; omega
  | .bind _ ah b => by simp only [nod, siz, List.length_cons, List.length_append, nods_len ah, nod_len b]; omega
theorem nods_len : ∀ ts : List Tr, (nods ts).length = sizs ts
  | [] => rfl
  | t :: ts => by simp only [nods, sizs, List.length_append, nod_len t, nods_len ts]
end
mutual
theorem nod_good : ∀ t : Tr, good t → ∀ u ∈ nod t, good u ∧ siz u ≤ siz t
  | .use n, g, u, m => by
    simp only [nod, List.mem_singleton] at m
    subst m
    exact ⟨g, Nat.le_refl _⟩
  | .join l ts, g, u, m => by
    simp only [nod, List.mem_cons] at m
    rcases m with rfl | m
    · exact ⟨g, Nat.le_refl _⟩
    · have z := nods_good ts g.2 u m
      exact ⟨z.1, by simp only [siz]; omega⟩
  | .bind n ah b, g, u, m => by
    simp only [nod, List.mem_cons, List.mem_append] at m
    rcases m with rfl | m | m
    · exact ⟨g, Nat.le_refl _⟩
    · have z := nods_good ah g.2.1 u m
      exact ⟨z.1, by simp only [siz]; omega⟩
    · have z := nod_good b g.2.2 u m
      exact ⟨z.1, by simp only [siz]; omega⟩
theorem nods_good : ∀ ts : List Tr, goods ts → ∀ u ∈ nods ts, good u ∧ siz u ≤ sizs ts
  | [], _, u, m => by simp [nods] at m
  | t :: ts, g, u, m => by
    simp only [nods, List.mem_append] at m
    rcases m with m | m
    · have z := nod_good t g.1 u m
      exact ⟨z.1, by simp only [sizs]; omega⟩
    · have z := nods_good ts g.2 u m
      exact ⟨z.1, by simp only [sizs]; omega⟩
end

theorem w_enum {a : MA} {e : En} {h : Hm} {P : Src → Hm → Prop} (o : Ok (a e h) fun ds h1 => ∃ n xs, ds = [.ref n] ∧ itemsOf h1 n = some xs ∧ P (.enm n) h1) : Ok (mEnum a e h) P := by
  unfold mEnum
  rw [ok_bind]
  refine o.mono fun ds h1 q => ?_
  obtain ⟨n, xs, rfl, it, q⟩ := q
  simp only [it]
  exact q
/-- the numbers of the nodes of a kind -/
def nums (kd : List Nat) : Nat → List Tr → List D
  | _, [] => []
  | i, t :: ts => if tag t = kd then .int (i : Nat) :: nums kd (i + 1) ts else nums kd (i + 1) ts
def prs : Nat → List Tr → List D
  | _, [] => []
  | i, t :: ts => .tup [.int (i : Nat), toD t] :: prs (i + 1) ts
theorem prs_at : ∀ (ts : List Tr) (i j : Nat), (prs i ts)[j]? = (ts[j]?).map fun t => .tup [.int ((i + j : Nat) : Int), toD t]
  | [], _, _ => by simp [prs]
  | t :: ts, i, 0 => by simp [prs]
  | t :: ts, i, j + 1 => by
    simp only [prs, List.getElem?_cons_succ]
    rw [prs_at ts (i + 1) j, show i + 1 + j = i + (j + 1) by omega]
theorem prs_len : ∀ (ts : List Tr) (i : Nat), (prs i ts).length = ts.length
  | [], _ => rfl
  | t :: ts, i => by simp only [prs, List.length_cons, prs_len ts]
theorem nums_app (kd : List Nat) : ∀ (i : Nat) (a b : List Tr), nums kd i (a ++ b) = nums kd i a ++ nums kd (i + a.length) b
  | _, [], _ => by simp [nums]
  | i, t :: a, b => by
    simp only [List.cons_append, nums, nums_app kd (i + 1) a b, List.length_cons]
    rw [show i + 1 + a.length = i + (a.length + 1) by omega]
    split <;> rfl
theorem nums_take {kd : List Nat} {ts : List Tr} {j : Nat} {t : Tr} (q : ts[j]? = some t) : nums kd 0 (ts.take (j + 1)) = nums kd 0 (ts.take j) ++ if tag t = kd then [.int (j : Nat)] else [] := by
  have l : j < ts.length := (List.getElem?_eq_some_iff.mp q).1
  rw [List.take_succ, q, nums_app, List.length_take, Nat.min_eq_left (by omega)]
  simp only [Option.toList_some, nums, Nat.zero_add]
theorem nums_len (kd : List Nat) : ∀ (i : Nat) (a : List Tr), (nums kd i a).length ≤ a.length
  | _, [] => Nat.le_refl _
  | i, t :: a => by
    have := nums_len kd (i + 1) a
    simp only [nums, List.length_cons]
    split <;> (try simp only [List.length_cons]) <;> omega
theorem nxt_enm {h : Hm} {p j : Nat} {ts : List Tr} (q : itemsOf h p = some (toDs ts)) : nxt (.enm p) j h = some (prs 0 ts)[j]? := by
  simp only [nxt, q]
  rw [prs_at, toDs_map, List.getElem?_map]
  cases ts[j]? with
  | none => rfl
  | some t => simp
/-- [number for number, node in enumerate(nodes) if node[0] == kind], in any two slots -/
theorem enumc_ok {p i j : Nat} {ts : List Tr} {kd : List Nat} {e0 : En} {h : Hm} {k0 : ME} {P : D → Hm → Prop} (it : itemsOf h p = some (toDs ts)) (hl : ts.length ≤ 1000) (ok : (kd.all fun c => decide (c < 1114112)) = true)
    (hk : ∀ (x y : D) (hx : Hm) (Q : D → Hm → Prop), Q (.str kd) hx → Ok (k0 ((e0.set i (some x)).set j (some y)) hx) Q) (ne : i ≠ j) (li : i < e0.length) (lj : j < e0.length)
    (k : ∀ (q : Nat) (h' : Hm), h'[q]? = some (.lst (nums kd 0 ts)) → Ext h h' → h.length ≤ q → P (.ref q) h') :
    Ok (mCLoop (.enm p) (gTupM [gSet i, gSet j]) (mTb (mBin pEq (mBin pIdx (mVar j) (mC (.int 0))) k0)) (mVar i) e0 h.length lots 0 (h ++ [.lst []])) P := by
  refine cloop_of (xs := prs 0 ts) (fun a hx => Ext h hx ∧ hx[h.length]? = some (.lst (nums kd 0 (ts.take a)))) (fun a hx v => nxt_enm (v.1.items it)) ?_ ?_ (prs 0 ts).length lots 0 _ (by omega) (by rw [prs_len]; unfold lots; omega) ⟨Ext.app, app_at⟩
  · rintro a x hx ha ⟨v1, v2⟩
    rw [prs_at, Nat.zero_add] at ha
    cases ht : ts[a]? with
    | none => rw [ht] at ha; cases ha
    | some t =>
      rw [ht] at ha
      cases ha
      have la : a < ts.length := (List.getElem?_eq_some_iff.mp ht).1
      refine ⟨(e0.set i (some (.int (a : Nat)))).set j (some (toD t)), rfl, ?_⟩
      have q1 : ((e0.set i (some (D.int (a : Nat)))).set j (some (toD t)))[j]? = some (some (toD t)) := List.getElem?_set_self (by rw [List.length_set]; exact lj)
      have q2 : ((e0.set i (some (D.int (a : Nat)))).set j (some (toD t)))[i]? = some (some (.int (a : Nat))) := by
        rw [List.getElem?_set_ne (Ne.symm ne), List.getElem?_set_self li]
      obtain ⟨xs, ed⟩ := d0 t
      simp only [w_tb, w_bin, w_var q1, w_var q2, w_c]
      rw [ed, w_ixT]
      refine ⟨_, at0, hk _ _ _ _ ?_⟩
      rw [w_eqS (tag_ok t) ok]
      refine ⟨_, rfl, ?_⟩
      have nt := nums_take (kd := kd) ht
      by_cases c : tag t = kd
      · rw [decide_eq_true c, if_pos rfl]
        rw [if_pos c] at nt
        refine ⟨_, v2, ?_, v1.put (Nat.le_refl _), ?_⟩
        · have := nums_len kd 0 (ts.take a)
          rw [List.length_take] at this
          unfold big
          omega
        · rw [List.getElem?_set_self (lt_of_at v2), nt]
      · rw [decide_eq_false c, if_neg Bool.false_ne_true]
        rw [if_neg c, List.append_nil] at nt
        exact ⟨v1, by rw [nt]; exact v2⟩
  · rintro hx ⟨v1, v2⟩
    rw [prs_len, List.take_of_length_le (Nat.le_refl _)] at v2
    exact k _ hx v2 v1 (Nat.le_refl _)
theorem numbers_ok {m p : Nat} {ts : List Tr} {kd : List Nat} {h : Hm} {P : D → Hm → Prop} (it : itemsOf h p = some (toDs ts)) (hl : ts.length ≤ 1000) (ok : (kd.all fun c => decide (c < 1114112)) = true)
    (k : ∀ (q : Nat) (h' : Hm), h'[q]? = some (.lst (nums kd 0 ts)) → Ext h h' → h.length ≤ q → P (.ref q) h') : Ok (cf (m + 1) 16 [.str kd, .ref p] h) P := by
  rw [c_16 (cf := cf)]
  refine ok_body rfl ?_
  unfold b_16
  rw [w_ret, w_comp]
  refine w_enum ?_
  simp only [w_seq, w_ifS, w_set, w_ret, w_par, w_asg, w_sub, w_drop, w_pass, w_bin, w_app, w_call, w_cons, w_nil, w_tup, w_lst, w_if, w_tb, w_not, w_and, w_or, w_c, w_v, w_un, w_int, w_intB, w_addI, w_subI, w_lt, w_le, w_gt, w_ge, w_eqI, w_methL, startE, List.map_cons, List.map_nil, List.cons_append, List.nil_append, List.getElem?_cons_zero, List.getElem?_cons_succ, List.set_cons_zero, List.set_cons_succ, ok1_some, at0, at1, at2, at3, w_ixT, List.length_cons, List.length_nil, Nat.reduceAdd, Nat.reduceSub, Nat.zero_add, List.replicate_succ, List.replicate_zero]
  refine ⟨p, _, rfl, it, ?_⟩
  exact enumc_ok it hl ok (fun x y hx Q q => by rw [w_var (d := .str kd) rfl]; exact q) (by decide) (by simp [wipeE]) (by simp [wipeE]) k
mutual
def dep : Tr → Nat
  | .use _ => 1
  | .join _ ts => 1 + deps ts
  | .bind _ ah b => 1 + max (deps ah) (dep b)
def deps : List Tr → Nat
  | [] => 0
  | t :: ts => max (dep t) (deps ts)
end
theorem deps_app : ∀ a b : List Tr, deps (a ++ b) = max (deps a) (deps b)
  | [], _ => by simp [deps]
  | t :: a, b => by simp only [List.cons_append, deps, deps_app a b]; omega
theorem dep_below (t : Tr) : dep t = 1 + deps (below t) := by
  cases t with
  | use n => rfl
  | join l ts => rfl
  | bind n ah b => simp only [dep, below, deps_app, deps]; omega
theorem deps_row : ∀ ts : List Tr, ts ≠ [] → deps ts = 1 + deps (rowB ts)
  | [], h => absurd rfl h
  | [t], _ => by simp only [deps, rowB, List.append_nil, dep_below t]; omega
  | t :: u :: ts, _ => by
    have ih := deps_row (u :: ts) (by simp)
    have e := dep_below t
    rw [show rowB (t :: u :: ts) = below t ++ rowB (u :: ts) from rfl, deps_app, show deps (t :: u :: ts) = max (dep t) (deps (u :: ts)) from rfl]
    omega
mutual
theorem dep_le : ∀ t : Tr, dep t ≤ siz t
  | .use _ => Nat.le_refl _
  | .join _ ts => by
    have := deps_le ts
    simp only [dep, siz]
    omega
  | .bind _ ah b => by
    have := deps_le ah
    have := dep_le b
    simp only [dep, siz]
    omega
theorem deps_le : ∀ ts : List Tr, deps ts ≤ sizs ts
  | [] => Nat.le_refl _
  | t :: ts => by
    have := dep_le t
    have := deps_le ts
    simp only [deps, sizs]
    omega
end
theorem depth_ok {m : Nat} {t : Tr} {h : Hm} {P : D → Hm → Prop} (hz : siz t ≤ 1000) (k : ∀ h' : Hm, Ext h h' → P (.int (dep t : Nat)) h') : Ok (cf (m + 3) 17 [toD t] h) P := by
  rw [c_17 (cf := cf)]
  refine ok_body rfl ?_
  unfold b_17
  rw [w_seq, w_set]
  simp only [w_ifS, w_bin, w_app, w_call, w_cons, w_nil, w_tup, w_lst, w_if, w_tb, w_not, w_and, w_or, w_c, w_v, w_un, w_int, w_intB, w_addI, w_subI, w_lt, w_le, w_gt, w_ge, w_eqI, w_methL, startE, List.map_cons, List.map_nil, List.cons_append, List.nil_append, List.getElem?_cons_zero, List.getElem?_cons_succ, List.set_cons_zero, List.set_cons_succ, ok1_some, at0, at1, at2, at3, w_ixT, List.length_cons, List.length_nil, Nat.reduceAdd, Nat.reduceSub, Nat.zero_add, List.replicate_succ, List.replicate_zero]
  rw [w_seq, w_set]
  simp only [w_ifS, w_bin, w_app, w_call, w_cons, w_nil, w_tup, w_lst, w_if, w_tb, w_not, w_and, w_or, w_c, w_v, w_un, w_int, w_intB, w_addI, w_subI, w_lt, w_le, w_gt, w_ge, w_eqI, w_methL, startE, List.map_cons, List.map_nil, List.cons_append, List.nil_append, List.getElem?_cons_zero, List.getElem?_cons_succ, List.set_cons_zero, List.set_cons_succ, ok1_some, at0, at1, at2, at3, w_ixT, List.length_cons, List.length_nil, Nat.reduceAdd, Nat.reduceSub, Nat.zero_add, List.replicate_succ, List.replicate_zero]
  refine ⟨by simp [big], ?_⟩
  rw [w_seq]
  unfold mWhile
  have q0 : itemsOf (h ++ [Ob.lst [toD t]]) h.length = some (toDs [t]) := items_l app_at
  refine while_of (fun n e hx => ∃ (ts : List Tr) (p d : Nat), e = [some (toD t), some (.int (d : Nat)), some (.ref p)] ∧ itemsOf hx p = some (toDs ts) ∧ d + deps ts = dep t ∧ sizs ts = n ∧ n ≤ 1000 ∧ Ext h hx) ?_ lots (siz t) _ _ (by unfold lots; omega) ⟨[t], _, 0, rfl, q0, by simp [deps], by simp [sizs], hz, Ext.app⟩
  rintro n e hx ⟨ts, p, d, rfl, it, de, sz, nz, ex⟩
  simp only [w_ifS, w_bin, w_app, w_call, w_cons, w_nil, w_tup, w_lst, w_if, w_tb, w_not, w_and, w_or, w_c, w_v, w_un, w_int, w_intB, w_addI, w_subI, w_lt, w_le, w_gt, w_ge, w_eqI, w_methL, startE, List.map_cons, List.map_nil, List.cons_append, List.nil_append, List.getElem?_cons_zero, List.getElem?_cons_succ, List.set_cons_zero, List.set_cons_succ, ok1_some, at0, at1, at2, at3, w_ixT, List.length_cons, List.length_nil, Nat.reduceAdd, Nat.reduceSub, Nat.zero_add, List.replicate_succ, List.replicate_zero, w_tru]
  refine ⟨_, tru_ref it, ?_⟩
  cases ts with
  | nil =>
    simp only [toDs, List.isEmpty_nil, Bool.not_true, Bool.false_eq_true, if_false, w_seq, w_ifS, w_set, w_ret, w_par, w_asg, w_sub, w_drop, w_pass, w_bin, w_app, w_call, w_cons, w_nil, w_tup, w_lst, w_if, w_tb, w_not, w_and, w_or, w_c, w_v, w_un, w_int, w_intB, w_addI, w_subI, w_lt, w_le, w_gt, w_ge, w_eqI, w_methL, startE, List.map_cons, List.map_nil, List.cons_append, List.nil_append, List.getElem?_cons_zero, List.getElem?_cons_succ, List.set_cons_zero, List.set_cons_succ, ok1_some, at0, at1, at2, at3, w_ixT, List.length_cons, List.length_nil, Nat.reduceAdd, Nat.reduceSub, Nat.zero_add, List.replicate_succ, List.replicate_zero]
    simp only [deps, Nat.add_zero] at de
    rw [de]
    exact k hx ex
  | cons a ts =>
    simp only [toDs, List.isEmpty_cons, Bool.not_false, if_true]
    rw [w_seq, w_aug]
    simp only [w_ifS, w_bin, w_app, w_call, w_cons, w_nil, w_tup, w_lst, w_if, w_tb, w_not, w_and, w_or, w_c, w_v, w_un, w_int, w_intB, w_addI, w_subI, w_lt, w_le, w_gt, w_ge, w_eqI, w_methL, startE, List.map_cons, List.map_nil, List.cons_append, List.nil_append, List.getElem?_cons_zero, List.getElem?_cons_succ, List.set_cons_zero, List.set_cons_succ, ok1_some, at0, at1, at2, at3, w_ixT, List.length_cons, List.length_nil, Nat.reduceAdd, Nat.reduceSub, Nat.zero_add, List.replicate_succ, List.replicate_zero]
    show OkS _ _ _
    rw [w_set]
    simp only [w_ifS, w_bin, w_app, w_call, w_cons, w_nil, w_tup, w_lst, w_if, w_tb, w_not, w_and, w_or, w_c, w_v, w_un, w_int, w_intB, w_addI, w_subI, w_lt, w_le, w_gt, w_ge, w_eqI, w_methL, startE, List.map_cons, List.map_nil, List.cons_append, List.nil_append, List.getElem?_cons_zero, List.getElem?_cons_succ, List.set_cons_zero, List.set_cons_succ, ok1_some, at0, at1, at2, at3, w_ixT, List.length_cons, List.length_nil, Nat.reduceAdd, Nat.reduceSub, Nat.zero_add, List.replicate_succ, List.replicate_zero]
    refine row_ok it (by omega) fun q h2 hq x2 _ => ?_
    have s1 := sizs_row (a :: ts)
    have s2 := deps_row (a :: ts) (by simp)
    simp only [List.length_cons] at s1
    refine ⟨_, ?_, rowB (a :: ts), q, d + 1, ?_, items_l hq, by omega, rfl, by omega, ex.trans x2⟩
    · omega
    · simp

end ND
end L2.Lv
end
section
set_option maxRecDepth 100000
set_option maxHeartbeats 1000000
set_option autoImplicit false
namespace L2.Lv
namespace ND
open PySem
/-! ### small letters -/
def isLt (c : Nat) : Bool := Nat.ble 97 c && Nat.ble c 122
def lets (n : List Nat) : Bool := !n.isEmpty && n.all isLt
def nmOk (n : List Nat) : Bool := decide (n.length ≤ 8) && lets n
theorem low_tab : ∀ c : Fin 128, (Unicode.isAlpha c.val && !(Unicode.isUpper c.val || Unicode.isTitle c.val)) = isLt c.val ∧ (isLt c.val = true → Unicode.isLower c.val = true) := by decide +kernel
theorem low_c {c : Nat} (h : c < 128) : (Unicode.isAlpha c && !(Unicode.isUpper c || Unicode.isTitle c)) = isLt c ∧ (isLt c = true → Unicode.isLower c = true) := low_tab ⟨c, h⟩
theorem lt_128 {c : Nat} (h : isLt c = true) : c < 128 := by
  unfold isLt at h
  rw [Bool.and_eq_true] at h
  have := Nat.le_of_ble_eq_true h.2
  omega
theorem lets_is (n : List Nat) : (Txt.isalpha ⟨n.toArray⟩ && (Txt.islower ⟨n.toArray⟩ && Txt.isascii ⟨n.toArray⟩)) = lets n := by
  unfold Txt.isalpha Txt.islower Txt.isascii lets
  have e0 : (Str.length ⟨n.toArray⟩) = n.length := by simp [Str.length]
  rw [e0]
  simp only [List.all_toArray, List.any_toArray]
  rw [Bool.eq_iff_iff]
  simp only [Bool.and_eq_true, Bool.not_eq_true', List.all_eq_true, List.any_eq_true, List.any_eq_false, decide_eq_true_eq, Bool.or_eq_true, List.isEmpty_eq_false_iff]
  constructor
  · rintro ⟨⟨l, ha⟩, ⟨_, hu⟩, hs⟩
    refine ⟨fun z => by rw [z] at l; simp at l, fun c hc => ?_⟩
    have h1 := low_c (hs c hc)
    rw [← h1.1, ha c hc]
    have := hu c hc
    cases e : (Unicode.isUpper c || Unicode.isTitle c) with
    | false => rfl
    | true => exact absurd e (by simpa using this)
  · rintro ⟨ne, ha⟩
    have key : ∀ c ∈ n, Unicode.isAlpha c = true ∧ ¬ (Unicode.isUpper c = true ∨ Unicode.isTitle c = true) ∧ Unicode.isLower c = true := fun c hc => by
      have h1 := low_c (lt_128 (ha c hc))
      have h2 := h1.1
      rw [ha c hc, Bool.and_eq_true, Bool.not_eq_true'] at h2
      refine ⟨h2.1, ?_, h1.2 (ha c hc)⟩
      have h3 := h2.2
      rw [Bool.or_eq_false_iff] at h3
      rintro (z | z)
      · rw [h3.1] at z; cases z
      · rw [h3.2] at z; cases z
    refine ⟨⟨?_, fun c hc => (key c hc).1⟩, ⟨?_, fun c hc => (key c hc).2.1⟩, fun c hc => lt_128 (ha c hc)⟩
    · cases n with
      | nil => exact absurd rfl ne
      | cons a n => simp
    · cases n with
      | nil => exact absurd rfl ne
      | cons a n => exact ⟨a, List.mem_cons_self, (key a List.mem_cons_self).2.2⟩
theorem lets_app (a b : List Nat) : lets (a ++ b) = (!(a ++ b).isEmpty && (a.all isLt && b.all isLt)) := by unfold lets; rw [List.all_append]
end ND
end L2.Lv
end
section
set_option maxRecDepth 100000
set_option maxHeartbeats 1000000
set_option autoImplicit false
namespace L2.Lv
namespace ND
open PySem
section
variable {P : D → Hm → Prop} {N : En → Hm → Prop} {R : D → Hm → Prop} {e : En} {h : Hm}
theorem w_chain {p q : D → D → Hm → Re D} {a b c : ME} : Ok (mChain p q a b c e h) P ↔ Ok (a e h) fun x h1 => Ok (b e h1) fun y h2 => Ok (p x y h2) fun k h3 => ∃ kb, k = .bl kb ∧ if kb = true then Ok (c e h3) fun w h4 => Ok (q y w h4) P else P (.bl false) h3 := by
  unfold mChain
  simp only [ok_bind]
  constructor <;> intro w <;> refine w.mono fun x h1 w1 => w1.mono fun y h2 w2 => w2.mono fun k h3 q => ?_
  · split at q
    · exact ⟨true, rfl, by rw [if_pos rfl]; rw [ok_bind] at q; exact q⟩
    · exact ⟨false, rfl, q⟩
    · exact q.elim
  · obtain ⟨kb, rfl, q⟩ := q
    cases kb with
    | true => dsimp only; rw [ok_bind]; rw [if_pos rfl] at q; exact q
    | false => exact q
theorem w_methS {p : List Nat → List D → Hm → Re D} {a : ME} {b : MA} : Ok (mMethS p a b e h) P ↔ Ok (a e h) fun d h1 => ∃ s, d = .str s ∧ Ok (b e h1) fun as h2 => Ok (p s as h2) P := by
  unfold mMethS
  rw [ok_bind]
  constructor <;> intro w <;> refine w.mono fun d h1 q => ?_
  · split at q
    · exact ⟨_, rfl, by rw [ok_bind] at q; exact q⟩
    · exact q.elim
  · obtain ⟨s, rfl, q⟩ := q
    dsimp only
    rw [ok_bind]
    exact q
/-- a walk over what a list or a tuple holds -/
theorem src_of {d : D} {vs : List D} {i : Nat} {Q : Src → Hm → Prop} (he : e[i]? = some (some d)) (hs : seqOf h d = some vs) (k : ∀ src, (∀ j h', (∀ p xs, itemsOf h p = some xs → itemsOf h' p = some xs) → nxt src j h' = some vs[j]?) → Q src h) : Ok (mSrc (mVar i) e h) Q := by
  refine w_src ?_
  rw [w_var he]
  cases d with
  | tup ys =>
    have ey : ys = vs := Option.some.inj hs
    exact .inl ⟨vs, by rw [ey], k _ fun j h' _ => rfl⟩
  | ref n => exact .inr ⟨n, vs, rfl, hs, k _ fun j h' w => nxt_live (w n vs hs)⟩
  | _ => cases hs
end
/-- a name, as the program asks -/
def isNm : D → Bool
  | .str n => decide (0 < n.length) && (decide (n.length ≤ 8) && n.all isLt)
  | _ => false
def sLen : D → Bool
  | .str n => decide (0 < n.length) && decide (n.length ≤ 8)
  | _ => false
theorem strs_all : ∀ {vs : List D}, vs.all sLen = true → ∃ ys : List (List Nat), strsD vs = some ys ∧ (ys.map List.length).sum ≤ 8 * vs.length ∧ vs.all isNm = (vs.isEmpty || lets ys.flatten) ∧ (vs ≠ [] → ys.flatten ≠ [])
  | [], _ => ⟨[], rfl, by simp, rfl, fun h => absurd rfl h⟩
  | .str s :: vs, h => by
    rw [List.all_cons, Bool.and_eq_true] at h
    obtain ⟨h1, h2⟩ := h
    obtain ⟨ys, e1, e2, e3, e4⟩ := strs_all h2
    simp only [sLen, Bool.and_eq_true, decide_eq_true_eq] at h1
    have ne : s ≠ [] := fun z => by rw [z] at h1; simp at h1
    refine ⟨s :: ys, by simp only [strsD, e1], by simp only [List.map_cons, List.sum_cons, List.length_cons]; omega, ?_, fun _ => by simp [ne]⟩
    rw [List.all_cons, e3, List.flatten_cons, lets_app]
    have n1 : (!(s ++ ys.flatten).isEmpty) = true := by cases s with
      | nil => exact absurd rfl ne
      | cons a s => rfl
    rw [n1]
    simp only [isNm, decide_eq_true h1.1, decide_eq_true h1.2, Bool.true_and, List.isEmpty_cons, Bool.false_or]
    congr 1
    cases vs with
    | nil =>
      simp only [strsD, Option.some.injEq] at e1
      rw [← e1]
      rfl
    | cons v vs =>
      have := e4 (by simp)
      unfold lets
      cases q : ys.flatten with
      | nil => exact absurd q this
      | cons a l => rfl
  | .non :: vs, h => by simp [sLen] at h
  | .bl _ :: vs, h => by simp [sLen] at h
  | .int _ :: vs, h => by simp [sLen] at h
  | .tup _ :: vs, h => by simp [sLen] at h
  | .ref _ :: vs, h => by simp [sLen] at h
theorem join_nil : ∀ ys : List (List Nat), TL.joinL [] ys = ys.flatten
  | [] => rfl
  | [p] => by simp [TL.joinL]
  | p :: q :: r => by rw [TL.joinL, join_nil (q :: r)]; simp
theorem sLen_nm {d : D} (h : isNm d = true) : sLen d = true := by
  cases d with
  | str n =>
    simp only [isNm, sLen, Bool.and_eq_true] at h ⊢
    exact ⟨h.1, h.2.1⟩
  | _ => cases h
def b_102 (c : CT) : MS :=
  (mSeq (mFor (mSrc (mVar 0)) (gSet 1) (mIfS (mOrT (mNotT (mTru (mUn (pIsi 1 [3]) (mVar 1)))) (mNotT (mTb (mChain pLt pLe (mC (.int 0)) (mApp pLen (mCons (mVar 1) mNil)) (mC (.int 8)))))) (mRet (mC (.bl false))) mPass))
  (mRet (mOrV (mBin pEq (mApp pLen (mCons (mVar 0) mNil)) (mC (.int 0))) (mCall (c 103) (mCons (mMethS pJoin (mC (.str [])) (mCons (mVar 0) mNil)) mNil)))))
def b_103 (c : CT) : MS :=
  (mRet (mAndV (mUn (pStrT Txt.isalpha) (mVar 0)) (mAndV (mUn (pStrT Txt.islower) (mVar 0)) (mUn (pStrT Txt.isascii) (mVar 0)))))
class NameF (cf : Nat → CT) : Prop where
  h102 : ∀ m, cf (m + 1) 102 = mBody 1 2 (b_102 (cf m))
  h103 : ∀ m, cf (m + 1) 103 = mBody 1 1 (b_103 (cf m))
variable {cf : Nat → CT} [NameF cf]
theorem letters_ok {m : Nat} {n : List Nat} {h : Hm} {P : D → Hm → Prop} (k : P (.bl (lets n)) h) : Ok (cf (m + 1) 103 [.str n] h) P := by
  rw [NameF.h103 (cf := cf)]
  refine ok_body rfl ?_
  unfold b_103
  rw [← lets_is n] at k
  simp only [w_seq, w_ifS, w_set, w_ret, w_par, w_asg, w_sub, w_drop, w_pass, w_bin, w_app, w_call, w_cons, w_nil, w_tup, w_lst, w_if, w_tb, w_not, w_and, w_or, w_c, w_v, w_un, w_int, w_intB, w_addI, w_subI, w_lt, w_le, w_gt, w_ge, w_eqI, w_methL, startE, List.map_cons, List.map_nil, List.cons_append, List.nil_append, List.getElem?_cons_zero, List.getElem?_cons_succ, List.set_cons_zero, List.set_cons_succ, ok1_some, at0, at1, at2, at3, w_ixT, List.length_cons, List.length_nil, Nat.reduceAdd, Nat.reduceSub, Nat.zero_add, List.replicate_succ, List.replicate_zero, w_andV, w_strT]
  cases e1 : Txt.isalpha ⟨n.toArray⟩ with
  | false =>
    rw [e1] at k
    exact ⟨false, rfl, k⟩
  | true =>
    rw [e1] at k
    refine ⟨true, rfl, ?_⟩
    simp only [if_true]
    cases e2 : Txt.islower ⟨n.toArray⟩ with
    | false =>
      rw [e2] at k
      exact ⟨false, rfl, k⟩
    | true =>
      rw [e2] at k
      refine ⟨true, rfl, ?_⟩
      simp only [if_true]
      exact k
/-- one round of the walk: True goes on -/
theorem sLen_ok {x1 x : D} {e : En} {h : Hm} {N : En → Hm → Prop} {R : D → Hm → Prop} (he : e[1]? = some (some x)) (hk : kd h x < 8) (hb : ∀ s, x = .str s → s.length ≤ big) (h1 : sLen x = true → N e h) (h2 : sLen x = false → R (.bl false) h) :
    OkS (mIfS (mOrT (mNotT (mTru (mUn (pIsi 1 [3]) (mVar 1)))) (mNotT (mTb (mChain pLt pLe (mC (.int 0)) (mApp pLen (mCons (mVar 1) mNil)) (mC (.int 8)))))) (mRet (mC (.bl false))) mPass e h) N R := by
  simp only [w_ifS, w_or, w_not, w_tru, w_un, w_var he]
  rw [w_isi (nc := 1) hk]
  refine ⟨_, rfl, ?_⟩
  by_cases c : ([3] : List Nat).contains (kd h x) = true
  · rw [c]
    simp only [Bool.not_true, Bool.false_eq_true, if_false]
    cases x with
    | str s =>
      have lb := hb s rfl
      simp only [w_tb, w_chain, w_c, w_app, w_cons, w_nil, w_var he, w_lenS lb, w_lt, w_le]
      refine ⟨_, rfl, ?_⟩
      by_cases c1 : 0 < s.length
      · have c2 : (0 : Int) < s.length := by omega
        simp only [decide_eq_true c2, if_true]
        refine ⟨_, rfl, ?_⟩
        by_cases c3 : s.length ≤ 8
        · have c4 : ((s.length : Int) ≤ 8) := by omega
          simp only [decide_eq_true c4, Bool.not_true, Bool.false_eq_true, if_false, w_pass]
          exact h1 (by simp [sLen, c1, c3])
        · have c4 : ¬ ((s.length : Int) ≤ 8) := by omega
          simp only [decide_eq_false c4, Bool.not_false, if_true, w_ret, w_c]
          exact h2 (by simp [sLen]; omega)
      · have c2 : ¬ ((0 : Int) < s.length) := by omega
        simp only [decide_eq_false c2, Bool.false_eq_true, if_false]
        refine ⟨_, rfl, ?_⟩
        simp only [Bool.not_false, if_true, w_ret, w_c]
        exact h2 (by simp [sLen]; omega)
    | ref n => simp only [kd] at c; split at c <;> simp at c <;> omega
    | _ => simp [kd] at c
  · have c' : ([3] : List Nat).contains (kd h x) = false := by simpa using c
    rw [c']
    simp only [Bool.not_false, if_true, w_ret, w_c]
    refine h2 ?_
    cases x with
    | str s => simp [kd] at c
    | _ => rfl
theorem allnames_ok {m : Nat} {d : D} {vs : List D} {h : Hm} {P : D → Hm → Prop} (hs : seqOf h d = some vs) (hv : ∀ v ∈ vs, kd h v < 8) (hb : ∀ s, D.str s ∈ vs → s.length ≤ big) (hn : vs.length ≤ 10000) (k : P (.bl (vs.all isNm)) h) : Ok (cf (m + 2) 102 [d] h) P := by
  rw [NameF.h102 (cf := cf)]
  refine ok_body rfl ?_
  unfold b_102
  rw [w_seq, w_for]
  refine src_of (d := d) rfl hs fun src hx => ?_
  refine loop_of (xs := vs) (fun j e h' => h' = h ∧ (∃ x1, e = [some d, x1]) ∧ (vs.take j).all sLen = true) (fun j e h' v => hx j h' (fun p xs q => by rw [v.1]; exact q)) ?_ ?_ vs.length lots 0 _ h (by omega) (by unfold lots; omega) ⟨rfl, ⟨none, rfl⟩, rfl⟩
  · rintro j x e h' hj ⟨rfl, ⟨x1, rfl⟩, v⟩
    have mx : x ∈ vs := List.mem_of_getElem? hj
    refine ⟨[some d, some x], rfl, ?_⟩
    refine sLen_ok (x1 := d) rfl (hv x mx) (fun s z => hb s (z ▸ mx)) (fun z => ⟨rfl, ⟨_, rfl⟩, ?_⟩) fun z => ?_
    · rw [List.take_succ, hj, List.all_append, v]
      simp [z]
    · have : vs.all isNm = false := by
        rw [Bool.eq_false_iff]
        intro y
        have y2 := List.all_eq_true.mp y x mx
        rw [sLen_nm y2] at z
        cases z
      rw [this] at k
      exact k
  · rintro e h' ⟨rfl, ⟨x1, rfl⟩, v⟩
    rw [List.take_of_length_le (Nat.le_refl _)] at v
    obtain ⟨ys, e1, e2, e3, e4⟩ := strs_all v
    have ln : Ok (pLen [d] h') fun x hq => x = .int vs.length ∧ hq = h' := by
      cases d with
      | tup xs => cases hs; exact ⟨rfl, rfl⟩
      | ref n =>
        unfold pLen
        simp only [show itemsOf h' n = some vs from hs]
        exact ⟨rfl, rfl⟩
      | _ => cases hs
    simp only [w_seq, w_ifS, w_set, w_ret, w_par, w_asg, w_sub, w_drop, w_pass, w_bin, w_app, w_call, w_cons, w_nil, w_tup, w_lst, w_if, w_tb, w_not, w_and, w_or, w_c, w_v, w_un, w_int, w_intB, w_addI, w_subI, w_lt, w_le, w_gt, w_ge, w_eqI, w_methL, startE, List.map_cons, List.map_nil, List.cons_append, List.nil_append, List.getElem?_cons_zero, List.getElem?_cons_succ, List.set_cons_zero, List.set_cons_succ, ok1_some, at0, at1, at2, at3, w_ixT, List.length_cons, List.length_nil, Nat.reduceAdd, Nat.reduceSub, Nat.zero_add, List.replicate_succ, List.replicate_zero, w_orV]
    refine ln.mono fun x hq z => ?_
    obtain ⟨rfl, rfl⟩ := z
    rw [w_eqI]
    refine ⟨_, rfl, ?_⟩
    cases vs with
    | nil => exact k
    | cons v0 vs =>
      have c : (((v0 :: vs).length : Int) == 0) = false := by
        rw [beq_eq_false_iff_ne]
        simp only [List.length_cons]
        omega
      rw [c]
      simp only [Bool.false_eq_true, if_false, w_methS]
      refine ⟨[], rfl, ?_⟩
      simp only [w_seq, w_ifS, w_set, w_ret, w_par, w_asg, w_sub, w_drop, w_pass, w_bin, w_app, w_call, w_cons, w_nil, w_tup, w_lst, w_if, w_tb, w_not, w_and, w_or, w_c, w_v, w_un, w_int, w_intB, w_addI, w_subI, w_lt, w_le, w_gt, w_ge, w_eqI, w_methL, startE, List.map_cons, List.map_nil, List.cons_append, List.nil_append, List.getElem?_cons_zero, List.getElem?_cons_succ, List.set_cons_zero, List.set_cons_succ, ok1_some, at0, at1, at2, at3, w_ixT, List.length_cons, List.length_nil, Nat.reduceAdd, Nat.reduceSub, Nat.zero_add, List.replicate_succ, List.replicate_zero]
      have hj : Ok (pJoin [] [d] hq) fun x h' => x = .str ys.flatten ∧ h' = hq := by
        unfold pJoin
        simp only [hs, e1]
        rw [if_pos (by simp only [List.length_nil, Nat.mul_zero, Nat.add_zero]; simp only [List.length_cons] at e2 hn; unfold big; omega), join_nil]
        exact ⟨rfl, rfl⟩
      refine hj.mono fun x h' z => ?_
      obtain ⟨rfl, rfl⟩ := z
      refine letters_ok ?_
      rw [e3] at k
      exact k
end ND
end L2.Lv
end
section
set_option maxRecDepth 100000
set_option maxHeartbeats 1000000
set_option autoImplicit false
namespace L2.Lv
namespace ND
open PySem
/-! ### which values are trees -/
mutual
def dsz : D → Nat
  | .tup xs => 1 + dszs xs
  | .non => 1
  | .bl _ => 1
  | .int _ => 1
  | .str _ => 1
  | .ref _ => 1
def dszs : List D → Nat
  | [] => 0
  | x :: xs => dsz x + dszs xs
end
theorem dsz_pos (d : D) : 1 ≤ dsz d := by cases d <;> simp [dsz]
theorem dszs_app : ∀ a b : List D, dszs (a ++ b) = dszs a + dszs b
  | [], b => by simp [dszs]
  | x :: a, b => by simp only [List.cons_append, dszs, dszs_app a b]; omega
theorem dszs_rev : ∀ a : List D, dszs a.reverse = dszs a
  | [] => rfl
  | x :: a => by rw [List.reverse_cons, dszs_app, dszs_rev a]; simp only [dszs]; omega
theorem len_dszs : ∀ a : List D, a.length ≤ dszs a
  | [] => Nat.le_refl _
  | x :: a => by
    have := dsz_pos x
    have := len_dszs a
    simp only [List.length_cons, dszs]
    omega
/-- the name and the trees below, if it is made as a node is -/
def parts : D → Option (D × List D)
  | .tup [.str k, nm] => if k = tUse then some (nm, []) else none
  | .tup [.str k, nm, .tup ps] => if k = tJoin then some (nm, ps) else none
  | .tup [.str k, nm, .tup ah, b] => if k = tBind then some (nm, ah ++ [b]) else none
  | _ => none
theorem parts_sz {d nm : D} {ch : List D} (e : parts d = some (nm, ch)) : dszs ch + 1 ≤ dsz d := by
  unfold parts at e
  split at e <;> (try (split at e)) <;> cases e
  all_goals simp only [dsz, dszs, dszs_app]; omega
def run : Nat → List D → Option (List D × List D)
  | 0, _ => none
  | _ + 1, [] => some ([], [])
  | n + 1, d :: st => match parts d with
    | none => none
    | some q => match run n (q.2 ++ st) with
      | none => none
      | some r => some (d :: r.1, q.1 :: r.2)
theorem run_fuel : ∀ (n n' : Nat) (st : List D), dszs st < n → dszs st < n' → run n st = run n' st
  | 0, _, _, h, _ => absurd h (Nat.not_lt_zero _)
  | _, 0, _, _, h => absurd h (Nat.not_lt_zero _)
  | n + 1, n' + 1, [], _, _ => rfl
  | n + 1, n' + 1, d :: st, h, h' => by
    unfold run
    cases e : parts d with
    | none => rfl
    | some q =>
      have s := parts_sz (nm := q.1) (ch := q.2) e
      simp only [dszs] at h h'
      dsimp only
      rw [run_fuel n n' (q.2 ++ st) (by rw [dszs_app]; omega) (by rw [dszs_app]; omega)]
def vis (st : List D) : Option (List D × List D) := run (dszs st + 1) st
theorem vis_nil : vis [] = some ([], []) := rfl
theorem vis_cons {d : D} {st : List D} : vis (d :: st) = match parts d with
    | none => none
    | some q => match vis (q.2 ++ st) with
      | none => none
      | some r => some (d :: r.1, q.1 :: r.2) := by
  unfold vis
  rw [show run (dszs (d :: st) + 1) (d :: st) = match parts d with
    | none => none
    | some q => match run (dszs (d :: st)) (q.2 ++ st) with
      | none => none
      | some r => some (d :: r.1, q.1 :: r.2) from rfl]
  cases e : parts d with
  | none => rfl
  | some q =>
    have s := parts_sz (nm := q.1) (ch := q.2) e
    dsimp only
    rw [run_fuel (dszs (d :: st)) (dszs (q.2 ++ st) + 1) (q.2 ++ st) (by rw [dszs_app]; simp only [dszs]; omega) (by omega)]
/-- both, one behind the other -/
def both (a b : Option (List D × List D)) : Option (List D × List D) := match a, b with
  | some x, some y => some (x.1 ++ y.1, x.2 ++ y.2)
  | _, _ => none
theorem both_assoc (a b c : Option (List D × List D)) : both (both a b) c = both a (both b c) := by
  cases a <;> cases b <;> cases c <;> simp [both]
theorem vis_app : ∀ (n : Nat) (a b : List D), dszs a ≤ n → vis (a ++ b) = both (vis a) (vis b)
  | _, [], b, _ => by
    rw [vis_nil]
    cases h : vis b <;> simp [both, h]
  | 0, d :: a, b, h => by
    have := dsz_pos d
    simp only [dszs] at h
    omega
  | n + 1, d :: a, b, h => by
    rw [List.cons_append, vis_cons, vis_cons]
    cases e : parts d with
    | none => rfl
    | some q =>
      have s := parts_sz (nm := q.1) (ch := q.2) e
      simp only [dszs] at h
      dsimp only
      rw [← List.append_assoc, vis_app n (q.2 ++ a) b (by rw [dszs_app]; omega)]
      cases vis (q.2 ++ a) with
      | none => rfl
      | some x => cases vis b <;> rfl
theorem vis_two (d : D) (st : List D) : vis (d :: st) = both (vis [d]) (vis st) := vis_app (dszs [d]) [d] st (Nat.le_refl _)
/-- the trees of all nodes, where the value is a tree -/
def tnodes (d : D) : List D := match vis [d] with
  | some r => if r.2.all isNm then r.1 else []
  | none => []
/-! validity: what stands in a value is at hand -/
mutual
def vd (h : Hm) : D → Bool
  | .str s => s.all (fun c => decide (c < 1114112)) && decide (s.length ≤ big)
  | .tup xs => vds h xs
  | .ref i => (h[i]?).isSome && decide (kd h (.ref i) < 8)
  | .non => true
  | .bl _ => true
  | .int _ => true
def vds (h : Hm) : List D → Bool
  | [] => true
  | x :: xs => vd h x && vds h xs
end
theorem vds_mem {h : Hm} : ∀ {xs : List D} {x : D}, vds h xs = true → x ∈ xs → vd h x = true
  | a :: xs, x, v, m => by
    simp only [vds, Bool.and_eq_true] at v
    rcases List.mem_cons.mp m with rfl | m
    · exact v.1
    · exact vds_mem v.2 m
theorem vds_app {h : Hm} : ∀ {a b : List D}, vds h (a ++ b) = (vds h a && vds h b)
  | [], b => by simp [vds]
  | x :: a, b => by simp only [List.cons_append, vds, vds_app (a := a), Bool.and_assoc]
theorem vds_all {h : Hm} : ∀ {xs : List D}, (∀ x ∈ xs, vd h x = true) → vds h xs = true
  | [], _ => rfl
  | x :: xs, q => by
    simp only [vds, Bool.and_eq_true]
    exact ⟨q x List.mem_cons_self, vds_all fun y m => q y (List.mem_cons_of_mem _ m)⟩
theorem vd_kd {h : Hm} {d : D} (v : vd h d = true) : kd h d < 8 := by
  cases d with
  | ref i =>
    simp only [vd, Bool.and_eq_true, decide_eq_true_eq] at v
    exact v.2
  | _ => simp [kd]
theorem vd_str {h : Hm} {s : List Nat} (v : vd h (.str s) = true) : (s.all fun c => decide (c < 1114112)) = true ∧ s.length ≤ big := by
  simp only [vd, Bool.and_eq_true, decide_eq_true_eq] at v
  exact v
theorem parts_vd {h : Hm} {d nm : D} {ch : List D} (e : parts d = some (nm, ch)) (v : vd h d = true) : vd h nm = true ∧ vds h ch = true := by
  unfold parts at e
  split at e <;> (try (split at e)) <;> cases e
  all_goals
    simp only [vd, vds, vds_app, Bool.and_eq_true, Bool.and_true] at v ⊢
  · exact ⟨v.2, trivial⟩
  · exact v.2
  · exact ⟨v.2.1, v.2.2⟩
theorem kd_ext {h h' : Hm} {i : Nat} (x : Ext h h') (q : (h[i]?).isSome = true) : kd h' (.ref i) = kd h (.ref i) ∧ (h'[i]?).isSome = true := by
  obtain ⟨ob, e⟩ := Option.isSome_iff_exists.mp q
  simp only [kd]
  rw [x i ob e, e]
  exact ⟨rfl, rfl⟩
mutual
theorem vd_ext {h h' : Hm} (x : Ext h h') : ∀ {d : D}, vd h d = true → vd h' d = true
  | .str s, v => v
  | .tup xs, v => vds_ext x (xs := xs) v
  | .ref i, v => by
    simp only [vd, Bool.and_eq_true, decide_eq_true_eq] at v ⊢
    obtain ⟨e1, e2⟩ := kd_ext x v.1
    rw [e1]
    exact ⟨e2, v.2⟩
  | .non, v => v
  | .bl _, v => v
  | .int _, v => v
theorem vds_ext {h h' : Hm} (x : Ext h h') : ∀ {xs : List D}, vds h xs = true → vds h' xs = true
  | [], _ => rfl
  | y :: xs, v => by
    simp only [vds, Bool.and_eq_true] at v ⊢
    exact ⟨vd_ext x v.1, vds_ext x v.2⟩
end
end ND
end L2.Lv
end
section
set_option maxRecDepth 100000
set_option maxHeartbeats 2000000
set_option autoImplicit false
namespace L2.Lv
namespace ND
open PySem
def b_104 (c : CT) : MS :=
  (mSeq (mSet 1 (mLst mNil))
  (mSeq (mSet 2 (mLst mNil))
  (mSeq (mSet 3 (mLst (mCons (mVar 0) mNil)))
  (mSeq (mWhile (mTru (mVar 3)) (mSeq (mSet 4 (mMethL0 pPop (mVar 3)))
  (mSeq (mIfS (mNotT (mTru (mUn (pIsi 1 [4]) (mVar 4)))) (mRet (mLst mNil)) mPass)
  (mSeq (mIfS (mTb (mBin pEq (mApp pLen (mCons (mVar 4) mNil)) (mC (.int 2)))) (mSeq (mAsg (gTupM [(gSet 5), (gSet 6)]) (mVar 4))
  (mIfS (mOrT (mNotT (mTru (mUn (pIsi 1 [3]) (mVar 5)))) (mTb (mBin pNe (mVar 5) (mC (.str [117, 115, 101]))))) (mRet (mLst mNil)) mPass)) (mIfS (mTb (mBin pEq (mApp pLen (mCons (mVar 4) mNil)) (mC (.int 3)))) (mSeq (mAsg (gTupM [(gSet 5), (gSet 6), (gSet 7)]) (mVar 4))
  (mSeq (mIfS (mOrT (mNotT (mTru (mUn (pIsi 1 [3]) (mVar 5)))) (mOrT (mTb (mBin pNe (mVar 5) (mC (.str [106, 111, 105, 110])))) (mNotT (mTru (mUn (pIsi 1 [4]) (mVar 7)))))) (mRet (mLst mNil)) mPass)
  (mDrop (mMethL pExtendA (mVar 3) (mCons (mUn pRevT (mVar 7)) mNil))))) (mIfS (mTb (mBin pEq (mApp pLen (mCons (mVar 4) mNil)) (mC (.int 4)))) (mSeq (mAsg (gTupM [(gSet 5), (gSet 6), (gSet 8), (gSet 9)]) (mVar 4))
  (mSeq (mIfS (mOrT (mNotT (mTru (mUn (pIsi 1 [3]) (mVar 5)))) (mOrT (mTb (mBin pNe (mVar 5) (mC (.str [98, 105, 110, 100])))) (mNotT (mTru (mUn (pIsi 1 [4]) (mVar 8)))))) (mRet (mLst mNil)) mPass)
  (mSeq (mDrop (mMethL pAppend (mVar 3) (mCons (mVar 9) mNil)))
  (mDrop (mMethL pExtendA (mVar 3) (mCons (mUn pRevT (mVar 8)) mNil)))))) (mRet (mLst mNil)))))
  (mSeq (mDrop (mMethL pAppend (mVar 1) (mCons (mVar 4) mNil)))
  (mDrop (mMethL pAppend (mVar 2) (mCons (mVar 6) mNil))))))))
  (mSeq (mIfS (mTru (mCall (c 102) (mCons (mVar 2) mNil))) (mRet (mVar 1)) mPass)
  (mRet (mLst mNil)))))))
class ScanF (cf : Nat → CT) : Prop where
  h104 : ∀ m, cf (m + 1) 104 = mBody 1 10 (b_104 (cf m))
section
variable {P : D → Hm → Prop} {N : En → Hm → Prop} {R : D → Hm → Prop} {h : Hm}
/-- not isinstance(kind, str) or .. -/
theorem kind_ok {x : D} {e : En} {X : MT} {Q : Bool → Hm → Prop} {i : Nat} (he : e[i]? = some (some x)) (hv : vd h x = true) (h1 : ∀ s, x = .str s → Ok (X e h) Q) (h2 : (∀ s, x ≠ .str s) → Q true h) :
    Ok (mOrT (mNotT (mTru (mUn (pIsi 1 [3]) (mVar i)))) X e h) Q := by
  simp only [w_or, w_not, w_tru, w_un, w_var he]
  rw [w_isi (nc := 1) (vd_kd hv)]
  refine ⟨_, rfl, ?_⟩
  have k1 := vd_kd hv
  cases x with
  | str s =>
    simp only [kd]
    exact h1 s rfl
  | ref j =>
    have : ([3] : List Nat).contains (kd h (.ref j)) = false := by
      simp only [vd, Bool.and_eq_true] at hv
      obtain ⟨ob, e⟩ := Option.isSome_iff_exists.mp hv.1
      simp only [kd, e]
      cases ob <;> simp
      omega
    rw [this]
    exact h2 fun s z => by cases z
  | non => exact h2 fun s z => by cases z
  | bl b => exact h2 fun s z => by cases z
  | int j => exact h2 fun s z => by cases z
  | tup xs => exact h2 fun s z => by cases z
theorem w_neS {s t : List Nat} (a : (s.all fun c => decide (c < 1114112)) = true) (b : (t.all fun c => decide (c < 1114112)) = true) : Ok (pNe (.str s) (.str t) h) P ↔ P (.bl (!decide (s = t))) h := by
  rw [w_ne (by simpa [okD, deep] using a) (by simpa [okD, deep] using b)]
  exact Iff.rfl
/-- isinstance(x, tuple) -/
theorem istup {x : D} (hv : vd h x = true) : Ok (pIsi 1 [4] x h) P ↔ P (.bl (match x with | .tup _ => true | _ => false)) h := by
  rw [w_isi (nc := 1) (vd_kd hv)]
  have : ([4] : List Nat).contains (kd h x) = (match x with | .tup _ => true | _ => false) := by
    cases x with
    | ref j =>
      simp only [vd, Bool.and_eq_true] at hv
      obtain ⟨ob, e⟩ := Option.isSome_iff_exists.mp hv.1
      simp only [kd, e]
      cases ob <;> simp
      omega
    | _ => rfl
  rw [this]
end
theorem parts_bad {ds : List D} (c : ds.length ≠ 2 ∧ ds.length ≠ 3 ∧ ds.length ≠ 4) : parts (.tup ds) = none := by
  unfold parts
  split
  · rename_i e; cases e; simp at c
  · rename_i e; cases e; simp at c
  · rename_i e; cases e; simp at c
  · rfl
theorem parts2 {s : List Nat} {b : D} : parts (.tup [.str s, b]) = if s = tUse then some (b, []) else none := rfl
theorem parts3 {s : List Nat} {b : D} {ps : List D} : parts (.tup [.str s, b, .tup ps]) = if s = tJoin then some (b, ps) else none := rfl
theorem parts4 {s : List Nat} {b d : D} {ps : List D} : parts (.tup [.str s, b, .tup ps, d]) = if s = tBind then some (b, ps ++ [d]) else none := rfl
theorem parts2n {a b : D} (n : ∀ s, a ≠ .str s) : parts (.tup [a, b]) = none := by
  cases a with
  | str s => exact absurd rfl (n s)
  | _ => rfl
theorem parts3n {a b c : D} (n : ∀ s, a ≠ .str s) : parts (.tup [a, b, c]) = none := by
  cases a with
  | str s => exact absurd rfl (n s)
  | _ => rfl
theorem parts4n {a b c d : D} (n : ∀ s, a ≠ .str s) : parts (.tup [a, b, c, d]) = none := by
  cases a with
  | str s => exact absurd rfl (n s)
  | _ => rfl
theorem parts3m {s : List Nat} {b c : D} (n : s ≠ tJoin) : parts (.tup [.str s, b, c]) = none := by
  cases c with
  | tup ps => exact if_neg n
  | _ => rfl
theorem parts4m {s : List Nat} {b c d : D} (n : s ≠ tBind) : parts (.tup [.str s, b, c, d]) = none := by
  cases c with
  | tup ps => exact if_neg n
  | _ => rfl
/-- what the loop holds: the nodes and the names so far, and what waits -/
structure ScanI (v : D) (h hx : Hm) (ns nm st : List D) : Prop where
  ns_ : hx[h.length]? = some (.lst ns)
  nm_ : hx[h.length + 1]? = some (.lst nm)
  st_ : hx[h.length + 2]? = some (.lst st)
  ext : Ext h hx
  out : tnodes v = match vis st.reverse with
    | some r => if (nm ++ r.2).all isNm then ns ++ r.1 else []
    | none => []
  vs : vds h st = true
  vn : vds h nm = true
  len : ns.length + dszs st ≤ dsz v
  nml : nm.length = ns.length
theorem ScanI.bad {v d : D} {h hx : Hm} {ns nm st : List D} (I : ScanI v h hx ns nm (st ++ [d])) (e : parts d = none) : tnodes v = [] := by
  rw [I.out, List.reverse_append, List.reverse_cons, List.reverse_nil, List.nil_append, List.singleton_append, vis_cons, e]
variable {cf : Nat → CT} [NameF cf] [ScanF cf]
theorem scan_ok {m : Nat} {v : D} {h : Hm} {P : D → Hm → Prop} (hv : vd h v = true) (hz : dsz v ≤ 5000) (k : ∀ p h', Ext h h' → h.length ≤ p → h'[p]? = some (.lst (tnodes v)) → P (.ref p) h') : Ok (cf (m + 3) 104 [v] h) P := by
  rw [ScanF.h104 (cf := cf)]
  refine ok_body rfl ?_
  unfold b_104
  rw [w_seq, w_set]
  simp only [w_ifS, w_bin, w_app, w_call, w_cons, w_nil, w_tup, w_lst, w_if, w_tb, w_not, w_and, w_or, w_c, w_v, w_un, w_int, w_intB, w_addI, w_subI, w_lt, w_le, w_gt, w_ge, w_eqI, w_methL, startE, List.map_cons, List.map_nil, List.cons_append, List.nil_append, List.getElem?_cons_zero, List.getElem?_cons_succ, List.set_cons_zero, List.set_cons_succ, ok1_some, at0, at1, at2, at3, w_ixT, List.length_cons, List.length_nil, Nat.reduceAdd, Nat.reduceSub, Nat.zero_add, List.replicate_succ, List.replicate_zero]
  refine ⟨by simp [big], ?_⟩
  rw [w_seq, w_set]
  simp only [w_ifS, w_bin, w_app, w_call, w_cons, w_nil, w_tup, w_lst, w_if, w_tb, w_not, w_and, w_or, w_c, w_v, w_un, w_int, w_intB, w_addI, w_subI, w_lt, w_le, w_gt, w_ge, w_eqI, w_methL, startE, List.map_cons, List.map_nil, List.cons_append, List.nil_append, List.getElem?_cons_zero, List.getElem?_cons_succ, List.set_cons_zero, List.set_cons_succ, ok1_some, at0, at1, at2, at3, w_ixT, List.length_cons, List.length_nil, Nat.reduceAdd, Nat.reduceSub, Nat.zero_add, List.replicate_succ, List.replicate_zero]
  refine ⟨by simp [big], ?_⟩
  rw [w_seq, w_set]
  simp only [w_ifS, w_bin, w_app, w_call, w_cons, w_nil, w_tup, w_lst, w_if, w_tb, w_not, w_and, w_or, w_c, w_v, w_un, w_int, w_intB, w_addI, w_subI, w_lt, w_le, w_gt, w_ge, w_eqI, w_methL, startE, List.map_cons, List.map_nil, List.cons_append, List.nil_append, List.getElem?_cons_zero, List.getElem?_cons_succ, List.set_cons_zero, List.set_cons_succ, ok1_some, at0, at1, at2, at3, w_ixT, List.length_cons, List.length_nil, Nat.reduceAdd, Nat.reduceSub, Nat.zero_add, List.replicate_succ, List.replicate_zero]
  refine ⟨by simp [big], ?_⟩
  rw [w_seq]
  unfold mWhile
  have l1 : (h ++ [Ob.lst []]).length = h.length + 1 := by simp
  have l2 : (h ++ [Ob.lst []] ++ [Ob.lst []]).length = h.length + 2 := by simp
  rw [l2, l1]
  have I0 : ScanI v h (h ++ [Ob.lst []] ++ [Ob.lst []] ++ [Ob.lst [v]]) [] [] [v] := by
    refine ⟨app_old (app_old app_at), app_old ?_, ?_, (Ext.app.trans Ext.app).trans Ext.app, ?_, ?_, rfl, ?_, rfl⟩
    · rw [← l1]; exact app_at
    · rw [← l2]; exact app_at
    · rfl
    · simp only [vds, hv, Bool.and_true]
    · simp only [dszs, List.length_nil]; omega
  refine while_of (fun n e hx => ∃ (ns nm st : List D) (x4 x5 x6 x7 x8 x9 : Option D), e = [some v, some (.ref h.length), some (.ref (h.length + 1)), some (.ref (h.length + 2)), x4, x5, x6, x7, x8, x9] ∧ ScanI v h hx ns nm st ∧ dszs st = n) ?_ lots (dsz v) _ _ (by unfold lots; omega)
    ⟨[], [], [v], none, none, none, none, none, none, rfl, I0, by simp [dszs]⟩
  rintro n e hx ⟨ns, nm, st, x4, x5, x6, x7, x8, x9, rfl, I, sz⟩
  simp only [w_ifS, w_bin, w_app, w_call, w_cons, w_nil, w_tup, w_lst, w_if, w_tb, w_not, w_and, w_or, w_c, w_v, w_un, w_int, w_intB, w_addI, w_subI, w_lt, w_le, w_gt, w_ge, w_eqI, w_methL, startE, List.map_cons, List.map_nil, List.cons_append, List.nil_append, List.getElem?_cons_zero, List.getElem?_cons_succ, List.set_cons_zero, List.set_cons_succ, ok1_some, at0, at1, at2, at3, w_ixT, List.length_cons, List.length_nil, Nat.reduceAdd, Nat.reduceSub, Nat.zero_add, List.replicate_succ, List.replicate_zero, w_tru]
  refine ⟨_, tru_ref (items_l I.st_), ?_⟩
  rcases List.eq_nil_or_concat st with rfl | ⟨st', d, rfl⟩
  · simp only [List.isEmpty_nil, Bool.not_true, Bool.false_eq_true, if_false]
    have o := I.out
    rw [List.reverse_nil, vis_nil] at o
    simp only [List.append_nil] at o
    rw [w_seq]
    simp only [w_ifS, w_bin, w_app, w_call, w_cons, w_nil, w_tup, w_lst, w_if, w_tb, w_not, w_and, w_or, w_c, w_v, w_un, w_int, w_intB, w_addI, w_subI, w_lt, w_le, w_gt, w_ge, w_eqI, w_methL, startE, List.map_cons, List.map_nil, List.cons_append, List.nil_append, List.getElem?_cons_zero, List.getElem?_cons_succ, List.set_cons_zero, List.set_cons_succ, ok1_some, at0, at1, at2, at3, w_ixT, List.length_cons, List.length_nil, Nat.reduceAdd, Nat.reduceSub, Nat.zero_add, List.replicate_succ, List.replicate_zero, w_tru]
    have ln := I.len
    refine allnames_ok (vs := nm) (items_l I.nm_) (fun x hxm => ?_) (fun s hs => (vd_str (vds_mem I.vn hs)).2) (by have := I.nml; omega) ?_
    · have z := vd_ext I.ext (vds_mem I.vn hxm)
      exact vd_kd z
    refine ⟨_, rfl, ?_⟩
    cases q : nm.all isNm with
    | true =>
      rw [q] at o
      simp only [if_true, w_ifS, w_bin, w_app, w_call, w_cons, w_nil, w_tup, w_lst, w_if, w_tb, w_not, w_and, w_or, w_c, w_v, w_un, w_int, w_intB, w_addI, w_subI, w_lt, w_le, w_gt, w_ge, w_eqI, w_methL, startE, List.map_cons, List.map_nil, List.cons_append, List.nil_append, List.getElem?_cons_zero, List.getElem?_cons_succ, List.set_cons_zero, List.set_cons_succ, ok1_some, at0, at1, at2, at3, w_ixT, List.length_cons, List.length_nil, Nat.reduceAdd, Nat.reduceSub, Nat.zero_add, List.replicate_succ, List.replicate_zero]
      simp only [if_true] at o
      exact k _ _ I.ext (Nat.le_refl _) (by rw [o]; exact I.ns_)
    | false =>
      rw [q] at o
      simp only [Bool.false_eq_true, if_false] at o
      simp only [Bool.false_eq_true, if_false, w_pass, w_ret, w_lst, w_nil]
      refine ⟨by simp [big], ?_⟩
      refine k _ _ (I.ext.trans Ext.app) (I.ext.le) ?_
      rw [o]
      exact app_at
  · rw [List.concat_eq_append] at I sz ⊢
    have ne : (st' ++ [d]).isEmpty = false := by simp
    rw [ne]
    simp only [Bool.not_false, if_true]
    have vall := I.vs
    rw [vds_app] at vall
    simp only [vds, Bool.and_eq_true, Bool.and_true] at vall
    obtain ⟨vst, vdd⟩ := vall
    -- node = waiting.pop()
    rw [w_seq, w_set]
    simp only [w_ifS, w_bin, w_app, w_call, w_cons, w_nil, w_tup, w_lst, w_if, w_tb, w_not, w_and, w_or, w_c, w_v, w_un, w_int, w_intB, w_addI, w_subI, w_lt, w_le, w_gt, w_ge, w_eqI, w_methL, startE, List.map_cons, List.map_nil, List.cons_append, List.nil_append, List.getElem?_cons_zero, List.getElem?_cons_succ, List.set_cons_zero, List.set_cons_succ, ok1_some, at0, at1, at2, at3, w_ixT, List.length_cons, List.length_nil, Nat.reduceAdd, Nat.reduceSub, Nat.zero_add, List.replicate_succ, List.replicate_zero, w_methL0]
    refine ⟨isLst_of (items_l I.st_), ?_⟩
    rw [w_pop I.st_]
    have q1 : (hx.set (h.length + 2) (.lst st'))[h.length]? = some (.lst ns) := by rw [List.getElem?_set_ne (by omega)]; exact I.ns_
    have q2 : (hx.set (h.length + 2) (.lst st'))[h.length + 1]? = some (.lst nm) := by rw [List.getElem?_set_ne (by omega)]; exact I.nm_
    have q3 : (hx.set (h.length + 2) (.lst st'))[h.length + 2]? = some (.lst st') := List.getElem?_set_self (lt_of_at I.st_)
    have x1 : Ext h (hx.set (h.length + 2) (.lst st')) := I.ext.put (by omega)
    have ot := I.out
    have bad : parts d = none → tnodes v = [] := I.bad
    have ln := I.len
    have nml := I.nml
    have vnm := I.vn
    clear I
    generalize hx.set (h.length + 2) (.lst st') = h1 at q1 q2 q3 x1 ⊢
    have vd1 := vd_ext x1 vdd
    -- what comes of a wrong one
    have wrong : parts d = none → ∀ (e : En) (N : En → Hm → Prop), OkS (mRet (mLst mNil) e h1) N P := fun e0 e N => by
      simp only [w_ret, w_lst, w_nil]
      refine ⟨by simp [big], k _ _ (x1.trans Ext.app) x1.le ?_⟩
      rw [bad e0]
      exact app_at
    -- what comes of a right one
    have right : ∀ (name : D) (ch : List D) (h2 : Hm) (e5 e7 e8 e9 : Option D), parts d = some (name, ch) → h2[h.length]? = some (.lst ns) → h2[h.length + 1]? = some (.lst nm) → h2[h.length + 2]? = some (.lst (st' ++ ch.reverse)) → Ext h h2 →
        OkS (mSeq (mDrop (mMethL pAppend (mVar 1) (mCons (mVar 4) mNil))) (mDrop (mMethL pAppend (mVar 2) (mCons (mVar 6) mNil))) [some v, some (.ref h.length), some (.ref (h.length + 1)), some (.ref (h.length + 2)), some d, e5, some name, e7, e8, e9] h2)
          (fun e2 h2 => ∃ k', k' < n ∧ ∃ (ns nm st : List D) (x4 x5 x6 x7 x8 x9 : Option D), e2 = [some v, some (.ref h.length), some (.ref (h.length + 1)), some (.ref (h.length + 2)), x4, x5, x6, x7, x8, x9] ∧ ScanI v h h2 ns nm st ∧ dszs st = k') P := by
      intro name ch h2 e5 e7 e8 e9 ep r1 r2 r3 x2
      have ps := parts_sz ep
      have pv := parts_vd ep vdd
      rw [dszs_app] at sz ln
      simp only [dszs] at sz ln
      simp only [w_seq, w_ifS, w_set, w_ret, w_par, w_asg, w_sub, w_drop, w_pass, w_bin, w_app, w_call, w_cons, w_nil, w_tup, w_lst, w_if, w_tb, w_not, w_and, w_or, w_c, w_v, w_un, w_int, w_intB, w_addI, w_subI, w_lt, w_le, w_gt, w_ge, w_eqI, w_methL, startE, List.map_cons, List.map_nil, List.cons_append, List.nil_append, List.getElem?_cons_zero, List.getElem?_cons_succ, List.set_cons_zero, List.set_cons_succ, ok1_some, at0, at1, at2, at3, w_ixT, List.length_cons, List.length_nil, Nat.reduceAdd, Nat.reduceSub, Nat.zero_add, List.replicate_succ, List.replicate_zero]
      refine ⟨isLst_of (items_l r1), ?_⟩
      rw [w_append r1 (by unfold big; omega)]
      have r4 : (h2.set h.length (.lst (ns ++ [d])))[h.length + 1]? = some (.lst nm) := by rw [List.getElem?_set_ne (by omega)]; exact r2
      refine ⟨isLst_of (items_l r4), ?_⟩
      rw [w_append r4 (by unfold big; omega)]
      refine ⟨dszs (st' ++ ch.reverse), by rw [dszs_app, dszs_rev]; omega, ns ++ [d], nm ++ [name], st' ++ ch.reverse, _, _, _, _, _, _, rfl, ⟨?_, ?_, ?_, ((x2.put (Nat.le_refl _)).put (by omega)), ?_, ?_, ?_, ?_, by simp [nml]⟩, rfl⟩
      · rw [List.getElem?_set_ne (by omega), List.getElem?_set_self (lt_of_at r1)]
      · rw [List.getElem?_set_self (lt_of_at r4)]
      · rw [List.getElem?_set_ne (by omega), List.getElem?_set_ne (by omega)]; exact r3
      · rw [ot, List.reverse_append, List.reverse_append, List.reverse_reverse, List.reverse_cons, List.reverse_nil, List.nil_append, List.singleton_append, vis_cons, ep]
        dsimp only
        cases vis (ch ++ st'.reverse) with
        | none => rfl
        | some r => simp
      · rw [vds_app, vst, Bool.true_and]
        exact vds_all fun x hx => vds_mem pv.2 (List.mem_reverse.mp hx)
      · rw [vds_app, vnm, Bool.true_and]
        simp only [vds, pv.1, Bool.and_true]
      · rw [List.length_append, dszs_app, dszs_rev]
        simp only [List.length_cons, List.length_nil]
        omega
    -- isinstance(node, tuple)
    rw [w_seq]
    rw [w_ifS]
    simp only [w_ifS, w_bin, w_app, w_call, w_cons, w_nil, w_tup, w_lst, w_if, w_tb, w_not, w_and, w_or, w_c, w_v, w_un, w_int, w_intB, w_addI, w_subI, w_lt, w_le, w_gt, w_ge, w_eqI, w_methL, startE, List.map_cons, List.map_nil, List.cons_append, List.nil_append, List.getElem?_cons_zero, List.getElem?_cons_succ, List.set_cons_zero, List.set_cons_succ, ok1_some, at0, at1, at2, at3, w_ixT, List.length_cons, List.length_nil, Nat.reduceAdd, Nat.reduceSub, Nat.zero_add, List.replicate_succ, List.replicate_zero, w_tru]
    rw [istup vd1]
    refine ⟨_, rfl, ?_⟩
    cases d with
    | tup ds =>
      simp only [Bool.not_true, Bool.false_eq_true, if_false, w_pass]
      rw [w_seq, w_ifS]
      simp only [w_tb, w_bin, w_app, w_cons, w_nil, w_v, w_c, List.getElem?_cons_succ, List.getElem?_cons_zero, ok1_some, w_lenT, w_eqI]
      refine ⟨_, rfl, ?_⟩
      simp only [vd] at vd1 vdd
      rcases ds with _ | ⟨a, _ | ⟨b, _ | ⟨c, _ | ⟨d4, _ | ⟨d5, ds⟩⟩⟩⟩⟩
      · rw [if_neg (by simp)]
        rw [w_ifS]
        simp only [w_ifS, w_tb, w_bin, w_app, w_cons, w_nil, w_v, w_c, List.getElem?_cons_succ, List.getElem?_cons_zero, ok1_some, w_lenT, w_eqI]
        refine ⟨_, rfl, ?_⟩
        rw [if_neg (by simp)]
        refine ⟨_, rfl, ?_⟩
        rw [if_neg (by simp)]
        exact wrong (parts_bad (by simp)) _ _
      · rw [if_neg (by simp)]
        rw [w_ifS]
        simp only [w_ifS, w_tb, w_bin, w_app, w_cons, w_nil, w_v, w_c, List.getElem?_cons_succ, List.getElem?_cons_zero, ok1_some, w_lenT, w_eqI]
        refine ⟨_, rfl, ?_⟩
        rw [if_neg (by simp)]
        refine ⟨_, rfl, ?_⟩
        rw [if_neg (by simp)]
        exact wrong (parts_bad (by simp)) _ _
      · rw [if_pos (by simp)]
        simp only [vds, Bool.and_eq_true] at vd1
        rw [w_seq, w_asg, w_v]
        refine ⟨[some v, some (.ref h.length), some (.ref (h.length + 1)), some (.ref (h.length + 2)), some (.tup [a, b]), some a, some b, x7, x8, x9], rfl, ?_⟩
        rw [w_ifS]
        refine kind_ok (i := 5) (x := a) rfl vd1.1 (fun s es => ?_) fun ns_ => ?_
        · subst es
          simp only [w_tb, w_bin, w_v, w_c, List.getElem?_cons_succ, List.getElem?_cons_zero, ok1_some]
          rw [w_neS (vd_str vd1.1).1 (by rfl)]
          refine ⟨_, rfl, ?_⟩
          by_cases c : s = tUse
          · rw [if_neg (by simp only [c]; decide)]
            rw [w_pass]
            exact right b [] _ _ _ _ _ (by rw [parts2, if_pos c]) q1 q2 (by simpa using q3) x1
          · rw [if_pos (by rw [decide_eq_false (show ¬ s = [117, 115, 101] from c)]; rfl)]
            exact wrong (by rw [parts2, if_neg c]) _ _
        · rw [if_pos rfl]
          exact wrong (parts2n ns_) _ _
      · rw [if_neg (by simp)]
        rw [w_ifS]
        simp only [w_ifS, w_tb, w_bin, w_app, w_cons, w_nil, w_v, w_c, List.getElem?_cons_succ, List.getElem?_cons_zero, ok1_some, w_lenT, w_eqI]
        refine ⟨_, rfl, ?_⟩
        rw [if_pos (by simp)]
        simp only [vds, Bool.and_eq_true] at vd1
        rw [w_seq, w_asg, w_v]
        refine ⟨[some v, some (.ref h.length), some (.ref (h.length + 1)), some (.ref (h.length + 2)), some (.tup [a, b, c]), some a, some b, some c, x8, x9], rfl, ?_⟩
        rw [w_seq, w_ifS]
        refine kind_ok (i := 5) (x := a) rfl vd1.1 (fun s es => ?_) fun ns_ => ?_
        · subst es
          simp only [w_or, w_not, w_tru, w_un, w_tb, w_bin, w_v, w_c, List.getElem?_cons_succ, List.getElem?_cons_zero, ok1_some]
          rw [w_neS (vd_str vd1.1).1 (by rfl)]
          refine ⟨_, rfl, ?_⟩
          by_cases cs : s = tJoin
          · rw [if_neg (by simp only [cs]; decide), istup vd1.2.2.1]
            refine ⟨_, rfl, ?_⟩
            cases c with
            | tup ps =>
              rw [if_neg (by simp), w_pass]
              simp only [w_drop, w_methL, w_v, w_un, w_cons, w_nil, List.getElem?_cons_succ, List.getElem?_cons_zero, ok1_some]
              refine ⟨isLst_of (items_l q3), ?_⟩
              rw [w_revT]
              have ep : parts (.tup [.str s, b, .tup ps]) = some (b, ps) := by rw [parts3, if_pos cs]
              have pz := parts_sz ep
              rw [dszs_app] at ln
              simp only [dszs] at ln
              have la := len_dszs ps
              have lb := len_dszs st'
              rw [w_extT q3 (by rw [List.length_reverse]; unfold big; omega)]
              exact right b ps _ _ _ _ _ ep (by rw [List.getElem?_set_ne (by omega)]; exact q1) (by rw [List.getElem?_set_ne (by omega)]; exact q2) (List.getElem?_set_self (lt_of_at q3)) (x1.put (by omega))
            | _ => (rw [if_pos (by simp)]; exact wrong rfl _ _)
          · rw [if_pos (by rw [decide_eq_false (show ¬ s = [106, 111, 105, 110] from cs)]; rfl), if_pos trivial]
            exact wrong (parts3m cs) _ _
        · rw [if_pos rfl]
          exact wrong (parts3n ns_) _ _
      · rw [if_neg (by simp)]
        rw [w_ifS]
        simp only [w_ifS, w_tb, w_bin, w_app, w_cons, w_nil, w_v, w_c, List.getElem?_cons_succ, List.getElem?_cons_zero, ok1_some, w_lenT, w_eqI]
        refine ⟨_, rfl, ?_⟩
        rw [if_neg (by simp)]
        refine ⟨_, rfl, ?_⟩
        rw [if_pos (by simp)]
        simp only [vds, Bool.and_eq_true] at vd1
        rw [w_seq, w_asg, w_v]
        refine ⟨[some v, some (.ref h.length), some (.ref (h.length + 1)), some (.ref (h.length + 2)), some (.tup [a, b, c, d4]), some a, some b, x7, some c, some d4], rfl, ?_⟩
        rw [w_seq, w_ifS]
        refine kind_ok (i := 5) (x := a) rfl vd1.1 (fun s es => ?_) fun ns_ => ?_
        · subst es
          simp only [w_or, w_not, w_tru, w_un, w_tb, w_bin, w_v, w_c, List.getElem?_cons_succ, List.getElem?_cons_zero, ok1_some]
          rw [w_neS (vd_str vd1.1).1 (by rfl)]
          refine ⟨_, rfl, ?_⟩
          by_cases cs : s = tBind
          · rw [if_neg (by simp only [cs]; decide), istup vd1.2.2.1]
            refine ⟨_, rfl, ?_⟩
            cases c with
            | tup ps =>
              rw [if_neg (by simp), w_pass]
              simp only [w_seq, w_drop, w_methL, w_v, w_un, w_cons, w_nil, List.getElem?_cons_succ, List.getElem?_cons_zero, ok1_some]
              refine ⟨isLst_of (items_l q3), ?_⟩
              have ep : parts (.tup [.str s, b, .tup ps, d4]) = some (b, ps ++ [d4]) := by rw [parts4, if_pos cs]
              have pz := parts_sz ep
              rw [dszs_app] at ln pz
              simp only [dszs] at ln pz
              have la := len_dszs ps
              have lb := len_dszs st'
              rw [w_append q3 (by unfold big; omega)]
              have q4 : (h1.set (h.length + 2) (.lst (st' ++ [d4])))[h.length + 2]? = some (.lst (st' ++ [d4])) := List.getElem?_set_self (lt_of_at q3)
              refine ⟨isLst_of (items_l q4), ?_⟩
              rw [w_revT]
              rw [w_extT q4 (by rw [List.length_reverse, List.length_append, List.length_singleton]; unfold big; omega)]
              have y := right b (ps ++ [d4]) ((h1.set (h.length + 2) (.lst (st' ++ [d4]))).set (h.length + 2) (.lst (st' ++ [d4] ++ ps.reverse))) (some (.str s)) x7 (some (.tup ps)) (some d4) ep (by rw [List.getElem?_set_ne (by omega), List.getElem?_set_ne (by omega)]; exact q1) (by rw [List.getElem?_set_ne (by omega), List.getElem?_set_ne (by omega)]; exact q2) (by rw [List.getElem?_set_self (lt_of_at q4)]; simp) ((x1.put (by omega)).put (by omega))
              rw [w_seq] at y
              simp only [w_drop, w_methL, w_v, w_un, w_cons, w_nil, List.getElem?_cons_succ, List.getElem?_cons_zero, ok1_some] at y ⊢
              exact y
            | _ => (rw [if_pos (by simp)]; exact wrong rfl _ _)
          · rw [if_pos (by rw [decide_eq_false (show ¬ s = [98, 105, 110, 100] from cs)]; rfl), if_pos trivial]
            exact wrong (parts4m cs) _ _
        · rw [if_pos rfl]
          exact wrong (parts4n ns_) _ _
      · rw [if_neg (by simp; omega)]
        simp only [w_ifS, w_tb, w_bin, w_app, w_cons, w_nil, w_v, w_c, List.getElem?_cons_succ, List.getElem?_cons_zero, ok1_some, w_lenT, w_eqI]
        refine ⟨_, rfl, ?_⟩
        rw [if_neg (by simp; omega)]
        refine ⟨_, rfl, ?_⟩
        rw [if_neg (by simp; omega)]
        exact wrong (parts_bad (by simp)) _ _
    | _ => (simp only [Bool.not_false, if_true]; exact wrong rfl _ _)
end ND
end L2.Lv
end
section
set_option maxRecDepth 100000
set_option maxHeartbeats 2000000
set_option autoImplicit false
namespace L2.Lv
namespace ND
open PySem PyProof.Rows
/-! ### how long a shown value is, and of which signs -/
def Tx (L : Nat) (x : Str) : Prop := (∀ c ∈ x.cps.toList, c < 128) ∧ x.length ≤ L
theorem tx_app {a b : Nat} {x y : Str} (h1 : Tx a x) (h2 : Tx b y) : Tx (a + b) (x ++ y) := by
  refine ⟨fun c hc => ?_, by rw [strLen_append]; exact Nat.add_le_add h1.2 h2.2⟩
  have e : (x ++ y).cps.toList = x.cps.toList ++ y.cps.toList := by
    show (x.cps ++ y.cps).toList = _
    simp
  rw [e] at hc
  rcases List.mem_append.mp hc with h | h
  · exact h1.1 c h
  · exact h2.1 c h
theorem Tx.up {a b : Nat} {x : Str} (h : Tx a x) (l : a ≤ b) : Tx b x := ⟨h.1, Nat.le_trans h.2 l⟩
theorem rch_tab : ∀ c : Fin 128, ((Builtin.Str.reprChar 34 c.val).all fun d => decide (d < 128)) = true ∧ ((Builtin.Str.reprChar 39 c.val).all fun d => decide (d < 128)) = true := by decide +kernel
theorem rch_ok {q c : Nat} (hq : q = 34 ∨ q = 39) (hc : c < 128) : ∀ d ∈ Builtin.Str.reprChar q c, d < 128 := by
  have := rch_tab ⟨c, hc⟩
  intro d hd
  rcases hq with rfl | rfl
  · exact of_decide_eq_true (List.all_eq_true.mp this.1 d hd)
  · exact of_decide_eq_true (List.all_eq_true.mp this.2 d hd)
theorem foldl_asc (q : Nat) (hq : q = 34 ∨ q = 39) : ∀ (l : List Nat) (acc : Array Nat), (∀ c ∈ l, c < 128) → (∀ c ∈ acc.toList, c < 128) → ∀ c ∈ (l.foldl (fun out c => out ++ (Builtin.Str.reprChar q c).toArray) acc).toList, c < 128
  | [], acc, _, h => h
  | c :: l, acc, hl, h => by
    rw [List.foldl_cons]
    refine foldl_asc q hq l _ (fun d hd => hl d (List.mem_cons_of_mem _ hd)) fun d hd => ?_
    rw [Array.toList_append, List.mem_append] at hd
    rcases hd with hd | hd
    · exact h d hd
    · exact rch_ok hq (hl c List.mem_cons_self) d (by simpa using hd)
theorem quote_ok (x : Str) : reprQuote x = 34 ∨ reprQuote x = 39 := by
  unfold reprQuote
  split
  · exact .inl rfl
  · exact .inr rfl
theorem tx_repr {x : Str} (h : ∀ c ∈ x.cps.toList, c < 128) : Tx (10 * x.length + 2) (reprText x) := by
  refine ⟨fun c hc => ?_, PySem.StrLaws.reprText_len x fun c hc => Nat.lt_trans (h c hc) (by decide)⟩
  unfold reprText at hc
  have hc : c ∈ ((x.cps.foldl (fun out c => out ++ (Builtin.Str.reprChar (reprQuote x) c).toArray) #[reprQuote x]).push (reprQuote x)).toList := hc
  rw [Array.toList_push, List.mem_append, ← Array.foldl_toList] at hc
  rcases hc with hc | hc
  · refine foldl_asc _ (quote_ok x) _ _ h (fun d hd => ?_) c hc
    simp at hd
    rcases quote_ok x with e | e <;> rw [hd, e] <;> decide
  · simp at hc
    rcases quote_ok x with e | e <;> rw [hc, e] <;> decide
/-! ### data with short texts -/
mutual
def vaP : PyData → Bool
  | .none => true
  | .bool _ => true
  | .int i => decide (0 ≤ i) && decide (i < 10)
  | .str x => x.cps.toList.all fun c => decide (c < 128)
  | .list xs => vaPs xs
  | .tuple xs => vaPs xs
  | .dict kvs => vaKv kvs
def vaPs : List PyData → Bool
  | [] => true
  | x :: xs => vaP x && vaPs xs
def vaKv : List (PyData × PyData) → Bool
  | [] => true
  | (k, v) :: r => vaP k && vaP v && vaKv r
end
mutual
def lenP : PyData → Nat
  | .none => 4
  | .bool _ => 5
  | .int _ => 1
  | .str x => 10 * x.length + 2
  | .list xs => 3 + lenPs xs
  | .tuple xs => 3 + lenPs xs
  | .dict kvs => 2 + lenKv kvs
def lenPs : List PyData → Nat
  | [] => 0
  | x :: xs => lenP x + 2 + lenPs xs
def lenKv : List (PyData × PyData) → Nat
  | [] => 0
  | (k, v) :: r => lenP k + 2 + lenP v + 2 + lenKv r
end
theorem int_tab : ∀ i : Fin 10, Tx 1 ((toString (i.val : Int) : String) : Str) ∧ PyData.showable (.int (i.val : Int)) = true := by
  intro i
  refine ⟨⟨?_, ?_⟩, ?_⟩
  · revert i; decide +kernel
  · revert i; decide +kernel
  · simp only [PyData.showable]
    revert i; decide +kernel
theorem tx_c (s : String) (n : Nat) (h : ((s : Str).cps.toList.all fun c => decide (c < 128)) = true ∧ (s : Str).length ≤ n) : Tx n (s : Str) := ⟨fun c hc => of_decide_eq_true (List.all_eq_true.mp h.1 c hc), h.2⟩
inductive All2 {α β : Type} (R : α → β → Prop) : List α → List β → Prop
  | nil : All2 R [] []
  | cons {a : α} {b : β} {as : List α} {bs : List β} (h : R a b) (t : All2 R as bs) : All2 R (a :: as) (b :: bs)
theorem tx_join : ∀ {ts : List Str} {ls : List Nat}, All2 (fun l t => Tx l t) ls ts → Tx (ls.map (· + 2)).sum (Str.join ", " ts)
  | [], _, .nil => tx_c "" 0 (by decide)
  | [t], _, .cons h .nil => h.up (by simp)
  | t :: u :: ts, _, .cons (a := l) h (.cons (a := l2) h2 r) => by
    show Tx _ (t ++ ((", " : String) : Str) ++ Str.join ", " (u :: ts))
    refine (tx_app (tx_app h (tx_c ", " 2 (by decide))) (tx_join (ls := l2 :: _) (.cons h2 r))).up ?_
    simp only [List.map_cons, List.sum_cons]
    omega
mutual
theorem tx_shown : ∀ p : PyData, vaP p = true → Tx (lenP p) p.shown ∧ p.showable = true
  | .none, _ => ⟨by simp only [PyData.shown, lenP]; exact tx_c "None" 4 (by decide), by simp only [PyData.showable]⟩
  | .bool b, _ => ⟨by simp only [PyData.shown, lenP]; cases b; exact tx_c "False" 5 (by decide); exact tx_c "True" 5 (by decide), by simp only [PyData.showable]⟩
  | .int i, h => by
    simp only [vaP, Bool.and_eq_true, decide_eq_true_eq] at h
    have := int_tab ⟨i.toNat, by omega⟩
    have e : ((i.toNat : Nat) : Int) = i := Int.toNat_of_nonneg h.1
    simp only [e] at this
    simp only [PyData.shown, lenP]
    exact this
  | .str x, h => by
    simp only [PyData.shown, lenP, PyData.showable, and_true]
    simp only [vaP, List.all_eq_true, decide_eq_true_eq] at h
    exact tx_repr h
  | .list xs, h => by
    obtain ⟨ls, q, e, s⟩ := tx_all xs (by simpa only [vaP] using h)
    refine ⟨?_, by simpa only [PyData.showable] using s⟩
    rw [PyData.shown_list]
    simp only [lenP, ← e]
    exact (tx_app (tx_app (tx_c "[" 1 (by decide)) (tx_join q)) (tx_c "]" 1 (by decide))).up (by omega)
  | .tuple xs, h => by
    obtain ⟨ls, q, e, s⟩ := tx_all xs (by simpa only [vaP] using h)
    refine ⟨?_, by simpa only [PyData.showable] using s⟩
    rw [PyData.shown_tuple]
    simp only [lenP, ← e]
    refine (tx_app (tx_app (tx_c "(" 1 (by decide)) (tx_join q)) (b := 2) ?_).up (by omega)
    split
    · exact tx_c ",)" 2 (by decide)
    · exact tx_c ")" 2 (by decide)
  | .dict kvs, h => by
    obtain ⟨ls, q, e, s⟩ := tx_kvs kvs (by simpa only [vaP] using h)
    refine ⟨?_, by simpa only [PyData.showable] using s⟩
    rw [PyData.shown_dict]
    simp only [lenP, ← e]
    exact (tx_app (tx_app (tx_c "{" 1 (by decide)) (tx_join q)) (tx_c "}" 1 (by decide))).up (by omega)
theorem tx_all : ∀ xs : List PyData, vaPs xs = true → ∃ ls, All2 (fun l t => Tx l t) ls (PyData.shownAll xs) ∧ (ls.map (· + 2)).sum = lenPs xs ∧ PyData.showableAll xs = true
  | [], _ => ⟨[], by simp only [PyData.shownAll]; exact .nil, by simp [lenPs], by simp only [PyData.showableAll]⟩
  | x :: xs, h => by
    simp only [vaPs, Bool.and_eq_true] at h
    obtain ⟨q1, s1⟩ := tx_shown x h.1
    obtain ⟨ls, q2, e, s2⟩ := tx_all xs h.2
    exact ⟨lenP x :: ls, by simp only [PyData.shownAll]; exact .cons q1 q2, by simp only [List.map_cons, List.sum_cons, e, lenPs], by simp only [PyData.showableAll, s1, s2, Bool.and_self]⟩
theorem tx_kvs : ∀ xs : List (PyData × PyData), vaKv xs = true → ∃ ls, All2 (fun l t => Tx l t) ls (PyData.shownKv xs) ∧ (ls.map (· + 2)).sum = lenKv xs ∧ PyData.showableKv xs = true
  | [], _ => ⟨[], by simp only [PyData.shownKv]; exact .nil, by simp [lenKv], by simp only [PyData.showableKv]⟩
  | (k, v) :: xs, h => by
    simp only [vaKv, Bool.and_eq_true] at h
    obtain ⟨q1, s1⟩ := tx_shown k h.1.1
    obtain ⟨q2, s2⟩ := tx_shown v h.1.2
    obtain ⟨ls, q3, e, s3⟩ := tx_kvs xs h.2
    exact ⟨(lenP k + 2 + lenP v) :: ls, by simp only [PyData.shownKv]; exact .cons (tx_app (tx_app q1 (tx_c ": " 2 (by decide))) q2) q3, by simp only [List.map_cons, List.sum_cons, e, lenKv], by simp only [PyData.showableKv, s1, s2, s3, Bool.and_self]⟩
end
/-! ### what a value shows under a heap -/
def Sg (h : Hm) (k : Nat) (d : D) (p : PyData) : Prop := ∀ n, k ≤ n → okD n h d = true ∧ toP n h d = p
mutual
def hasDk (h : Hm) : D → Bool
  | .ref i => match h[i]? with
    | some (.dk _) => true
    | _ => false
  | .tup xs => hasDks h xs
  | .non => false
  | .bl _ => false
  | .int _ => false
  | .str _ => false
def hasDks (h : Hm) : List D → Bool
  | [] => false
  | x :: xs => hasDk h x || hasDks h xs
end
mutual
theorem dk_ok {h : Hm} : ∀ (d : D) (n : Nat), hasDk h d = true → okD n h d = false
  | _, 0, _ => rfl
  | .ref i, n + 1, e => by
    unfold hasDk at e
    unfold okD
    dsimp only
    split at e
    · rename_i q
      rw [q]
    · cases e
  | .tup xs, n + 1, e => by
    unfold okD
    exact dks_ok xs n e
  | .non, n + 1, e => by cases e
  | .bl _, n + 1, e => by cases e
  | .int _, n + 1, e => by cases e
  | .str _, n + 1, e => by cases e
theorem dks_ok {h : Hm} : ∀ (xs : List D) (n : Nat), hasDks h xs = true → xs.all (okD n h) = false
  | [], _, e => by cases e
  | x :: xs, n, e => by
    simp only [hasDks, Bool.or_eq_true] at e
    rw [List.all_cons]
    rcases e with e | e
    · rw [dk_ok x n e, Bool.false_and]
    · rw [dks_ok xs n e, Bool.and_false]
end
mutual
theorem hasDk_ext {h h' : Hm} (x : Ext h h') : ∀ {d : D}, hasDk h d = true → hasDk h' d = true
  | .ref i, e => by
    unfold hasDk at e ⊢
    split at e
    · rename_i q
      rw [x i _ q]
    · cases e
  | .tup xs, e => hasDks_ext x (xs := xs) e
  | .non, e => by cases e
  | .bl _, e => by cases e
  | .int _, e => by cases e
  | .str _, e => by cases e
theorem hasDks_ext {h h' : Hm} (x : Ext h h') : ∀ {xs : List D}, hasDks h xs = true → hasDks h' xs = true
  | [], e => by cases e
  | y :: xs, e => by
    simp only [hasDks, Bool.or_eq_true] at e ⊢
    rcases e with e | e
    · exact .inl (hasDk_ext x e)
    · exact .inr (hasDks_ext x e)
end
mutual
theorem toT_ext {h h' : Hm} (x : Ext h h') : ∀ {d : D} {p : PyData}, toT h d = some p → toT h' d = some p
  | .ref i, p, e => by
    unfold toT at e ⊢
    split at e
    · rename_i q
      rw [x i _ q]
      exact e
    · cases e
  | .tup xs, p, e => by
    unfold toT at e ⊢
    cases q : toTs h xs with
    | none => rw [q] at e; cases e
    | some ps => rw [toTs_ext x q]; rw [q] at e; exact e
  | .non, _, e => e
  | .bl _, _, e => e
  | .int _, _, e => e
  | .str _, _, e => e
theorem toTs_ext {h h' : Hm} (x : Ext h h') : ∀ {xs : List D} {ps : List PyData}, toTs h xs = some ps → toTs h' xs = some ps
  | [], _, e => e
  | y :: xs, ps, e => by
    unfold toTs at e ⊢
    cases q1 : toT h y with
    | none => simp only [q1] at e; cases e
    | some p =>
      cases q2 : toTs h xs with
      | none => simp only [q1, q2] at e; cases e
      | some p2 =>
        rw [toT_ext x q1, toTs_ext x q2]
        simp only [q1, q2] at e
        exact e
end
theorem okD_ext {h h' : Hm} (x : Ext h h') : ∀ (n : Nat) (d : D), okD n h d = true → okD n h' d = true ∧ toP n h' d = toP n h d
  | 0, _, e => by cases e
  | n + 1, d, e => by
    have key : ∀ xs : List D, xs.all (okD n h) = true → xs.all (okD n h') = true ∧ xs.map (toP n h') = xs.map (toP n h) := fun xs w => by
      refine ⟨List.all_eq_true.mpr fun y hy => (okD_ext x n y (List.all_eq_true.mp w y hy)).1, List.map_congr_left fun y hy => (okD_ext x n y (List.all_eq_true.mp w y hy)).2⟩
    cases d with
    | tup xs =>
      have k := key xs e
      exact ⟨k.1, by unfold toP; dsimp only; rw [k.2]⟩
    | ref i =>
      obtain ⟨xs, q, w⟩ := okD_ref e
      have k := key xs w
      have q' := x.items q
      refine ⟨?_, by unfold toP; dsimp only; rw [q, q']; dsimp only; rw [k.2]⟩
      unfold itemsOf at q'
      unfold okD
      dsimp only
      split at q'
      · rename_i z; cases q'; exact k.1
      · rename_i z; cases q'; exact k.1
      · cases q'
    | _ => exact ⟨e, rfl⟩
theorem Sg.ext {h h' : Hm} (x : Ext h h') {k : Nat} {d : D} {p : PyData} (s : Sg h k d p) : Sg h' k d p := fun n l => by
  have a := s n l
  have b := okD_ext x n d a.1
  exact ⟨b.1, b.2.trans a.2⟩
def Sgs (h : Hm) (k : Nat) : List D → List PyData → Prop
  | [], [] => True
  | d :: ds, p :: ps => Sg h k d p ∧ Sgs h k ds ps
  | _, _ => False
theorem sgs_at {h : Hm} {k : Nat} : ∀ {ds : List D} {ps : List PyData}, Sgs h k ds ps → ∀ n, k ≤ n → ds.all (okD n h) = true ∧ ds.map (toP n h) = ps
  | [], [], _, _, _ => ⟨rfl, rfl⟩
  | d :: ds, p :: ps, s, n, l => by
    have a := s.1 n l
    have b := sgs_at s.2 n l
    simp only [List.all_cons, List.map_cons, a.1, a.2, b.1, b.2, Bool.and_self, and_self]
  | [], _ :: _, s, _, _ => s.elim
  | _ :: _, [], s, _, _ => s.elim
theorem Sg.up {h : Hm} {k k' : Nat} {d : D} {p : PyData} (s : Sg h k d p) (l : k ≤ k') : Sg h k' d p := fun n q => s n (Nat.le_trans l q)
theorem sg_tup {h : Hm} {k : Nat} {ds : List D} {ps : List PyData} (s : Sgs h k ds ps) : Sg h (k + 1) (.tup ds) (.tuple ps) := fun n l => by
  obtain ⟨m, rfl⟩ : ∃ m, n = m + 1 := ⟨n - 1, by omega⟩
  have a := sgs_at s m (by omega)
  exact ⟨a.1, by unfold toP; dsimp only; rw [a.2]⟩
theorem sg_lst {h : Hm} {k i : Nat} {ds : List D} {ps : List PyData} (q : h[i]? = some (.lst ds)) (s : Sgs h k ds ps) : Sg h (k + 1) (.ref i) (.list ps) := fun n l => by
  obtain ⟨m, rfl⟩ : ∃ m, n = m + 1 := ⟨n - 1, by omega⟩
  have a := sgs_at s m (by omega)
  refine ⟨by unfold okD; dsimp only; rw [q]; exact a.1, ?_⟩
  unfold toP itemsOf
  dsimp only
  rw [q]
  dsimp only
  rw [a.2]
theorem sg_str {h : Hm} {s : List Nat} (c : (s.all fun c => decide (c < 1114112)) = true) : Sg h 1 (.str s) (.str ⟨s.toArray⟩) := fun n l => by
  obtain ⟨m, rfl⟩ : ∃ m, n = m + 1 := ⟨n - 1, by omega⟩
  exact ⟨c, rfl⟩
theorem sg_non {h : Hm} : Sg h 1 .non .none := fun n l => by
  obtain ⟨m, rfl⟩ : ∃ m, n = m + 1 := ⟨n - 1, by omega⟩
  exact ⟨rfl, rfl⟩
theorem sg_int {h : Hm} {i : Int} : Sg h 1 (.int i) (.int i) := fun n l => by
  obtain ⟨m, rfl⟩ : ∃ m, n = m + 1 := ⟨n - 1, by omega⟩
  exact ⟨rfl, rfl⟩
structure Shown (h : Hm) (K L : Nat) (d : D) (p : PyData) : Prop where
  va : vaP p = true
  ln : lenP p ≤ L
  dp : p.depth ≤ K
  at_ : Sg h K d p ∨ (hasDk h d = true ∧ toT h d = some p)
theorem Shown.ext {h h' : Hm} (x : Ext h h') {K L : Nat} {d : D} {p : PyData} (s : Shown h K L d p) : Shown h' K L d p :=
  ⟨s.va, s.ln, s.dp, s.at_.elim (fun a => .inl (a.ext x)) fun a => .inr ⟨hasDk_ext x a.1, toT_ext x a.2⟩⟩
def shT (p : PyData) : List Nat := p.shown.cps.toList
theorem shT_ok {p : PyData} (v : vaP p = true) : ((shT p).all fun c => decide (c < 1114112)) = true := List.all_eq_true.mpr fun c hc => decide_eq_true (Nat.lt_trans ((tx_shown p v).1.1 c hc) (by decide))
theorem Shown.reprA {h : Hm} {K L : Nat} {d : D} {p : PyData} (s : Shown h K L d p) (k : K ≤ deep) (l : L ≤ big) : L2.Lv.reprA h d = some (shT p) := by
  obtain ⟨t1, t2⟩ := tx_shown p s.va
  have l2 : p.shown.length ≤ big := Nat.le_trans t1.2 (Nat.le_trans s.ln l)
  unfold L2.Lv.reprA
  rcases s.at_ with a | ⟨a, b⟩
  · have c := a deep k
    unfold reprD
    rw [c.2, if_pos ⟨c.1, t2, l2⟩]
    rfl
  · have c : reprD h d = none := by
      unfold reprD
      rw [dk_ok d deep a, if_neg (by simp)]
    rw [c]
    dsimp only
    unfold reprT
    rw [b]
    dsimp only
    rw [if_pos ⟨t2, Nat.le_trans s.dp k, l2⟩]
    rfl
end ND
end L2.Lv
end
section
set_option maxRecDepth 100000
set_option maxHeartbeats 2000000
set_option autoImplicit false
namespace L2.Lv
namespace ND
open PySem
/-! ### with what may be raised -/
def OkE {α : Type} (x : Re α) (P : α → Hm → Prop) (E : Nat → D → Hm → Prop) : Prop := match x with
  | .ok a h => P a h
  | .ex c d h => E c d h
  | .no => False
def OkW (x : Rs) (N : En → Hm → Prop) (R : D → Hm → Prop) (E : Nat → D → Hm → Prop) : Prop := match x with
  | .nx e h => N e h
  | .rt d h => R d h
  | .ex c d _ h => E c d h
  | _ => False
section
variable {P : D → Hm → Prop} {N : En → Hm → Prop} {R : D → Hm → Prop} {E : Nat → D → Hm → Prop} {e : En} {h : Hm}
theorem OkS.ww {x : Rs} (o : OkS x N R) : OkW x N R E := by
  cases x with
  | nx e h => exact o
  | rt d h => exact o
  | _ => exact o.elim
theorem ww_seq {a b : MS} : OkW (mSeq a b e h) N R E ↔ OkW (a e h) (fun e' h' => OkW (b e' h') N R E) R E := by
  unfold mSeq
  cases a e h <;> exact Iff.rfl
theorem ww_set {i : Nat} {a : ME} (o : Ok (a e h) fun d h1 => N (e.set i (some d)) h1) : OkW (mSet i a e h) N R E := by
  unfold mSet
  revert o
  cases a e h <;> intro o <;> first | exact o | exact o.elim
theorem ww_if {t : MT} {a b : MS} (o : Ok (t e h) fun c h1 => if c = true then OkW (a e h1) N R E else OkW (b e h1) N R E) : OkW (mIfS t a b e h) N R E := by
  unfold mIfS
  revert o
  cases t e h with
  | ok c h1 =>
    intro o
    have o : if c = true then OkW (a e h1) N R E else OkW (b e h1) N R E := o
    show OkW (if c = true then a e h1 else b e h1) N R E
    split
    · rename_i z; rw [if_pos z] at o; exact o
    · rename_i z; rw [if_neg z] at o; exact o
  | _ => intro o; exact o.elim
theorem ww_raise {c : Nat} {a : ME} (o : Ok (a e h) fun d h1 => E c d h1) : OkW (mRaise c a e h) N R E := by
  unfold mRaise
  revert o
  cases a e h <;> intro o <;> first | exact o | exact o.elim
theorem ww_pass (o : N e h) : OkW (mPass e h) N R E := o
theorem ww_ret {a : ME} (o : Ok (a e h) R) : OkW (mRet a e h) N R E := by
  unfold mRet
  revert o
  cases a e h <;> intro o <;> first | exact o | exact o.elim
theorem ww_putF {cs : List Nat} {i n c : Nat} {a v : ME} {fs : List (Nat × D)} (o : Ok (v e h) fun d h1 => Ok (a e h1) fun x h2 => x = .ref n ∧ h2[n]? = some (.ins c fs) ∧ cs.contains c = true ∧ fs.length < 900 ∧ N e (h2.set n (.ins c (putD i d fs)))) : OkW (mPutF cs i a v e h) N R E := by
  unfold mPutF
  revert o
  cases v e h with
  | ok d h1 =>
    intro o
    have o : Ok (a e h1) fun x h2 => x = .ref n ∧ h2[n]? = some (.ins c fs) ∧ cs.contains c = true ∧ fs.length < 900 ∧ N e (h2.set n (.ins c (putD i d fs))) := o
    show OkW ((a e h1).bs e _) N R E
    revert o
    cases a e h1 with
    | ok x h2 =>
      intro o
      obtain ⟨rfl, q, c1, c2, o⟩ := o
      show OkW (match h2[n]? with | some (.ins c fs) => _ | _ => _) N R E
      rw [q]
      dsimp only
      rw [if_pos ⟨c1, c2⟩]
      exact o
    | _ => intro o; exact o.elim
  | _ => intro o; exact o.elim
theorem oe_body {ar n : Nat} {b : MS} {ds : List D} (hl : ds.length = ar) (o : OkW (b (startE n ds) h) (fun _ h' => P .non h') P E) : OkE (mBody ar n b ds h) P E := by
  unfold mBody
  rw [if_pos hl]
  unfold mRun
  revert o
  cases b (startE n ds) h <;> intro o <;> exact o
theorem oe_call {p : List D → Hm → Re D} {a : MA} (o : Ok (a e h) fun ds h1 => OkE (p ds h1) P E) : OkE (mCall p a e h) P E := by
  unfold mCall mApp
  revert o
  cases a e h <;> intro o <;> first | exact o | exact o.elim
theorem oe_make {c : Nat} {m : List D → Hm → Re D} {a : MA} (o : Ok (a e h) fun ds h1 => OkE (m (.ref h1.length :: ds) (h1 ++ [.ins c []])) (fun d h2 => d = .non ∧ P (.ref h1.length) h2) E) : OkE (mMake c m a e h) P E := by
  unfold mMake
  revert o
  cases a e h with
  | ok ds h1 =>
    intro o
    have o : OkE (m (.ref h1.length :: ds) (h1 ++ [.ins c []])) (fun d h2 => d = .non ∧ P (.ref h1.length) h2) E := o
    show OkE ((m (.ref h1.length :: ds) (h1 ++ [.ins c []])).bind _) P E
    revert o
    cases m (.ref h1.length :: ds) (h1 ++ [.ins c []]) with
    | ok d h2 =>
      rintro ⟨rfl, o⟩
      exact o
    | ex c d h2 => exact fun o => o
    | no => exact fun o => o
  | _ => intro o; exact o.elim
theorem w_told {cl : ClM} {kk : D → Hm → Re D} {lm : ME} (o : OkE (lm e h) (fun d h' => Ok (kk d h') P) (fun c d h' => ∃ M, findM cl c = some M ∧ Ok (M h' d) P)) : Ok (mToldN cl kk lm e h) P := by
  unfold mToldN
  revert o
  cases lm e h with
  | ok d h' => exact fun o => o
  | ex c d h' =>
    rintro ⟨M, e1, o⟩
    dsimp only
    rw [e1]
    dsimp only
    revert o
    cases M h' d <;> exact fun o => o
  | no => exact fun o => o
theorem w_isN {neg : Bool} {a : D} : Ok (pIs neg a .non h) P ↔ P (.bl (if neg then !isNon a else isNon a)) h := Iff.rfl
theorem w_isB {neg x y : Bool} : Ok (pIs neg (.bl x) (.bl y) h) P ↔ P (.bl (if neg then !(x == y) else x == y)) h := Iff.rfl
end
/-! ### a tree, as the scan meets it -/
mutual
def nms : Tr → List D
  | .use n => [.str n]
  | .join l ts => .str l :: nmss ts
  | .bind n ah b => .str n :: (nmss ah ++ nms b)
def nmss : List Tr → List D
  | [] => []
  | t :: ts => nms t ++ nmss ts
end
theorem both_one {a : List D × List D} : both (some a) (some ([], [])) = some a := by simp [both]
mutual
theorem vis_tree : ∀ t : Tr, vis [toD t] = some (toDs (nod t), nms t)
  | .use n => by
    rw [vis_cons]
    show (match (some (D.str n, ([] : List D)) : Option (D × List D)) with | none => none | some q => _) = _
    rfl
  | .join l ts => by
    rw [vis_cons]
    have e : parts (toD (.join l ts)) = some (.str l, toDs ts) := by
      show (if tJoin = tJoin then some (D.str l, toDs ts) else none) = _
      rw [if_pos rfl]
    rw [e]
    dsimp only
    rw [List.append_nil, vis_trees ts]
    rfl
  | .bind n ah b => by
    rw [vis_cons]
    have e : parts (toD (.bind n ah b)) = some (.str n, toDs ah ++ [toD b]) := by
      show (if tBind = tBind then some (D.str n, toDs ah ++ [toD b]) else none) = _
      rw [if_pos rfl]
    rw [e]
    dsimp only
    rw [List.append_nil, vis_app _ _ _ (Nat.le_refl _), vis_trees ah, vis_tree b]
    simp only [both, nod, nms, toDs, toDs_app]
theorem vis_trees : ∀ ts : List Tr, vis (toDs ts) = some (toDs (nods ts), nmss ts)
  | [] => rfl
  | t :: ts => by
    rw [toDs, vis_two, vis_tree t, vis_trees ts]
    simp only [both, nods, nmss, toDs_app]
end
theorem isNm_good {n : List Nat} (g : goodW n = true) : isNm (.str n) = true := by
  unfold goodW at g
  simp only [Bool.and_eq_true] at g
  have l : lets n = true := by
    rw [← lets_is n, g.1.1.1, g.1.1.2, g.1.2]
    rfl
  unfold lets at l
  simp only [Bool.and_eq_true, decide_eq_true_eq] at l g
  simp only [isNm, Bool.and_eq_true, decide_eq_true_eq]
  refine ⟨?_, g.2, l.2⟩
  cases n with
  | nil => simp at l
  | cons a n => simp
mutual
theorem nms_ok : ∀ {t : Tr}, okT t → (nms t).all isNm = true
  | .use n, g => by simp only [nms, List.all_cons, List.all_nil, isNm_good g, Bool.and_self]
  | .join l ts, g => by simp only [nms, List.all_cons, isNm_good g.1, nmss_ok g.2, Bool.and_self]
  | .bind n ah b, g => by simp only [nms, List.all_cons, List.all_append, isNm_good g.1, nmss_ok g.2.1, nms_ok g.2.2, Bool.and_self]
theorem nmss_ok : ∀ {ts : List Tr}, okTs ts → (nmss ts).all isNm = true
  | [], _ => rfl
  | t :: ts, g => by simp only [nmss, List.all_append, nms_ok g.1, nmss_ok g.2, Bool.and_self]
end
theorem tnodes_tree {t : Tr} (g : okT t) : tnodes (toD t) = toDs (nod t) := by
  unfold tnodes
  rw [vis_tree]
  dsimp only
  rw [nms_ok g, if_pos rfl]
mutual
theorem dsz_tree : ∀ t : Tr, dsz (toD t) ≤ 4 * siz t
  | .use n => by simp [toD, dsz, dszs, siz]
  | .join l ts => by
    have := dszs_trees ts
    simp only [toD, dsz, dszs, siz]; omega
  | .bind n ah b => by
    have := dszs_trees ah
    have := dsz_tree b
    simp only [toD, dsz, dszs, siz]; omega
theorem dszs_trees : ∀ ts : List Tr, dszs (toDs ts) ≤ 4 * sizs ts
  | [] => Nat.le_refl _
  | t :: ts => by
    have := dszs_trees ts
    have := dsz_tree t
    simp only [toDs, dszs, sizs]; omega
end
theorem goodW_str {n : List Nat} (g : goodW n = true) : (n.all fun c => decide (c < 128)) = true ∧ n.length ≤ 8 := by
  unfold goodW at g
  simp only [Bool.and_eq_true, decide_eq_true_eq] at g
  refine ⟨?_, g.2⟩
  have a := g.1.1.1
  unfold Txt.isascii at a
  simpa using a
theorem asc_up {n : List Nat} (g : (n.all fun c => decide (c < 128)) = true) : (n.all fun c => decide (c < 1114112)) = true := List.all_eq_true.mpr fun c hc => decide_eq_true (Nat.lt_trans (of_decide_eq_true (List.all_eq_true.mp g c hc)) (by decide))
theorem vd_asc {h : Hm} {n : List Nat} (g : (n.all fun c => decide (c < 128)) = true) (l : n.length ≤ 1000) : vd h (.str n) = true := by
  simp only [vd, asc_up g, Bool.true_and]
  exact decide_eq_true (by unfold big; omega)
theorem vd_gw {h : Hm} {n : List Nat} (g : goodW n = true) : vd h (.str n) = true := vd_asc (goodW_str g).1 (by have := (goodW_str g).2; omega)
mutual
theorem vd_tree {h : Hm} : ∀ {t : Tr}, okT t → vd h (toD t) = true
  | .use n, g => by
    show vds h [D.str tUse, .str n] = true
    have h3 := vd_gw (h := h) (n := n) g
    have h4 := vd_asc (h := h) (n := tUse) (by decide) (by decide)
    simp only [vds, h3, h4, Bool.and_self]
  | .join l ts, g => by
    show vds h [D.str tJoin, .str l, .tup (toDs ts)] = true
    have h2 := vds_tree (h := h) g.2
    have h3 := vd_gw (h := h) g.1
    have h4 := vd_asc (h := h) (n := tJoin) (by decide) (by decide)
    have h5 : vd h (.tup (toDs ts)) = true := h2
    simp only [vds, h3, h4, h5, Bool.and_self]
  | .bind n ah b, g => by
    have h1 := vd_tree (h := h) g.2.2
    have h2 := vds_tree (h := h) g.2.1
    have h3 := vd_gw (h := h) g.1
    have h4 := vd_asc (h := h) (n := tBind) (by decide) (by decide)
    show vds h [D.str tBind, .str n, .tup (toDs ah), toD b] = true
    have h5 : vd h (.tup (toDs ah)) = true := h2
    simp only [vds, h1, h3, h4, h5, Bool.and_self]
theorem vds_tree {h : Hm} : ∀ {ts : List Tr}, okTs ts → vds h (toDs ts) = true
  | [], _ => rfl
  | t :: ts, g => by simp only [toDs, vds, vd_tree g.1, vds_tree g.2, Bool.and_self]
end
/-! ### the limits -/
def b_105 (c : CT) : MS :=
  (mSeq (mIfS (mTb (mBin pGt (mApp pLen (mCons (mVar 0) mNil)) (mC (.int 400)))) (mRet (mC (.int 400))) mPass)
  (mSeq (mIfS (mAndT (mTb (mBin pGt (mApp pLen (mCons (mVar 0) mNil)) (mC (.int 60)))) (mTb (mBin pGt (mApp pLen (mCons (mCall (c 16) (mCons (mC (.str [98, 105, 110, 100])) (mCons (mVar 0) mNil))) mNil)) (mC (.int 60))))) (mRet (mC (.int 60))) mPass)
  (mSeq (mIfS (mAndT (mTb (mBin pGt (mApp pLen (mCons (mVar 0) mNil)) (mC (.int 100)))) (mTb (mBin pGt (mCall (c 17) (mCons (mBin pIdx (mVar 0) (mC (.int 0))) mNil)) (mC (.int 100))))) (mRet (mC (.int 100))) mPass)
  (mRet (mC .non)))))
class LimF (cf : Nat → CT) : Prop where
  h105 : ∀ m, cf (m + 1) 105 = mBody 1 1 (b_105 (cf m))
theorem nums_cnt : ∀ (i : Nat) (ts : List Tr), (nums tBind i ts).length = (ts.filter fun t => decide (tag t = tBind)).length
  | _, [] => rfl
  | i, t :: ts => by
    have ih := nums_cnt (i + 1) ts
    unfold nums
    rw [List.filter_cons]
    split <;> rename_i c <;> simp [c, ih]
def cntB (ts : List Tr) : Nat := (ts.filter fun t => decide (tag t = tBind)).length
theorem cntB_app (a b : List Tr) : cntB (a ++ b) = cntB a + cntB b := by unfold cntB; rw [List.filter_append, List.length_append]
mutual
theorem cnt_nod : ∀ t : Tr, cntB (nod t) = bnd t
  | .use n => rfl
  | .join l ts => by
    have e : nod (.join l ts) = .join l ts :: nods ts := nod_below _
    rw [e, show (Tr.join l ts :: nods ts) = [Tr.join l ts] ++ nods ts from rfl, cntB_app, cnt_nods ts]
    show 0 + _ = bnds ts
    omega
  | .bind n ah b => by
    have e : nod (.bind n ah b) = .bind n ah b :: nods (ah ++ [b]) := nod_below _
    rw [e, show (Tr.bind n ah b :: nods (ah ++ [b])) = [Tr.bind n ah b] ++ nods (ah ++ [b]) from rfl, cntB_app, nods_app, cntB_app, cnt_nods ah]
    have : nods [b] = nod b := by simp [nods]
    rw [this, cnt_nod b]
    show 1 + _ = 1 + bnds ah + bnd b
    omega
theorem cnt_nods : ∀ ts : List Tr, cntB (nods ts) = bnds ts
  | [] => rfl
  | t :: ts => by
    rw [nods, cntB_app, cnt_nod t, cnt_nods ts]
    rfl
end
def limB (t : Tr) : Option Int := if 400 < siz t then some 400 else if 60 < bnd t then some 60 else if 100 < dep t then some 100 else none
def limD : Option Int → D
  | some i => .int i
  | none => .non
mutual
theorem bnd_le : ∀ t : Tr, bnd t ≤ siz t
  | .use _ => by simp [bnd]
  | .join _ ts => by have := bnds_le ts; simp only [bnd, siz]; omega
  | .bind _ ah b => by have := bnds_le ah; have := bnd_le b; simp only [bnd, siz]; omega
theorem bnds_le : ∀ ts : List Tr, bnds ts ≤ sizs ts
  | [] => Nat.le_refl _
  | t :: ts => by have := bnds_le ts; have := bnd_le t; simp only [bnds, sizs]; omega
end
section
variable {cf : Nat → CT} [TermF cf] [LimF cf]
theorem lim_ok {m p : Nat} {t : Tr} {h : Hm} {P : D → Hm → Prop} (it : itemsOf h p = some (toDs (nod t))) (hz : siz t ≤ 1000) (k : ∀ h' : Hm, Ext h h' → P (limD (limB t)) h') : Ok (cf (m + 4) 105 [.ref p] h) P := by
  rw [LimF.h105 (cf := cf)]
  refine ok_body rfl ?_
  unfold b_105
  have ln : (toDs (nod t)).length = siz t := by rw [toDs_len, nod_len]
  rw [w_seq, w_ifS]
  simp only [w_ifS, w_bin, w_app, w_call, w_cons, w_nil, w_tup, w_lst, w_if, w_tb, w_not, w_and, w_or, w_c, w_v, w_un, w_int, w_intB, w_addI, w_subI, w_lt, w_le, w_gt, w_ge, w_eqI, w_methL, startE, List.map_cons, List.map_nil, List.cons_append, List.nil_append, List.getElem?_cons_zero, List.getElem?_cons_succ, List.set_cons_zero, List.set_cons_succ, ok1_some, at0, at1, at2, at3, w_ixT, List.length_cons, List.length_nil, Nat.reduceAdd, Nat.reduceSub, Nat.zero_add, List.replicate_succ, List.replicate_zero, w_lenL it, ln]
  refine ⟨_, rfl, ?_⟩
  unfold limB at k
  by_cases c1 : 400 < siz t
  · have c1' : (400 : Int) < (siz t : Nat) := by omega
    rw [if_pos c1] at k
    simp only [decide_eq_true c1', if_true, w_ret, w_c]
    exact k h (Ext.refl)
  · have c1' : ¬ (400 : Int) < (siz t : Nat) := by omega
    rw [if_neg c1] at k
    simp only [decide_eq_false c1', Bool.false_eq_true, if_false, w_pass]
    have third : ∀ h1 : Hm, Ext h h1 → ¬ 60 < bnd t → OkS (mSeq (mIfS (mAndT (mTb (mBin pGt (mApp pLen (mCons (mVar 0) mNil)) (mC (.int 100)))) (mTb (mBin pGt (mCall (cf (m + 3) 17) (mCons (mBin pIdx (mVar 0) (mC (.int 0))) mNil)) (mC (.int 100))))) (mRet (mC (.int 100))) mPass) (mRet (mC .non)) [some (.ref p)] h1) (fun _ h' => P .non h') P := fun h1 x nb => by
      rw [if_neg nb] at k
      rw [w_seq, w_ifS]
      have it1 := x.items it
      simp only [w_and, w_tb, w_bin, w_app, w_cons, w_nil, w_v, w_c, List.getElem?_cons_zero, ok1_some, w_lenL it1, ln, w_gt]
      refine ⟨_, rfl, ?_⟩
      by_cases c3 : (100 : Int) < (siz t : Nat)
      · simp only [decide_eq_true c3, if_true, w_call, w_cons, w_bin, w_v, w_c, w_nil, List.getElem?_cons_zero, ok1_some]
        rw [w_ixL it1]
        refine ⟨toD t, by rw [nod_below]; rfl, ?_⟩
        refine depth_ok hz fun h2 x2 => ?_
        rw [w_gt]
        refine ⟨_, rfl, ?_⟩
        by_cases c4 : 100 < dep t
        · have c4' : (100 : Int) < (dep t : Nat) := by omega
          rw [if_pos c4] at k
          simp only [decide_eq_true c4', if_true, w_ret, w_c]
          exact k _ (x.trans x2)
        · have c4' : ¬ (100 : Int) < (dep t : Nat) := by omega
          rw [if_neg c4] at k
          simp only [decide_eq_false c4', Bool.false_eq_true, if_false, w_ret, w_c, w_pass]
          exact k _ (x.trans x2)
      · have := dep_le t
        rw [if_neg (by omega)] at k
        simp only [decide_eq_false c3, Bool.false_eq_true, if_false, w_ret, w_c, w_pass]
        exact k _ x
    rw [w_seq, w_ifS]
    simp only [w_ifS, w_bin, w_app, w_call, w_cons, w_nil, w_tup, w_lst, w_if, w_tb, w_not, w_and, w_or, w_c, w_v, w_un, w_int, w_intB, w_addI, w_subI, w_lt, w_le, w_gt, w_ge, w_eqI, w_methL, startE, List.map_cons, List.map_nil, List.cons_append, List.nil_append, List.getElem?_cons_zero, List.getElem?_cons_succ, List.set_cons_zero, List.set_cons_succ, ok1_some, at0, at1, at2, at3, w_ixT, List.length_cons, List.length_nil, Nat.reduceAdd, Nat.reduceSub, Nat.zero_add, List.replicate_succ, List.replicate_zero, w_lenL it, ln]
    refine ⟨_, rfl, ?_⟩
    by_cases c2 : (60 : Int) < (siz t : Nat)
    · simp only [decide_eq_true c2, if_true]
      refine numbers_ok (kd := tBind) it (by rw [nod_len]; exact hz) (by decide) fun q h1 e x _ => ?_
      have lb : (nums tBind 0 (nod t)).length = bnd t := by rw [nums_cnt]; exact cnt_nod t
      simp only [w_lenL (items_l e), lb, w_gt]
      refine ⟨_, rfl, ?_⟩
      by_cases c5 : 60 < bnd t
      · have c5' : (60 : Int) < (bnd t : Nat) := by omega
        rw [if_pos c5] at k
        simp only [decide_eq_true c5', if_true, w_ret, w_c]
        exact k _ x
      · have c5' : ¬ (60 : Int) < (bnd t : Nat) := by omega
        simp only [decide_eq_false c5', Bool.false_eq_true, if_false, w_pass]
        exact third h1 x c5
    · simp only [decide_eq_false c2, Bool.false_eq_true, if_false, w_pass]
      exact third h Ext.refl (by have := bnd_le t; omega)
end
end ND
end L2.Lv
end
section
set_option maxRecDepth 100000
set_option maxHeartbeats 2000000
set_option autoImplicit false
namespace L2.Lv
namespace ND
open PySem
def b_7 (c : CT) : MS :=
  (mRet (mAndV (mUn (pIsi 1 [3]) (mVar 0)) (mAndV (mBin pLe (mApp pLen (mCons (mVar 0) mNil)) (mC (.int 8))) (mCall (c 103) (mCons (mVar 0) mNil)))))
def b_10 (c : CT) : MS :=
  (mRet (mBin pGt (mApp pLen (mCons (mCall (c 104) (mCons (mVar 0) mNil)) mNil)) (mC (.int 0))))
def b_18 (c : CT) : MS :=
  (mSeq (mSet 2 (mCall (c 104) (mCons (mVar 1) mNil)))
  (mSeq (mIfS (mTb (mBin pEq (mApp pLen (mCons (mVar 2) mNil)) (mC (.int 0)))) (mRaise 20 (mVar 1)) mPass)
  (mSeq (mSet 3 (mCall (c 105) (mCons (mVar 2) mNil)))
  (mSeq (mIfS (mTb (mBin (pIs true) (mVar 3) (mC .non))) (mRaise 24 (mVar 3)) mPass)
  (mSeq (mPutF [0] 0 (mVar 0) (mVar 1))
  (mSeq (mPutF [0] 1 (mVar 0) (mVar 2))
  (mPutF [0] 2 (mVar 0) mDict0)))))))
class KitF (cf : Nat → CT) : Prop where
  h7 : ∀ m, cf (m + 1) 7 = mBody 1 1 (b_7 (cf m))
  h10 : ∀ m, cf (m + 1) 10 = mBody 1 1 (b_10 (cf m))
  h18 : ∀ m, cf (m + 1) 18 = mBody 2 4 (b_18 (cf m))
section
variable {cf : Nat → CT} [TermF cf] [NameF cf] [ScanF cf] [LimF cf] [KitF cf]
theorem istree_ok {m : Nat} {v : D} {h : Hm} {P : D → Hm → Prop} (hv : vd h v = true) (hz : dsz v ≤ 5000) (k : ∀ h', Ext h h' → P (.bl (!(tnodes v).isEmpty)) h') : Ok (cf (m + 4) 10 [v] h) P := by
  rw [KitF.h10 (cf := cf)]
  refine ok_body rfl ?_
  unfold b_10
  simp only [w_seq, w_ifS, w_set, w_ret, w_par, w_asg, w_sub, w_drop, w_pass, w_bin, w_app, w_call, w_cons, w_nil, w_tup, w_lst, w_if, w_tb, w_not, w_and, w_or, w_c, w_v, w_un, w_int, w_intB, w_addI, w_subI, w_lt, w_le, w_gt, w_ge, w_eqI, w_methL, startE, List.map_cons, List.map_nil, List.cons_append, List.nil_append, List.getElem?_cons_zero, List.getElem?_cons_succ, List.set_cons_zero, List.set_cons_succ, ok1_some, at0, at1, at2, at3, w_ixT, List.length_cons, List.length_nil, Nat.reduceAdd, Nat.reduceSub, Nat.zero_add, List.replicate_succ, List.replicate_zero]
  refine scan_ok hv hz fun p h' x _ e => ?_
  rw [w_lenL (items_l e)]
  simp only [w_gt]
  have : decide ((0 : Int) < ((tnodes v).length : Nat)) = !(tnodes v).isEmpty := by
    cases tnodes v with
    | nil => rfl
    | cons a l => simp
  rw [this]
  exact k h' x
theorem isname_ok {m : Nat} {v : D} {h : Hm} {P : D → Hm → Prop} (hv : vd h v = true) (k : P (.bl (isNm v)) h) : Ok (cf (m + 2) 7 [v] h) P := by
  rw [KitF.h7 (cf := cf)]
  refine ok_body rfl ?_
  unfold b_7
  simp only [w_ret, w_andV, w_un, w_v, startE, List.map_cons, List.map_nil, List.cons_append, List.nil_append, List.getElem?_cons_zero, ok1_some]
  rw [w_isi (nc := 1) (vd_kd hv)]
  by_cases c : ([3] : List Nat).contains (kd h v) = true
  · rw [c]
    refine ⟨true, rfl, ?_⟩
    cases v with
    | str s =>
      have a := vd_str hv
      simp only [if_true, w_bin, w_app, w_cons, w_nil, w_v, w_c, w_call, List.getElem?_cons_zero, ok1_some, w_lenS a.2, w_le]
      refine ⟨_, rfl, ?_⟩
      have e : isNm (.str s) = (decide (s.length ≤ 8) && lets s) := by
        unfold isNm lets
        cases s with
        | nil => rfl
        | cons x s => simp
      by_cases l : s.length ≤ 8
      · have l' : ((s.length : Nat) : Int) ≤ 8 := by omega
        simp only [decide_eq_true l', if_true]
        rw [e, decide_eq_true l, Bool.true_and] at k
        exact letters_ok k
      · have l' : ¬ ((s.length : Nat) : Int) ≤ 8 := by omega
        simp only [decide_eq_false l', Bool.false_eq_true, if_false]
        rw [e, decide_eq_false l, Bool.false_and] at k
        exact k
    | ref n =>
      exfalso
      simp only [vd, Bool.and_eq_true] at hv
      obtain ⟨ob, e⟩ := Option.isSome_iff_exists.mp hv.1
      simp only [kd, e] at c
      cases ob <;> simp at c
      omega
    | _ => simp [kd] at c
  · have c' : ([3] : List Nat).contains (kd h v) = false := by simpa using c
    rw [c']
    refine ⟨false, rfl, ?_⟩
    simp only [Bool.false_eq_true, if_false]
    have : isNm v = false := by
      cases v with
      | str s => simp [kd] at c
      | _ => rfl
    rw [this] at k
    exact k
theorem init_bad {m : Nat} {v : D} {h0 : Hm} {P : D → Hm → Prop} {E : Nat → D → Hm → Prop} (hv : vd h0 v = true) (hz : dsz v ≤ 5000) (tn : tnodes v = []) (k : ∀ h', Ext h0 h' → E 20 v h') :
    OkE (cf (m + 4) 18 [.ref h0.length, v] (h0 ++ [.ins 0 []])) P E := by
  rw [KitF.h18 (cf := cf)]
  refine oe_body rfl ?_
  unfold b_18
  rw [ww_seq]
  refine ww_set ?_
  simp only [w_ifS, w_bin, w_app, w_call, w_cons, w_nil, w_tup, w_lst, w_if, w_tb, w_not, w_and, w_or, w_c, w_v, w_un, w_int, w_intB, w_addI, w_subI, w_lt, w_le, w_gt, w_ge, w_eqI, w_methL, startE, List.map_cons, List.map_nil, List.cons_append, List.nil_append, List.getElem?_cons_zero, List.getElem?_cons_succ, List.set_cons_zero, List.set_cons_succ, ok1_some, at0, at1, at2, at3, w_ixT, List.length_cons, List.length_nil, Nat.reduceAdd, Nat.reduceSub, Nat.zero_add, List.replicate_succ, List.replicate_zero]
  refine scan_ok (vd_ext Ext.app hv) hz fun p h1 x _ e => ?_
  rw [tn] at e
  rw [ww_seq]
  refine ww_if ?_
  simp only [w_ifS, w_bin, w_app, w_call, w_cons, w_nil, w_tup, w_lst, w_if, w_tb, w_not, w_and, w_or, w_c, w_v, w_un, w_int, w_intB, w_addI, w_subI, w_lt, w_le, w_gt, w_ge, w_eqI, w_methL, startE, List.map_cons, List.map_nil, List.cons_append, List.nil_append, List.getElem?_cons_zero, List.getElem?_cons_succ, List.set_cons_zero, List.set_cons_succ, ok1_some, at0, at1, at2, at3, w_ixT, List.length_cons, List.length_nil, Nat.reduceAdd, Nat.reduceSub, Nat.zero_add, List.replicate_succ, List.replicate_zero, w_lenL (items_l e)]
  refine ⟨_, rfl, ?_⟩
  rw [if_pos (by decide)]
  refine ww_raise ?_
  simp only [w_ifS, w_bin, w_app, w_call, w_cons, w_nil, w_tup, w_lst, w_if, w_tb, w_not, w_and, w_or, w_c, w_v, w_un, w_int, w_intB, w_addI, w_subI, w_lt, w_le, w_gt, w_ge, w_eqI, w_methL, startE, List.map_cons, List.map_nil, List.cons_append, List.nil_append, List.getElem?_cons_zero, List.getElem?_cons_succ, List.set_cons_zero, List.set_cons_succ, ok1_some, at0, at1, at2, at3, w_ixT, List.length_cons, List.length_nil, Nat.reduceAdd, Nat.reduceSub, Nat.zero_add, List.replicate_succ, List.replicate_zero]
  exact k h1 (Ext.app.trans x)
theorem init_tree {m : Nat} {t : Tr} {h0 : Hm} {P : D → Hm → Prop} {E : Nat → D → Hm → Prop} (g : okT t) (hz : siz t ≤ 1000) (k0 : limB t = none → ∀ h', Ext h0 h' → P .non h') (k1 : ∀ i, limB t = some i → ∀ h', Ext h0 h' → E 24 (.int i) h') :
    OkE (cf (m + 5) 18 [.ref h0.length, toD t] (h0 ++ [.ins 0 []])) P E := by
  rw [KitF.h18 (cf := cf)]
  refine oe_body rfl ?_
  unfold b_18
  rw [ww_seq]
  refine ww_set ?_
  simp only [w_ifS, w_bin, w_app, w_call, w_cons, w_nil, w_tup, w_lst, w_if, w_tb, w_not, w_and, w_or, w_c, w_v, w_un, w_int, w_intB, w_addI, w_subI, w_lt, w_le, w_gt, w_ge, w_eqI, w_methL, startE, List.map_cons, List.map_nil, List.cons_append, List.nil_append, List.getElem?_cons_zero, List.getElem?_cons_succ, List.set_cons_zero, List.set_cons_succ, ok1_some, at0, at1, at2, at3, w_ixT, List.length_cons, List.length_nil, Nat.reduceAdd, Nat.reduceSub, Nat.zero_add, List.replicate_succ, List.replicate_zero]
  have x0 : Ext h0 (h0 ++ [Ob.ins 0 []]) := Ext.app
  refine scan_ok (m := m + 1) (vd_tree g) (by have := dsz_tree t; omega) fun p h1 x lp e => ?_
  rw [tnodes_tree g] at e
  have i1 := x h0.length (.ins 0 []) app_at
  rw [ww_seq]
  refine ww_if ?_
  simp only [w_ifS, w_bin, w_app, w_call, w_cons, w_nil, w_tup, w_lst, w_if, w_tb, w_not, w_and, w_or, w_c, w_v, w_un, w_int, w_intB, w_addI, w_subI, w_lt, w_le, w_gt, w_ge, w_eqI, w_methL, startE, List.map_cons, List.map_nil, List.cons_append, List.nil_append, List.getElem?_cons_zero, List.getElem?_cons_succ, List.set_cons_zero, List.set_cons_succ, ok1_some, at0, at1, at2, at3, w_ixT, List.length_cons, List.length_nil, Nat.reduceAdd, Nat.reduceSub, Nat.zero_add, List.replicate_succ, List.replicate_zero, w_lenL (items_l e)]
  refine ⟨_, rfl, ?_⟩
  have ne : ((((toDs (nod t)).length : Nat) : Int) == 0) = false := by
    rw [toDs_len, nod_len, beq_eq_false_iff_ne]
    have := siz_pos t
    omega
  rw [ne]
  simp only [Bool.false_eq_true, if_false]
  refine ww_pass ?_
  rw [ww_seq]
  refine ww_set ?_
  simp only [w_ifS, w_bin, w_app, w_call, w_cons, w_nil, w_tup, w_lst, w_if, w_tb, w_not, w_and, w_or, w_c, w_v, w_un, w_int, w_intB, w_addI, w_subI, w_lt, w_le, w_gt, w_ge, w_eqI, w_methL, startE, List.map_cons, List.map_nil, List.cons_append, List.nil_append, List.getElem?_cons_zero, List.getElem?_cons_succ, List.set_cons_zero, List.set_cons_succ, ok1_some, at0, at1, at2, at3, w_ixT, List.length_cons, List.length_nil, Nat.reduceAdd, Nat.reduceSub, Nat.zero_add, List.replicate_succ, List.replicate_zero]
  refine lim_ok (items_l e) hz fun h2 x2 => ?_
  have i2 := x2 _ _ i1
  rw [ww_seq]
  refine ww_if ?_
  simp only [w_ifS, w_bin, w_app, w_call, w_cons, w_nil, w_tup, w_lst, w_if, w_tb, w_not, w_and, w_or, w_c, w_v, w_un, w_int, w_intB, w_addI, w_subI, w_lt, w_le, w_gt, w_ge, w_eqI, w_methL, startE, List.map_cons, List.map_nil, List.cons_append, List.nil_append, List.getElem?_cons_zero, List.getElem?_cons_succ, List.set_cons_zero, List.set_cons_succ, ok1_some, at0, at1, at2, at3, w_ixT, List.length_cons, List.length_nil, Nat.reduceAdd, Nat.reduceSub, Nat.zero_add, List.replicate_succ, List.replicate_zero, w_isN]
  refine ⟨_, rfl, ?_⟩
  cases q : limB t with
  | some i =>
    rw [if_pos (by simp [limD, isNon])]
    refine ww_raise ?_
    simp only [w_ifS, w_bin, w_app, w_call, w_cons, w_nil, w_tup, w_lst, w_if, w_tb, w_not, w_and, w_or, w_c, w_v, w_un, w_int, w_intB, w_addI, w_subI, w_lt, w_le, w_gt, w_ge, w_eqI, w_methL, startE, List.map_cons, List.map_nil, List.cons_append, List.nil_append, List.getElem?_cons_zero, List.getElem?_cons_succ, List.set_cons_zero, List.set_cons_succ, ok1_some, at0, at1, at2, at3, w_ixT, List.length_cons, List.length_nil, Nat.reduceAdd, Nat.reduceSub, Nat.zero_add, List.replicate_succ, List.replicate_zero]
    exact k1 i q h2 ((x0.trans x).trans x2)
  | none =>
    rw [if_neg (by simp [limD, isNon])]
    refine ww_pass ?_
    rw [ww_seq]
    refine ww_putF (n := h0.length) (c := 0) (fs := []) ?_
    simp only [w_ifS, w_bin, w_app, w_call, w_cons, w_nil, w_tup, w_lst, w_if, w_tb, w_not, w_and, w_or, w_c, w_v, w_un, w_int, w_intB, w_addI, w_subI, w_lt, w_le, w_gt, w_ge, w_eqI, w_methL, startE, List.map_cons, List.map_nil, List.cons_append, List.nil_append, List.getElem?_cons_zero, List.getElem?_cons_succ, List.set_cons_zero, List.set_cons_succ, ok1_some, at0, at1, at2, at3, w_ixT, List.length_cons, List.length_nil, Nat.reduceAdd, Nat.reduceSub, Nat.zero_add, List.replicate_succ, List.replicate_zero]
    refine ⟨trivial, i2, rfl, by simp, ?_⟩
    rw [ww_seq]
    refine ww_putF (n := h0.length) (c := 0) (fs := [(0, toD t)]) ?_
    simp only [w_ifS, w_bin, w_app, w_call, w_cons, w_nil, w_tup, w_lst, w_if, w_tb, w_not, w_and, w_or, w_c, w_v, w_un, w_int, w_intB, w_addI, w_subI, w_lt, w_le, w_gt, w_ge, w_eqI, w_methL, startE, List.map_cons, List.map_nil, List.cons_append, List.nil_append, List.getElem?_cons_zero, List.getElem?_cons_succ, List.set_cons_zero, List.set_cons_succ, ok1_some, at0, at1, at2, at3, w_ixT, List.length_cons, List.length_nil, Nat.reduceAdd, Nat.reduceSub, Nat.zero_add, List.replicate_succ, List.replicate_zero]
    refine ⟨trivial, List.getElem?_set_self (lt_of_at i2), rfl, by simp [putD], ?_⟩
    refine ww_putF (n := h0.length) (c := 0) (fs := [(0, toD t), (1, .ref p)]) ?_
    unfold mDict0
    rw [ok_ok]
    simp only [w_ifS, w_bin, w_app, w_call, w_cons, w_nil, w_tup, w_lst, w_if, w_tb, w_not, w_and, w_or, w_c, w_v, w_un, w_int, w_intB, w_addI, w_subI, w_lt, w_le, w_gt, w_ge, w_eqI, w_methL, startE, List.map_cons, List.map_nil, List.cons_append, List.nil_append, List.getElem?_cons_zero, List.getElem?_cons_succ, List.set_cons_zero, List.set_cons_succ, ok1_some, at0, at1, at2, at3, w_ixT, List.length_cons, List.length_nil, Nat.reduceAdd, Nat.reduceSub, Nat.zero_add, List.replicate_succ, List.replicate_zero]
    refine ⟨trivial, app_old (List.getElem?_set_self (by rw [List.length_set]; exact lt_of_at i2)), rfl, by simp [putD], ?_⟩
    have y : Ext h0 h2 := (x0.trans x).trans x2
    exact k0 q _ ((((y.put (Nat.le_refl _)).put (Nat.le_refl _)).trans Ext.app).put (Nat.le_refl _))
end
/-! ### what is told -/
theorem cl_shown {h : Hm} {v : D} {p : PyData} {K L : Nat} {s : List Nat} {b : Bool} {m : Hm → D → Option D} {P : D → Hm → Prop} (sh : Shown h K L v p) (kk : K ≤ deep) (ll : L ≤ big) (hm : m h v = some (.bl b)) (k : P (.ref h.length) (h ++ [.lst [.str s, .str (shT p), .bl b]])) :
    Ok (xLst (xCons (xC (.str s)) (xCons (xReprA xF) (xCons m xNil))) h v) P := by
  have e : xCons (xC (.str s)) (xCons (xReprA xF) (xCons m xNil)) h v = some [.str s, .str (shT p), .bl b] := by
    simp only [xCons, xC, xReprA, xF, xNil, sh.reprA kk ll, hm]
  unfold xLst
  rw [e]
  dsimp only
  rw [w_newL]
  exact ⟨by simp [big], k⟩
theorem cl_many {h : Hm} {i : Int} {s : List Nat} {b : Bool} {P : D → Hm → Prop} (k : P (.ref h.length) (h ++ [.lst [.str s, .int i, .bl b]])) :
    Ok (xLst (xCons (xC (.str s)) (xCons xF (xCons (xC (.bl b)) xNil))) h (.int i)) P := by
  unfold xLst
  show Ok (newL [.str s, .int i, .bl b] h) P
  rw [w_newL]
  exact ⟨by simp [big], k⟩
theorem okD_3 {h : Hm} {i : Nat} {x y z : D} {n : Nat} (q : h[i]? = some (.lst [x, y, z])) (a : okD n h x = true) (b : okD n h y = true) (c : okD n h z = true) : okD (n + 1) h (.ref i) = true := by
  unfold okD
  dsimp only
  rw [q]
  simp [a, b, c]
theorem eq_3 {h : Hm} {i j n : Nat} {x y z : D} (q : h[i]? = some (.lst [x, y, z])) (q2 : h[j]? = some (.lst [x, y, z])) (a : eqB n h x x = true) (b : eqB n h y y = true) (c : eqB n h z z = true) : eqB (n + 1) h (.ref i) (.ref j) = true := by
  unfold eqB itemsOf
  dsimp only
  rw [q, q2]
  simp [eqL, a, b, c]
section
variable {h : Hm} {i j : Nat} {s t : List Nat} {n : Int} {b : Bool} {P : D → Hm → Prop}
theorem okS_ {m : Nat} (c : (s.all fun c => decide (c < 1114112)) = true) : okD (m + 1) h (.str s) = true := c
theorem eqS_ {m : Nat} : eqB (m + 1) h (.str s) (.str s) = true := by unfold eqB; simp
theorem eqI_ {m : Nat} : eqB (m + 1) h (.int n) (.int n) = true := by unfold eqB; simp
theorem eqBl_ {m : Nat} : eqB (m + 1) h (.bl b) (.bl b) = true := by unfold eqB; simp
theorem ne_shown (q : h[i]? = some (.lst [.str s, .str t, .bl b])) (q2 : h[j]? = some (.lst [.str s, .str t, .bl b])) (c1 : (s.all fun c => decide (c < 1114112)) = true) (c2 : (t.all fun c => decide (c < 1114112)) = true) : Ok (pNe (.ref i) (.ref j) h) P ↔ P (.bl false) h := by
  rw [w_ne (okD_3 (n := 109) q (okS_ c1) (okS_ c2) rfl) (okD_3 (n := 109) q2 (okS_ c1) (okS_ c2) rfl)]
  have e : eqB deep h (.ref i) (.ref j) = true := eq_3 (n := 109) q q2 eqS_ eqS_ eqBl_
  rw [e]
  exact Iff.rfl
theorem ne_many (q : h[i]? = some (.lst [.str s, .int n, .bl b])) (q2 : h[j]? = some (.lst [.str s, .int n, .bl b])) (c1 : (s.all fun c => decide (c < 1114112)) = true) : Ok (pNe (.ref i) (.ref j) h) P ↔ P (.bl false) h := by
  rw [w_ne (okD_3 (n := 109) q (okS_ c1) rfl rfl) (okD_3 (n := 109) q2 (okS_ c1) rfl rfl)]
  have e : eqB deep h (.ref i) (.ref j) = true := eq_3 (n := 109) q q2 eqS_ eqI_ eqBl_
  rw [e]
  exact Iff.rfl
theorem eq_many (q : h[i]? = some (.lst [.str s, .int n, .bl b])) (q2 : h[j]? = some (.lst [.str s, .int n, .bl b])) (c1 : (s.all fun c => decide (c < 1114112)) = true) : Ok (pEq (.ref i) (.ref j) h) P ↔ P (.bl true) h := by
  rw [w_eq (okD_3 (n := 109) q (okS_ c1) rfl rfl) (okD_3 (n := 109) q2 (okS_ c1) rfl rfl)]
  have e : eqB deep h (.ref i) (.ref j) = true := eq_3 (n := 109) q q2 eqS_ eqI_ eqBl_
  rw [e]
end
end ND
end L2.Lv
end
section
set_option maxRecDepth 100000
set_option maxHeartbeats 2000000
set_option autoImplicit false
namespace L2.Lv
namespace ND
open PySem
/-! ### values that show -/
structure Both (h : Hm) (K L : Nat) (d : D) (p : PyData) : Prop where
  va : vaP p = true
  ln : lenP p ≤ L
  dp : p.depth ≤ K
  sg : Sg h K d p
  tt : toT h d = some p
structure Boths (h : Hm) (K L : Nat) (ds : List D) (ps : List PyData) : Prop where
  va : vaPs ps = true
  ln : lenPs ps ≤ L
  dp : PyData.depthAll ps ≤ K
  sg : Sgs h K ds ps
  tt : toTs h ds = some ps
structure Shs (h : Hm) (K L : Nat) (ds : List D) (ps : List PyData) : Prop where
  va : vaPs ps = true
  ln : lenPs ps ≤ L
  dp : PyData.depthAll ps ≤ K
  at_ : Sgs h K ds ps ∨ (hasDks h ds = true ∧ toTs h ds = some ps)
section
variable {h : Hm} {K L M : Nat} {d : D} {p : PyData} {ds : List D} {ps : List PyData}
theorem Sgs.up {k k' : Nat} : ∀ {ds : List D} {ps : List PyData}, Sgs h k ds ps → k ≤ k' → Sgs h k' ds ps
  | [], [], _, _ => trivial
  | _ :: _, _ :: _, s, l => ⟨s.1.up l, s.2.up l⟩
  | [], _ :: _, s, _ => s.elim
  | _ :: _, [], s, _ => s.elim
theorem Both.up {K' L' : Nat} (b : Both h K L d p) (k : K ≤ K') (l : L ≤ L') : Both h K' L' d p := ⟨b.va, Nat.le_trans b.ln l, Nat.le_trans b.dp k, b.sg.up k, b.tt⟩
theorem Shown.up {K' L' : Nat} (b : Shown h K L d p) (k : K ≤ K') (l : L ≤ L') : Shown h K' L' d p := ⟨b.va, Nat.le_trans b.ln l, Nat.le_trans b.dp k, b.at_.elim (fun a => .inl (a.up k)) .inr⟩
theorem Shs.up {K' L' : Nat} (b : Shs h K L ds ps) (k : K ≤ K') (l : L ≤ L') : Shs h K' L' ds ps := ⟨b.va, Nat.le_trans b.ln l, Nat.le_trans b.dp k, b.at_.elim (fun a => .inl (a.up k)) .inr⟩
theorem Boths.up {K' L' : Nat} (b : Boths h K L ds ps) (k : K ≤ K') (l : L ≤ L') : Boths h K' L' ds ps := ⟨b.va, Nat.le_trans b.ln l, Nat.le_trans b.dp k, b.sg.up k, b.tt⟩
theorem Both.shown (b : Both h K L d p) : Shown h K L d p := ⟨b.va, b.ln, b.dp, .inl b.sg⟩
theorem bnil : Boths h K L [] [] := ⟨rfl, Nat.zero_le _, Nat.zero_le _, trivial, rfl⟩
theorem bcons (b : Both h K L d p) (r : Boths h K M ds ps) : Boths h K (L + 2 + M) (d :: ds) (p :: ps) := by
  refine ⟨by simp only [vaPs, b.va, r.va, Bool.and_self], ?_, ?_, ⟨b.sg, r.sg⟩, by simp only [toTs, b.tt, r.tt]⟩
  · have := b.ln; have := r.ln
    simp only [lenPs]; omega
  · have := b.dp; have := r.dp
    simp only [PyData.depthAll]; omega
theorem btup (r : Boths h K L ds ps) : Both h (K + 1) (3 + L) (.tup ds) (.tuple ps) := by
  refine ⟨by simp only [vaP, r.va], ?_, ?_, sg_tup r.sg, by simp only [toT, r.tt, Option.map]⟩
  · have := r.ln
    simp only [lenP]; omega
  · have := r.dp
    simp only [PyData.depth]; omega
theorem Boths.shs (r : Boths h K L ds ps) : Shs h K L ds ps := ⟨r.va, r.ln, r.dp, .inl r.sg⟩
theorem scons (b : Shown h K L d p) (r : Boths h K M ds ps) : Shs h K (L + 2 + M) (d :: ds) (p :: ps) := by
  refine ⟨by simp only [vaPs, b.va, r.va, Bool.and_self], ?_, ?_, ?_⟩
  · have := b.ln; have := r.ln
    simp only [lenPs]; omega
  · have := b.dp; have := r.dp
    simp only [PyData.depthAll]; omega
  · rcases b.at_ with a | ⟨a1, a2⟩
    · exact .inl ⟨a, r.sg⟩
    · exact .inr ⟨by simp only [hasDks, a1, Bool.true_or], by simp only [toTs, a2, r.tt]⟩
theorem tcons (b : Both h K L d p) (r : Shs h K M ds ps) : Shs h K (L + 2 + M) (d :: ds) (p :: ps) := by
  refine ⟨by simp only [vaPs, b.va, r.va, Bool.and_self], ?_, ?_, ?_⟩
  · have := b.ln; have := r.ln
    simp only [lenPs]; omega
  · have := b.dp; have := r.dp
    simp only [PyData.depthAll]; omega
  · rcases r.at_ with a | ⟨a1, a2⟩
    · exact .inl ⟨b.sg, a⟩
    · exact .inr ⟨by simp only [hasDks, a1, Bool.or_true], by simp only [toTs, b.tt, a2]⟩
theorem stup (r : Shs h K L ds ps) : Shown h (K + 1) (3 + L) (.tup ds) (.tuple ps) := by
  refine ⟨by simp only [vaP, r.va], ?_, ?_, ?_⟩
  · have := r.ln
    simp only [lenP]; omega
  · have := r.dp
    simp only [PyData.depth]; omega
  · rcases r.at_ with a | ⟨a1, a2⟩
    · exact .inl (sg_tup a)
    · exact .inr ⟨a1, by simp only [toT, a2, Option.map]⟩
theorem slst {i : Nat} (q : h[i]? = some (.lst ds)) (r : Boths h K L ds ps) : Shown h (K + 1) (3 + L) (.ref i) (.list ps) := by
  refine ⟨by simp only [vaP, r.va], ?_, ?_, .inl (sg_lst q r.sg)⟩
  · have := r.ln
    simp only [lenP]; omega
  · have := r.dp
    simp only [PyData.depth]; omega
theorem bstr {s : List Nat} (c : (s.all fun c => decide (c < 128)) = true) (l : 10 * s.length + 2 ≤ L) : Both h (K + 1) L (.str s) (.str ⟨s.toArray⟩) := by
  refine ⟨by simpa only [vaP] using c, ?_, by simp [PyData.depth], (sg_str (asc_up c)).up (by omega), rfl⟩
  have : (Str.length ⟨s.toArray⟩) = s.length := by simp [Str.length]
  simp only [lenP, this]
  exact l
theorem bnon : Both h (K + 1) 4 .non .none := ⟨by simp only [vaP], by simp only [lenP]; exact Nat.le_refl _, by simp [PyData.depth], sg_non.up (by omega), rfl⟩
theorem bint {i : Int} (c : 0 ≤ i ∧ i < 10) : Both h (K + 1) 1 (.int i) (.int i) := ⟨by simp [vaP, c.1, c.2], by simp only [lenP]; exact Nat.le_refl _, by simp [PyData.depth], sg_int.up (by omega), rfl⟩
theorem sdk {i : Nat} {s : List Nat} (q : h[i]? = some (.dk [(.inr s, d)])) (f : flatP d = some p) (v : vaP p = true) (l : lenP p ≤ 90) (c : (s.all fun c => decide (c < 128)) = true) (ls : s.length ≤ 8) (dp : p.depth = 0) : Shown h (K + 1) 200 (.ref i) (.dict [(.str ⟨s.toArray⟩, p)]) := by
  have e : (Str.length ⟨s.toArray⟩) = s.length := by simp [Str.length]
  refine ⟨?_, ?_, ?_, .inr ⟨?_, ?_⟩⟩
  · simp only [vaP, vaKv, v, Bool.and_true]
    simpa using c
  · simp only [lenP, lenKv, e]; omega
  · simp only [PyData.depth, PyData.depthKv, dp]; omega
  · unfold hasDk
    rw [q]
  · unfold toT
    rw [q]
    simp [kvsP, f, keyP]
end
/-! a tree shows -/
mutual
def trP : Tr → PyData
  | .use n => .tuple [.str ⟨tUse.toArray⟩, .str ⟨n.toArray⟩]
  | .join l ts => .tuple [.str ⟨tJoin.toArray⟩, .str ⟨l.toArray⟩, .tuple (trPs ts)]
  | .bind n ah b => .tuple [.str ⟨tBind.toArray⟩, .str ⟨n.toArray⟩, .tuple (trPs ah), trP b]
def trPs : List Tr → List PyData
  | [] => []
  | t :: ts => trP t :: trPs ts
end
theorem bgw {h : Hm} {K : Nat} {n : List Nat} (g : goodW n = true) : Both h (K + 1) 82 (.str n) (.str ⟨n.toArray⟩) := bstr (goodW_str g).1 (by have := (goodW_str g).2; omega)
theorem Boths.get {h : Hm} {K L M : Nat} {ds : List D} {ps : List PyData} (b : Boths h K L ds ps) (l : L ≤ M) : Boths h K M ds ps := b.up (Nat.le_refl _) l
mutual
theorem b_tree {h : Hm} : ∀ {t : Tr}, okT t → Both h (2 * siz t + 1) (152 * siz t - 2) (toD t) (trP t)
  | .use n, g => (btup (h := h) (K := 2) (bcons (L := 32) (bstr (s := tUse) (by decide) (by decide)) (bcons (bgw g) (bnil (L := 0))))).up (by simp [siz]) (by simp [siz])
  | .join l ts, g => by
    have r := btup (bs_tree (h := h) g.2)
    refine (btup (bcons (L := 42) (bstr (s := tJoin) (by decide) (by decide)) (bcons (bgw g.1) (bcons r (bnil (L := 0)))))).up ?_ ?_
    · simp only [siz]; omega
    · simp only [siz]; omega
  | .bind n ah b, g => by
    have r := btup (bs_tree (h := h) g.2.1)
    have q := b_tree (h := h) g.2.2
    have k1 : 2 * sizs ah + 1 + 1 ≤ 2 * (sizs ah + siz b) + 1 + 1 := by omega
    have k2 : 2 * siz b + 1 ≤ 2 * (sizs ah + siz b) + 1 + 1 := by omega
    refine (btup (bcons (L := 42) (bstr (s := tBind) (by decide) (by decide)) (bcons (bgw g.1) (bcons (r.up k1 (Nat.le_refl _)) (bcons (q.up k2 (Nat.le_refl _)) (bnil (L := 0))))))).up ?_ ?_
    · simp only [siz]; omega
    · simp only [siz]; omega
theorem bs_tree {h : Hm} : ∀ {ts : List Tr}, okTs ts → Boths h (2 * sizs ts + 1) (152 * sizs ts) (toDs ts) (trPs ts)
  | [], _ => bnil
  | t :: ts, g => by
    have a := b_tree (h := h) g.1
    have b := bs_tree (h := h) g.2
    have := siz_pos t
    refine (bcons (a.up (K' := 2 * sizs (t :: ts) + 1) (by simp only [sizs]; omega) (Nat.le_refl _)) (b.up (by simp only [sizs]; omega) (Nat.le_refl _))).up (Nat.le_refl _) ?_
    simp only [sizs]; omega
end
end ND
end L2.Lv
end
section
set_option maxRecDepth 100000
set_option maxHeartbeats 2000000
set_option autoImplicit false
namespace L2.Lv
namespace ND
open PySem
def od1 : ME :=
  mLst (mCons (mC .non) (mCons (mC (.int 5)) (mCons (mC (.str [120])) (mCons (mTup mNil) (mCons (mTup (mCons (mC (.str [117, 115, 101])) mNil)) (mCons (mTup (mCons (mC (.str [117, 115, 101])) (mCons (mC (.str [88])) mNil))) (mCons (mTup (mCons (mC (.str [117, 115, 101])) (mCons (mC (.str [])) mNil))) (mCons (mTup (mCons (mC (.str [117, 115, 101])) (mCons (mC (.str [97, 98, 99, 100, 101, 102, 103, 104, 105])) mNil))) (mCons (mTup (mCons (mC (.str [117, 115, 101])) (mCons (mC (.int 5)) mNil))) mNil)))))))))
def od2 : ME :=
  mLst (mCons (mLst (mCons (mC (.str [117, 115, 101])) (mCons (mC (.str [120])) mNil))) (mCons (mTup (mCons (mC (.str [117, 115, 101])) (mCons (mC (.str [120])) (mCons (mTup mNil) mNil)))) (mCons (mTup (mCons (mC (.str [106, 111, 105, 110])) (mCons (mC (.str [102])) mNil))) (mCons (mTup (mCons (mC (.str [106, 111, 105, 110])) (mCons (mC (.str [102])) (mCons (mLst (mCons (mVar 0) mNil)) mNil)))) (mCons (mTup (mCons (mC (.str [106, 111, 105, 110])) (mCons (mC (.int 5)) (mCons (mTup mNil) mNil)))) mNil)))))
def od3 : ME :=
  mLst (mCons (mTup (mCons (mC (.str [106, 111, 105, 110])) (mCons (mC (.str [102])) (mCons (mTup (mCons (mVar 0) mNil)) (mCons (mVar 0) mNil))))) (mCons (mTup (mCons (mC (.str [106, 111, 105, 110])) (mCons (mC (.str [102])) (mCons (mVar 0) mNil)))) (mCons (mTup (mCons (mC (.str [98, 105, 110, 100])) (mCons (mC (.str [120])) (mCons (mVar 0) mNil)))) (mCons (mTup (mCons (mC (.str [98, 105, 110, 100])) (mCons (mC (.str [120])) (mCons (mTup mNil) (mCons (mTup mNil) mNil))))) mNil))))
def od4 : ME :=
  mLst (mCons (mTup (mCons (mC (.str [98, 105, 110, 100])) (mCons (mC (.str [120])) (mCons (mLst (mCons (mVar 0) mNil)) (mCons (mVar 0) mNil))))) (mCons (mTup (mCons (mC (.str [98, 105, 110, 100])) (mCons (mC (.str [88])) (mCons (mTup mNil) (mCons (mVar 0) mNil))))) (mCons (mTup (mCons (mC (.str [85, 115, 101])) (mCons (mC (.str [120])) mNil))) (mCons (mTup (mCons (mC (.str [98, 105, 110, 100])) (mCons (mC (.str [120])) (mCons (mVar 0) (mCons (mVar 0) mNil))))) mNil))))
def od5 : ME :=
  mLst (mCons (mTup (mCons (mC (.str [98, 105, 110, 100])) (mCons (mC .non) (mCons (mTup mNil) (mCons (mVar 0) mNil))))) (mCons (mTup (mCons (mC .non) (mCons (mC (.str [120])) mNil))) (mCons (mDisp [[117, 115, 101]] (mCons (mC (.str [120])) mNil)) (mCons (mTup (mCons (mC (.str [98, 105, 110, 100])) (mCons (mC (.str [120])) (mCons (mTup mNil) (mCons (mVar 0) (mCons (mTup mNil) mNil)))))) mNil))))
def b_109 (c : CT) : MS :=
  (mSeq (mSet 1 od1) (mSeq (mSet 1 (mBin pAdd (mVar 1) od2)) (mSeq (mSet 1 (mBin pAdd (mVar 1) od3)) (mSeq (mSet 1 (mBin pAdd (mVar 1) od4)) (mRet (mBin pAdd (mVar 1) od5))))))
def ol1 : List D := [D.non, D.int 5, D.str [120], D.tup [], D.tup [D.str tUse], D.tup [D.str tUse, D.str [88]], D.tup [D.str tUse, D.str []], D.tup [D.str tUse, D.str [97, 98, 99, 100, 101, 102, 103, 104, 105]], D.tup [D.str tUse, D.int 5]]
def ol2 (pa pb : Nat) : List D := [D.ref pa, D.tup [D.str tUse, D.str [120], D.tup []], D.tup [D.str tJoin, D.str [102]], D.tup [D.str tJoin, D.str [102], D.ref pb], D.tup [D.str tJoin, D.int 5, D.tup []]]
def ol3 (t : D) : List D := [D.tup [D.str tJoin, D.str [102], D.tup [t], t], D.tup [D.str tJoin, D.str [102], t], D.tup [D.str tBind, D.str [120], t], D.tup [D.str tBind, D.str [120], D.tup [], D.tup []]]
def ol4 (t : D) (pc : Nat) : List D := [D.tup [D.str tBind, D.str [120], D.ref pc, t], D.tup [D.str tBind, D.str [88], D.tup [], t], D.tup [D.str [85, 115, 101], D.str [120]], D.tup [D.str tBind, D.str [120], t, t]]
def ol5 (t : D) (pd : Nat) : List D := [D.tup [D.str tBind, D.non, D.tup [], t], D.tup [D.non, D.str [120]], D.ref pd, D.tup [D.str tBind, D.str [120], D.tup [], t, D.tup []]]
class OddF (cf : Nat → CT) : Prop where
  h109 : ∀ m, cf (m + 1) 109 = mBody 1 2 (b_109 (cf m))
def badV (d : D) : Prop := match vis [d] with
  | none => True
  | some r => r.2.all isNm = false
theorem badV.tn {d : D} (b : badV d) : tnodes d = [] := by
  unfold badV at b
  unfold tnodes
  cases e : vis [d] with
  | none => rfl
  | some r =>
    rw [e] at b
    dsimp only at b ⊢
    rw [b]
    rfl
theorem bad_none {d : D} (e : parts d = none) : badV d := by
  unfold badV
  rw [vis_cons, e]
  trivial
theorem bad_name {d nm : D} {ch : List D} (e : parts d = some (nm, ch)) (n : isNm nm = false) : badV d := by
  unfold badV
  rw [vis_cons, e]
  dsimp only
  cases vis (ch ++ []) with
  | none => trivial
  | some r => simp [n]
theorem bad_in {d nm v : D} {a b : List D} (e : parts d = some (nm, a ++ v :: b)) (w : badV v) : badV d := by
  unfold badV at w ⊢
  rw [vis_cons, e]
  dsimp only
  rw [List.append_nil, vis_app _ a (v :: b) (Nat.le_refl _), vis_two v b]
  cases q : vis [v] with
  | none =>
    cases vis a with
    | none => trivial
    | some x => trivial
  | some r =>
    rw [q] at w
    dsimp only at w
    cases vis a with
    | none => trivial
    | some x =>
      cases vis b with
      | none => trivial
      | some y => simp [both, w]
structure Odd (h : Hm) (v : D) : Prop where
  vd_ : vd h v = true
  bad : badV v
  sz : dsz v ≤ 500
  sh : ∃ p, Shown h 70 10000 v p
theorem Odd.ext {h h' : Hm} {v : D} (x : Ext h h') (o : Odd h v) : Odd h' v := ⟨vd_ext x o.vd_, o.bad, o.sz, o.sh.elim fun p q => ⟨p, q.ext x⟩⟩
theorem w_disp1 {k : List Nat} {d : D} {e : En} {h : Hm} {P : D → Hm → Prop} : Ok (mDisp [k] (mCons (mC d) mNil) e h) P ↔ P (.ref h.length) (h ++ [.dk [(.inr k, d)]]) := by
  unfold mDisp
  have e1 : mCons (mC d) mNil e (h ++ [Ob.dk []]) = .ok [d] (h ++ [Ob.dk []]) := rfl
  rw [e1]
  show Ok (match (h ++ [Ob.dk []])[h.length]? with | some (.dk []) => _ | _ => _) P ↔ _
  rw [app_at]
  dsimp only
  rw [if_pos ⟨rfl, by simp⟩]
  have e2 : (h ++ [Ob.dk []]).set h.length (.dk [(.inr k, d)]) = h ++ [.dk [(.inr k, d)]] := by
    rw [List.set_append_right _ _ (Nat.le_refl _)]
    simp
  show P _ ((h ++ [Ob.dk []]).set h.length (.dk [(.inr k, d)])) ↔ _
  rw [e2]
theorem vd_ref {h : Hm} {i : Nat} {xs : List D} (q : h[i]? = some (.lst xs)) : vd h (.ref i) = true := by
  simp [vd, q, kd]
theorem vd_dk {h : Hm} {i : Nat} {xs : List (Sum Int (List Nat) × D)} (q : h[i]? = some (.dk xs)) : vd h (.ref i) = true := by
  simp [vd, q, kd]
section
variable {e : En} {h : Hm} {P : D → Hm → Prop} {t : D}
theorem o1 (k : ∀ p h', Ext h h' → h'[p]? = some (.lst ol1) → P (.ref p) h') : Ok (od1 e h) P := by
  unfold od1
  simp only [w_ifS, w_bin, w_app, w_call, w_cons, w_nil, w_tup, w_lst, w_if, w_tb, w_not, w_and, w_or, w_c, w_v, w_un, w_int, w_intB, w_addI, w_subI, w_lt, w_le, w_gt, w_ge, w_eqI, w_methL, startE, List.map_cons, List.map_nil, List.cons_append, List.nil_append, List.getElem?_cons_zero, List.getElem?_cons_succ, List.set_cons_zero, List.set_cons_succ, ok1_some, at0, at1, at2, at3, w_ixT, List.length_cons, List.length_nil, Nat.reduceAdd, Nat.reduceSub, Nat.zero_add, List.replicate_succ, List.replicate_zero]
  exact ⟨by decide, by decide, by decide, by decide, by decide, by decide, by decide, k _ _ Ext.app app_at⟩
theorem o2 (e0 : e[0]? = some (some t)) (k : ∀ p pa pb h', Ext h h' → h'[pa]? = some (.lst [D.str tUse, D.str [120]]) → h'[pb]? = some (.lst [t]) → h'[p]? = some (.lst (ol2 pa pb)) → P (.ref p) h') : Ok (od2 e h) P := by
  unfold od2
  simp only [w_ifS, w_bin, w_app, w_call, w_cons, w_nil, w_tup, w_lst, w_if, w_tb, w_not, w_and, w_or, w_c, w_v, w_un, w_int, w_intB, w_addI, w_subI, w_lt, w_le, w_gt, w_ge, w_eqI, w_methL, startE, List.map_cons, List.map_nil, List.cons_append, List.nil_append, List.getElem?_cons_zero, List.getElem?_cons_succ, List.set_cons_zero, List.set_cons_succ, ok1_some, at0, at1, at2, at3, w_ixT, List.length_cons, List.length_nil, Nat.reduceAdd, Nat.reduceSub, Nat.zero_add, List.replicate_succ, List.replicate_zero, e0]
  exact ⟨by decide, by decide, by decide, by decide, by decide, by decide, by decide, by decide, by decide, k _ _ _ _ (Ext.app.trans (Ext.app.trans Ext.app)) (app_old (app_old app_at)) (app_old app_at) app_at⟩
theorem o3 (e0 : e[0]? = some (some t)) (k : ∀ p h', Ext h h' → h'[p]? = some (.lst (ol3 t)) → P (.ref p) h') : Ok (od3 e h) P := by
  unfold od3
  simp only [w_ifS, w_bin, w_app, w_call, w_cons, w_nil, w_tup, w_lst, w_if, w_tb, w_not, w_and, w_or, w_c, w_v, w_un, w_int, w_intB, w_addI, w_subI, w_lt, w_le, w_gt, w_ge, w_eqI, w_methL, startE, List.map_cons, List.map_nil, List.cons_append, List.nil_append, List.getElem?_cons_zero, List.getElem?_cons_succ, List.set_cons_zero, List.set_cons_succ, ok1_some, at0, at1, at2, at3, w_ixT, List.length_cons, List.length_nil, Nat.reduceAdd, Nat.reduceSub, Nat.zero_add, List.replicate_succ, List.replicate_zero, e0]
  exact ⟨by decide, by decide, by decide, by decide, by decide, by decide, by decide, by decide, k _ _ Ext.app app_at⟩
theorem o4 (e0 : e[0]? = some (some t)) (k : ∀ p pc h', Ext h h' → h'[pc]? = some (.lst [t]) → h'[p]? = some (.lst (ol4 t pc)) → P (.ref p) h') : Ok (od4 e h) P := by
  unfold od4
  simp only [w_ifS, w_bin, w_app, w_call, w_cons, w_nil, w_tup, w_lst, w_if, w_tb, w_not, w_and, w_or, w_c, w_v, w_un, w_int, w_intB, w_addI, w_subI, w_lt, w_le, w_gt, w_ge, w_eqI, w_methL, startE, List.map_cons, List.map_nil, List.cons_append, List.nil_append, List.getElem?_cons_zero, List.getElem?_cons_succ, List.set_cons_zero, List.set_cons_succ, ok1_some, at0, at1, at2, at3, w_ixT, List.length_cons, List.length_nil, Nat.reduceAdd, Nat.reduceSub, Nat.zero_add, List.replicate_succ, List.replicate_zero, e0]
  exact ⟨by decide, by decide, by decide, by decide, by decide, by decide, by decide, k _ _ _ (Ext.app.trans Ext.app) (app_old app_at) app_at⟩
theorem o5 (e0 : e[0]? = some (some t)) (k : ∀ p pd h', Ext h h' → h'[pd]? = some (.dk [(.inr tUse, .str [120])]) → h'[p]? = some (.lst (ol5 t pd)) → P (.ref p) h') : Ok (od5 e h) P := by
  unfold od5
  simp only [w_ifS, w_bin, w_app, w_call, w_cons, w_nil, w_tup, w_lst, w_if, w_tb, w_not, w_and, w_or, w_c, w_v, w_un, w_int, w_intB, w_addI, w_subI, w_lt, w_le, w_gt, w_ge, w_eqI, w_methL, startE, List.map_cons, List.map_nil, List.cons_append, List.nil_append, List.getElem?_cons_zero, List.getElem?_cons_succ, List.set_cons_zero, List.set_cons_succ, ok1_some, at0, at1, at2, at3, w_ixT, List.length_cons, List.length_nil, Nat.reduceAdd, Nat.reduceSub, Nat.zero_add, List.replicate_succ, List.replicate_zero, e0, w_disp1]
  exact ⟨by decide, by decide, by decide, by decide, by decide, by decide, by decide, k _ _ _ (Ext.app.trans Ext.app) (app_old app_at) app_at⟩
theorem add_ok {i j : Nat} {xs ys : List D} (e1 : h[i]? = some (.lst xs)) (e2 : h[j]? = some (.lst ys)) (c : xs.length + ys.length ≤ big) (k : ∀ p h', Ext h h' → h'[p]? = some (.lst (xs ++ ys)) → P (.ref p) h') : Ok (pAdd (.ref i) (.ref j) h) P := by
  rw [w_addL e1 e2 c]
  exact k _ _ Ext.app app_at
end
section
variable {cf : Nat → CT} [OddF cf]
theorem odd_list {m : Nat} {t : D} {h : Hm} {P : D → Hm → Prop} (k : ∀ (q pa pb pc pd : Nat) (h' : Hm), Ext h h' → h'[q]? = some (.lst (ol1 ++ ol2 pa pb ++ ol3 t ++ ol4 t pc ++ ol5 t pd)) → h'[pa]? = some (.lst [D.str tUse, D.str [120]]) → h'[pb]? = some (.lst [t]) → h'[pc]? = some (.lst [t]) → h'[pd]? = some (.dk [(.inr tUse, .str [120])]) → P (.ref q) h') : Ok (cf (m + 1) 109 [t] h) P := by
  rw [OddF.h109 (cf := cf)]
  refine ok_body rfl ?_
  unfold b_109
  rw [w_seq, w_set]
  refine o1 fun p1 h1 x1 q1 => ?_
  rw [w_seq, w_set]
  simp only [w_bin, w_v, startE, List.map_cons, List.map_nil, List.cons_append, List.nil_append, List.getElem?_cons_zero, List.getElem?_cons_succ, List.set_cons_zero, List.set_cons_succ, ok1_some, List.length_cons, List.length_nil, Nat.reduceAdd, Nat.reduceSub, List.replicate_succ, List.replicate_zero, Nat.zero_add]
  refine o2 (t := t) rfl fun p2 pa pb h2 x2 qa qb q2 => ?_
  refine add_ok (x2 _ _ q1) q2 (by show _ ≤ 1000000; simp [ol1, ol2]) fun p3 h3 x3 q3 => ?_
  rw [w_seq, w_set]
  simp only [w_bin, w_v, List.getElem?_cons_zero, List.getElem?_cons_succ, List.set_cons_zero, List.set_cons_succ, ok1_some]
  refine o3 (t := t) rfl fun p4 h4 x4 q4 => ?_
  refine add_ok (x4 _ _ q3) q4 (by show _ ≤ 1000000; simp [ol1, ol2, ol3]) fun p5 h5 x5 q5 => ?_
  rw [w_seq, w_set]
  simp only [w_bin, w_v, List.getElem?_cons_zero, List.getElem?_cons_succ, List.set_cons_zero, List.set_cons_succ, ok1_some]
  refine o4 (t := t) rfl fun p6 pc h6 x6 qc q6 => ?_
  refine add_ok (x6 _ _ q5) q6 (by show _ ≤ 1000000; simp [ol1, ol2, ol3, ol4]) fun p7 h7 x7 q7 => ?_
  rw [w_ret]
  simp only [w_bin, w_v, List.getElem?_cons_zero, List.getElem?_cons_succ, List.set_cons_zero, List.set_cons_succ, ok1_some]
  refine o5 (t := t) rfl fun p8 pd h8 x8 qd q8 => ?_
  refine add_ok (x8 _ _ q7) q8 (by show _ ≤ 1000000; simp [ol1, ol2, ol3, ol4, ol5]) fun p9 h9 x9 q9 => ?_
  have y3 : Ext h2 h9 := x3.trans (x4.trans (x5.trans (x6.trans (x7.trans (x8.trans x9)))))
  exact k p9 pa pb pc pd h9 (x1.trans (x2.trans y3)) q9 (y3 _ _ qa) (y3 _ _ qb) ((x7.trans (x8.trans x9)) _ _ qc) (x9 _ _ qd)
end
/-! each of them is odd -/
section
variable {h : Hm} {t : Tr} {i : Nat}
theorem vdS {s : List Nat} (c : (s.all fun c => decide (c < 128)) = true ∧ s.length ≤ 100) : vd h (.str s) = true := vd_asc c.1 (by omega)
/-- the trees that stand in it -/
structure TT (h : Hm) (d : D) : Prop where
  vd_ : vd h d = true
  sz : dsz d ≤ 108
  at_ : ∃ s xs, d = .tup (.str s :: xs)
  vis_ : ∃ r, vis [d] = some r
  b : ∃ p, Both h 55 4102 d p
theorem tt_of (g : okT t) (hz : siz t ≤ 27) : TT h (toD t) := by
  obtain ⟨xs, e⟩ := d0 t
  exact ⟨vd_tree g, by have := dsz_tree t; omega, ⟨_, _, e⟩, ⟨_, vis_tree t⟩, _, (b_tree g).up (by omega) (by omega)⟩
theorem bad_str {d nm : D} {s : List Nat} {a : List D} (e : parts d = some (nm, .str s :: a)) : badV d := bad_in (a := []) e (bad_none rfl)
def smS (s : List Nat) : Bool := (s.all fun c => decide (c < 128)) && decide (s.length ≤ 9)
theorem vdw {s : List Nat} (c : smS s = true) : vd h (.str s) = true := by
  unfold smS at c
  rw [Bool.and_eq_true, decide_eq_true_eq] at c
  exact vd_asc c.1 (by omega)
theorem bsw {K : Nat} {s : List Nat} (c : smS s = true) : Both h (K + 1) 92 (.str s) (.str ⟨s.toArray⟩) := by
  unfold smS at c
  rw [Bool.and_eq_true, decide_eq_true_eq] at c
  exact bstr c.1 (by omega)
theorem vdt {ds : List D} (q : vds h ds = true) : vd h (.tup ds) = true := q
theorem vdc {d : D} {ds : List D} (a : vd h d = true) (b : vds h ds = true) : vds h (d :: ds) = true := by simp only [vds, a, b, Bool.and_self]
theorem vdn : vds h [] = true := rfl
theorem odd_b {v : D} {p : PyData} {K L : Nat} (a : vd h v = true) (b : badV v) (c : dsz v ≤ 500) (d : Both h K L v p) (k : K ≤ 70) (l : L ≤ 10000) : Odd h v := ⟨a, b, c, p, d.shown.up k l⟩
theorem al_nil : ∀ x ∈ ([] : List D), Odd h x := fun x m => by cases m
theorem al_cons {v : D} {l : List D} (o : Odd h v) (r : ∀ x ∈ l, Odd h x) : ∀ x ∈ v :: l, Odd h x := fun x m => by
  rcases List.mem_cons.mp m with rfl | m
  · exact o
  · exact r x m
theorem al_app {a b : List D} (p : ∀ x ∈ a, Odd h x) (q : ∀ x ∈ b, Odd h x) : ∀ x ∈ a ++ b, Odd h x := fun x m => by
  rcases List.mem_append.mp m with m | m
  · exact p x m
  · exact q x m
theorem al1 : ∀ x ∈ ol1, Odd h x := by
  unfold ol1
  refine al_cons (odd_b rfl (bad_none rfl) (by decide) (bnon (K := 0)) (by decide) (by decide)) ?_
  refine al_cons (odd_b rfl (bad_none rfl) (by decide) (bint (K := 0) (by decide)) (by decide) (by decide)) ?_
  refine al_cons (odd_b rfl (bad_none rfl) (by decide) (bsw (K := 0) (by decide)) (by decide) (by decide)) ?_
  refine al_cons (odd_b rfl (bad_none rfl) (by decide) (btup (bnil (K := 0) (L := 0))) (by decide) (by decide)) ?_
  refine al_cons (odd_b rfl (bad_none rfl) (by decide) (btup (bcons (bsw (K := 0) (by decide)) (bnil (L := 0)))) (by decide) (by decide)) ?_
  refine al_cons (odd_b rfl (bad_name (nm := .str [88]) (ch := []) rfl rfl) (by decide) (btup (bcons (bsw (K := 0) (by decide)) (bcons (bsw (by decide)) (bnil (L := 0))))) (by decide) (by decide)) ?_
  refine al_cons (odd_b rfl (bad_name (nm := .str []) (ch := []) rfl rfl) (by decide) (btup (bcons (bsw (K := 0) (by decide)) (bcons (bsw (by decide)) (bnil (L := 0))))) (by decide) (by decide)) ?_
  refine al_cons (odd_b rfl (bad_name (nm := .str [97, 98, 99, 100, 101, 102, 103, 104, 105]) (ch := []) rfl rfl) (by decide) (btup (bcons (bsw (K := 0) (by decide)) (bcons (bsw (by decide)) (bnil (L := 0))))) (by decide) (by decide)) ?_
  refine al_cons (odd_b rfl (bad_name (nm := .int 5) (ch := []) rfl rfl) (by decide) (btup (bcons (bsw (K := 0) (by decide)) (bcons (bint (by decide)) (bnil (L := 0))))) (by decide) (by decide)) ?_
  exact al_nil
theorem al2 {pa pb : Nat} {d : D} (T : TT h d) (qa : h[pa]? = some (.lst [D.str tUse, D.str [120]])) (qb : h[pb]? = some (.lst [d])) : ∀ x ∈ ol2 pa pb, Odd h x := by
  obtain ⟨p, b⟩ := T.b
  unfold ol2
  refine al_cons ⟨vd_ref qa, bad_none rfl, by simp [dsz], _, (slst qa (bcons (bsw (K := 0) (by decide)) (bcons (bsw (by decide)) (bnil (L := 0))))).up (by decide) (by decide)⟩ ?_
  refine al_cons (odd_b rfl (bad_none rfl) (by decide) (btup (bcons (bsw (K := 0) (by decide)) (bcons (bsw (by decide)) (bcons (btup (bnil (K := 0) (L := 0))) (bnil (L := 0)))))) (by decide) (by decide)) ?_
  refine al_cons (odd_b rfl (bad_none rfl) (by decide) (btup (bcons (bsw (K := 0) (by decide)) (bcons (bsw (by decide)) (bnil (L := 0))))) (by decide) (by decide)) ?_
  refine al_cons ⟨vdt (vdc (vdw (by decide)) (vdc (vdw (by decide)) (vdc (vd_ref qb) vdn))), bad_none rfl, by simp [dsz, dszs], _, (stup (tcons (bsw (K := 55) (by decide)) (tcons (bsw (by decide)) (scons (slst qb (bcons b (bnil (L := 0)))) (bnil (L := 0)))))).up (by decide) (by decide)⟩ ?_
  refine al_cons (odd_b rfl (bad_name (nm := .int 5) (ch := []) rfl rfl) (by decide) (btup (bcons (bsw (K := 0) (by decide)) (bcons (bint (by decide)) (bcons (btup (bnil (K := 0) (L := 0))) (bnil (L := 0)))))) (by decide) (by decide)) ?_
  exact al_nil
theorem al3 {d : D} (T : TT h d) : ∀ x ∈ ol3 d, Odd h x := by
  obtain ⟨p, b⟩ := T.b
  obtain ⟨s, xs, ed⟩ := T.at_
  have sz := T.sz
  unfold ol3
  refine al_cons (odd_b (vdt (vdc (vdw (by decide)) (vdc (vdw (by decide)) (vdc (vdt (vdc T.vd_ vdn)) (vdc T.vd_ vdn))))) (bad_none rfl) (by simp only [dsz, dszs]; omega) (btup (bcons (bsw (K := 55) (by decide)) (bcons (bsw (by decide)) (bcons (btup (bcons b (bnil (L := 0)))) (bcons (b.up (by decide) (Nat.le_refl _)) (bnil (L := 0))))))) (by decide) (by decide)) ?_
  refine al_cons (odd_b (vdt (vdc (vdw (by decide)) (vdc (vdw (by decide)) (vdc T.vd_ vdn)))) (by rw [ed]; exact bad_str (nm := .str [102]) (s := s) (a := xs) rfl) (by simp only [dsz, dszs]; omega) (btup (bcons (bsw (K := 54) (by decide)) (bcons (bsw (by decide)) (bcons b (bnil (L := 0)))))) (by decide) (by decide)) ?_
  refine al_cons (odd_b (vdt (vdc (vdw (by decide)) (vdc (vdw (by decide)) (vdc T.vd_ vdn)))) (by rw [ed]; exact bad_none rfl) (by simp only [dsz, dszs]; omega) (btup (bcons (bsw (K := 54) (by decide)) (bcons (bsw (by decide)) (bcons b (bnil (L := 0)))))) (by decide) (by decide)) ?_
  refine al_cons (odd_b rfl (bad_in (nm := .str [120]) (a := []) (v := .tup []) (b := []) rfl (bad_none rfl)) (by decide) (btup (bcons (bsw (K := 0) (by decide)) (bcons (bsw (by decide)) (bcons (btup (bnil (K := 0) (L := 0))) (bcons (btup (bnil (K := 0) (L := 0))) (bnil (L := 0))))))) (by decide) (by decide)) ?_
  exact al_nil
theorem al4 {pc : Nat} {d : D} (T : TT h d) (qc : h[pc]? = some (.lst [d])) : ∀ x ∈ ol4 d pc, Odd h x := by
  obtain ⟨p, b⟩ := T.b
  obtain ⟨s, xs, ed⟩ := T.at_
  have sz := T.sz
  unfold ol4
  refine al_cons ⟨vdt (vdc (vdw (by decide)) (vdc (vdw (by decide)) (vdc (vd_ref qc) (vdc T.vd_ vdn)))), bad_none rfl, by simp only [dsz, dszs]; omega, _, (stup (tcons (bsw (K := 55) (by decide)) (tcons (bsw (by decide)) (scons (slst qc (bcons b (bnil (L := 0)))) (bcons (b.up (by decide) (Nat.le_refl _)) (bnil (L := 0))))))).up (by decide) (by decide)⟩ ?_
  refine al_cons (odd_b (vdt (vdc (vdw (by decide)) (vdc (vdw (by decide)) (vdc (vdt vdn) (vdc T.vd_ vdn))))) (bad_name (nm := .str [88]) (ch := [d]) rfl rfl) (by simp only [dsz, dszs]; omega) (btup (bcons (bsw (K := 54) (by decide)) (bcons (bsw (by decide)) (bcons (btup (bnil (K := 54) (L := 0))) (bcons b (bnil (L := 0))))))) (by decide) (by decide)) ?_
  refine al_cons (odd_b rfl (bad_none rfl) (by decide) (btup (bcons (bsw (K := 0) (by decide)) (bcons (bsw (by decide)) (bnil (L := 0))))) (by decide) (by decide)) ?_
  refine al_cons (odd_b (vdt (vdc (vdw (by decide)) (vdc (vdw (by decide)) (vdc T.vd_ (vdc T.vd_ vdn))))) (by rw [ed]; exact bad_str (nm := .str [120]) (s := s) (a := xs ++ [.tup (.str s :: xs)]) rfl) (by simp only [dsz, dszs]; omega) (btup (bcons (bsw (K := 54) (by decide)) (bcons (bsw (by decide)) (bcons b (bcons b (bnil (L := 0))))))) (by decide) (by decide)) ?_
  exact al_nil
theorem al5 {pd : Nat} {d : D} (T : TT h d) (qd : h[pd]? = some (.dk [(.inr tUse, .str [120])])) : ∀ x ∈ ol5 d pd, Odd h x := by
  obtain ⟨p, b⟩ := T.b
  have sz := T.sz
  unfold ol5
  refine al_cons (odd_b (vdt (vdc (vdw (by decide)) (vdc rfl (vdc (vdt vdn) (vdc T.vd_ vdn))))) (bad_name (nm := .non) (ch := [d]) rfl rfl) (by simp only [dsz, dszs]; omega) (btup (bcons (bsw (K := 54) (by decide)) (bcons bnon (bcons (btup (bnil (K := 54) (L := 0))) (bcons b (bnil (L := 0))))))) (by decide) (by decide)) ?_
  refine al_cons (odd_b rfl (bad_none rfl) (by decide) (btup (bcons (bnon (K := 0)) (bcons (bsw (by decide)) (bnil (L := 0))))) (by decide) (by decide)) ?_
  refine al_cons ⟨vd_dk qd, bad_none rfl, by simp [dsz], _, (sdk (K := 0) (s := tUse) qd rfl (by simp [vaP]) (by simp [lenP, Str.length]) (by decide) (by decide) (by simp [PyData.depth])).up (by decide) (by decide)⟩ ?_
  refine al_cons (odd_b (vdt (vdc (vdw (by decide)) (vdc (vdw (by decide)) (vdc (vdt vdn) (vdc T.vd_ (vdc (vdt vdn) vdn)))))) (bad_none rfl) (by simp only [dsz, dszs]; omega) (btup (bcons (bsw (K := 54) (by decide)) (bcons (bsw (by decide)) (bcons (btup (bnil (K := 54) (L := 0))) (bcons b (bcons (btup (bnil (K := 54) (L := 0))) (bnil (L := 0)))))))) (by decide) (by decide)) ?_
  exact al_nil
/-! the bent ones -/
theorem odd_join {d v : D} (T : TT h d) (o : Odd h v) : vd h (.tup [.str tJoin, .str [102], .tup [d, v]]) = true ∧ tnodes (.tup [.str tJoin, .str [102], .tup [d, v]]) = [] ∧ dsz (.tup [.str tJoin, .str [102], .tup [d, v]]) ≤ 5000 ∧ ∃ p, Shown h 72 20000 (.tup [.str tJoin, .str [102], .tup [d, v]]) p := by
  obtain ⟨p, b⟩ := T.b
  obtain ⟨pv, sv⟩ := o.sh
  have sz := T.sz
  have sz2 := o.sz
  exact ⟨vdt (vdc (vdw (by decide)) (vdc (vdw (by decide)) (vdc (vdt (vdc T.vd_ (vdc o.vd_ vdn))) vdn))), (bad_in (nm := .str [102]) (a := [d]) (v := v) (b := []) rfl o.bad).tn, by simp only [dsz, dszs]; omega, _,
    (stup (tcons (bsw (K := 70) (by decide)) (tcons (bsw (by decide)) (scons (stup (tcons (b.up (by decide) (Nat.le_refl _)) (scons sv (bnil (L := 0))))) (bnil (L := 0)))))).up (by decide) (by decide)⟩
theorem odd_ahead {d v : D} (T : TT h d) (o : Odd h v) : vd h (.tup [.str tBind, .str [120], .tup [v], d]) = true ∧ tnodes (.tup [.str tBind, .str [120], .tup [v], d]) = [] ∧ dsz (.tup [.str tBind, .str [120], .tup [v], d]) ≤ 5000 ∧ ∃ p, Shown h 72 20000 (.tup [.str tBind, .str [120], .tup [v], d]) p := by
  obtain ⟨p, b⟩ := T.b
  obtain ⟨pv, sv⟩ := o.sh
  have sz := T.sz
  have sz2 := o.sz
  exact ⟨vdt (vdc (vdw (by decide)) (vdc (vdw (by decide)) (vdc (vdt (vdc o.vd_ vdn)) (vdc T.vd_ vdn)))), (bad_in (nm := .str [120]) (a := []) (v := v) (b := [d]) rfl o.bad).tn, by simp only [dsz, dszs]; omega, _,
    (stup (tcons (bsw (K := 70) (by decide)) (tcons (bsw (by decide)) (scons (stup (scons sv (bnil (L := 0)))) (bcons (b.up (by decide) (Nat.le_refl _)) (bnil (L := 0))))))).up (by decide) (by decide)⟩
theorem odd_body {v : D} (o : Odd h v) : vd h (.tup [.str tBind, .str [120], .tup [], v]) = true ∧ tnodes (.tup [.str tBind, .str [120], .tup [], v]) = [] ∧ dsz (.tup [.str tBind, .str [120], .tup [], v]) ≤ 5000 ∧ ∃ p, Shown h 72 20000 (.tup [.str tBind, .str [120], .tup [], v]) p := by
  obtain ⟨pv, sv⟩ := o.sh
  have sz2 := o.sz
  exact ⟨vdt (vdc (vdw (by decide)) (vdc (vdw (by decide)) (vdc (vdt vdn) (vdc o.vd_ vdn)))), (bad_in (nm := .str [120]) (a := []) (v := v) (b := []) rfl o.bad).tn, by simp only [dsz, dszs]; omega, _,
    (stup (tcons (bsw (K := 69) (by decide)) (tcons (bsw (by decide)) (tcons (btup (bnil (K := 69) (L := 0))) (scons sv (bnil (L := 0))))))).up (by decide) (by decide)⟩
end
end ND
end L2.Lv
end
section
set_option maxRecDepth 100000
set_option maxHeartbeats 2000000
set_option autoImplicit false
namespace L2.Lv
namespace ND
open PySem
def b_110 (c : CT) : MS :=
  (mSeq (mSet 2 (mBin pMulA (mLst (mCons (mTup (mCons (mC (.str [98, 105, 110, 100])) (mCons (mC (.str [120])) (mCons (mTup mNil) (mCons (mTup (mCons (mC (.str [117, 115, 101])) (mCons (mC (.str [120])) mNil))) mNil))))) mNil)) (mVar 1)))
  (mRet (mTup (mCons (mC (.str [106, 111, 105, 110])) (mCons (mC (.str [102])) (mCons (mApp pTuple (mCons (mBin pAdd (mVar 2) (mBin pMulA (mLst (mCons (mTup (mCons (mC (.str [117, 115, 101])) (mCons (mC (.str [120])) mNil))) mNil)) (mBin pSub (mBin pSub (mVar 0) (mC (.int 1))) (mBin pMulA (mC (.int 2)) (mVar 1))))) mNil)) mNil))))))
def b_111 (c : CT) : MS :=
  (mSeq (mSet 2 (mVar 1))
  (mSeq (mFor (mRng1 (mCons (mBin pSub (mVar 0) (mC (.int 1))) mNil)) (gSet 3) (mSet 2 (mTup (mCons (mC (.str [106, 111, 105, 110])) (mCons (mC (.str [102])) (mCons (mTup (mCons (mVar 2) mNil)) mNil))))))
  (mRet (mVar 2))))
class ManyF (cf : Nat → CT) : Prop where
  h110 : ∀ m, cf (m + 1) 110 = mBody 2 3 (b_110 (cf m))
  h111 : ∀ m, cf (m + 1) 111 = mBody 2 4 (b_111 (cf m))
def uX : Tr := .use [120]
def bX : Tr := .bind [120] [] uX
def manyT (n b : Nat) : Tr := .join [102] (List.replicate b bX ++ List.replicate (n - 1 - 2 * b) uX)
def wrapT : Nat → Tr → Tr
  | 0, t => t
  | j + 1, t => .join [102] [wrapT j t]
theorem sizs_rep (t : Tr) : ∀ n : Nat, sizs (List.replicate n t) = n * siz t
  | 0 => by simp [sizs]
  | n + 1 => by rw [List.replicate_succ, sizs, sizs_rep t n, Nat.succ_mul]; omega
theorem bnds_rep (t : Tr) : ∀ n : Nat, bnds (List.replicate n t) = n * bnd t
  | 0 => by simp [bnds]
  | n + 1 => by rw [List.replicate_succ, bnds, bnds_rep t n, Nat.succ_mul]; omega
theorem okTs_rep {t : Tr} (g : okT t) : ∀ n : Nat, okTs (List.replicate n t)
  | 0 => trivial
  | n + 1 => ⟨g, okTs_rep g n⟩
theorem deps_rep {t : Tr} : ∀ n : Nat, deps (List.replicate n t) ≤ dep t
  | 0 => by simp [deps]
  | n + 1 => by
    have := deps_rep (t := t) n
    rw [List.replicate_succ]
    simp only [deps]
    omega
theorem ok_uX : okT uX := by show goodW [120] = true; decide +kernel
theorem ok_bX : okT bX := ⟨by decide +kernel, trivial, ok_uX⟩
theorem ok_many {n b : Nat} : okT (manyT n b) := ⟨by decide +kernel, (oks_app _ _).mpr ⟨okTs_rep ok_bX b, okTs_rep ok_uX _⟩⟩
theorem siz_many {n b : Nat} (l : 2 * b + 1 ≤ n) : siz (manyT n b) = n := by
  unfold manyT
  rw [siz, sizs_app, sizs_rep, sizs_rep]
  simp only [bX, uX, siz, sizs]
  omega
theorem bnd_many {n b : Nat} : bnd (manyT n b) = b := by
  unfold manyT
  rw [bnd, bnds_app, bnds_rep, bnds_rep]
  simp only [bX, uX, bnd, bnds]
  omega
theorem dep_many {n b : Nat} : dep (manyT n b) ≤ 3 := by
  unfold manyT
  rw [dep, deps_app]
  have h1 := deps_rep (t := bX) b
  have h2 := deps_rep (t := uX) (n - 1 - 2 * b)
  have e1 : dep bX = 2 := rfl
  have e2 : dep uX = 1 := rfl
  omega
theorem siz_wrap (t : Tr) : ∀ j : Nat, siz (wrapT j t) = j + siz t
  | 0 => by simp [wrapT]
  | j + 1 => by simp only [wrapT, siz, sizs, siz_wrap t j]; omega
theorem bnd_wrap (t : Tr) : ∀ j : Nat, bnd (wrapT j t) = bnd t
  | 0 => by simp [wrapT]
  | j + 1 => by simp only [wrapT, bnd, bnds, bnd_wrap t j]; omega
theorem dep_wrap (t : Tr) : ∀ j : Nat, dep (wrapT j t) = j + dep t
  | 0 => by simp [wrapT]
  | j + 1 => by simp only [wrapT, dep, deps, dep_wrap t j]; omega
theorem ok_wrap {t : Tr} (g : okT t) : ∀ j : Nat, okT (wrapT j t)
  | 0 => g
  | j + 1 => ⟨by decide +kernel, ok_wrap g j, trivial⟩
theorem rep_flat {x : D} : ∀ n : Nat, (List.replicate n [x]).flatten = List.replicate n x
  | 0 => rfl
  | n + 1 => by rw [List.replicate_succ, List.flatten_cons, rep_flat n]; rfl
theorem toDs_rep (t : Tr) (n : Nat) : toDs (List.replicate n t) = List.replicate n (toD t) := by rw [toDs_map, List.map_replicate]
section
variable {h : Hm} {P : D → Hm → Prop}
theorem w_repL {i : Nat} {x : D} {k : Int} (q : h[i]? = some (.lst [x])) (a : 0 ≤ k) (b : k ≤ 100000) : Ok (pMulA (.ref i) (.int k) h) P ↔ P (.ref h.length) (h ++ [.lst (List.replicate k.toNat x)]) := by
  unfold pMulA pRepL
  dsimp only
  rw [q]
  dsimp only
  rw [if_pos ⟨⟨a, b⟩, by simp [big]; omega⟩, rep_flat]
  exact Iff.rfl
end
section
variable {cf : Nat → CT} [ManyF cf]
theorem many_ok {m n b : Nat} {h : Hm} {P : D → Hm → Prop} (l : 2 * b + 1 ≤ n) (hn : n ≤ 500) (k : ∀ h', Ext h h' → P (toD (manyT n b)) h') : Ok (cf (m + 1) 110 [.int n, .int b] h) P := by
  rw [ManyF.h110 (cf := cf)]
  refine ok_body rfl ?_
  unfold b_110
  rw [w_seq, w_set]
  simp only [w_ifS, w_bin, w_app, w_call, w_cons, w_nil, w_tup, w_lst, w_if, w_tb, w_not, w_and, w_or, w_c, w_v, w_un, w_int, w_intB, w_addI, w_subI, w_lt, w_le, w_gt, w_ge, w_eqI, w_methL, startE, List.map_cons, List.map_nil, List.cons_append, List.nil_append, List.getElem?_cons_zero, List.getElem?_cons_succ, List.set_cons_zero, List.set_cons_succ, ok1_some, at0, at1, at2, at3, w_ixT, List.length_cons, List.length_nil, Nat.reduceAdd, Nat.reduceSub, Nat.zero_add, List.replicate_succ, List.replicate_zero]
  refine ⟨by decide, by decide, by decide, by decide, ?_⟩
  rw [w_repL app_at (by omega) (by omega)]
  have b0 : cMul 2 (b : Int) = true := mul_r (by omega) (by omega)
  rw [w_ret]
  simp only [w_ifS, w_bin, w_app, w_call, w_cons, w_nil, w_tup, w_lst, w_if, w_tb, w_not, w_and, w_or, w_c, w_v, w_un, w_int, w_intB, w_addI, w_subI, w_lt, w_le, w_gt, w_ge, w_eqI, w_methL, startE, List.map_cons, List.map_nil, List.cons_append, List.nil_append, List.getElem?_cons_zero, List.getElem?_cons_succ, List.set_cons_zero, List.set_cons_succ, ok1_some, at0, at1, at2, at3, w_ixT, List.length_cons, List.length_nil, Nat.reduceAdd, Nat.reduceSub, Nat.zero_add, List.replicate_succ, List.replicate_zero, w_mul b0]
  refine ⟨by decide, by decide, ?_⟩
  rw [w_repL app_at (by omega) (by omega)]
  rw [Int.toNat_natCast]
  have e : ((n : Int) - 1 - 2 * b).toNat = n - 1 - 2 * b := by omega
  rw [e]
  rw [w_addL (app_old (app_old app_at)) app_at (by simp [big]; omega)]
  rw [w_tupleL (items_l app_at) (by simp [big]; omega)]
  refine ⟨by decide, ?_⟩
  have z : D.tup [D.str [106, 111, 105, 110], D.str [102], D.tup (List.replicate b (D.tup [D.str [98, 105, 110, 100], D.str [120], D.tup [], D.tup [D.str [117, 115, 101], D.str [120]]]) ++ List.replicate (n - 1 - 2 * b) (D.tup [D.str [117, 115, 101], D.str [120]]))] = toD (manyT n b) := by
    unfold manyT
    rw [toD, toDs_app, toDs_rep, toDs_rep]
    rfl
  rw [z]
  exact k _ ((Ext.app.trans Ext.app).trans (Ext.app.trans (Ext.app.trans Ext.app)))
theorem tall_ok {m n : Nat} {t : Tr} {h : Hm} {P : D → Hm → Prop} (hn : n ≤ 500) (k : P (toD (wrapT n t)) h) : Ok (cf (m + 1) 111 [.int (n + 1 : Nat), toD t] h) P := by
  rw [ManyF.h111 (cf := cf)]
  refine ok_body rfl ?_
  unfold b_111
  rw [w_seq, w_set]
  simp only [w_ifS, w_bin, w_app, w_call, w_cons, w_nil, w_tup, w_lst, w_if, w_tb, w_not, w_and, w_or, w_c, w_v, w_un, w_int, w_intB, w_addI, w_subI, w_lt, w_le, w_gt, w_ge, w_eqI, w_methL, startE, List.map_cons, List.map_nil, List.cons_append, List.nil_append, List.getElem?_cons_zero, List.getElem?_cons_succ, List.set_cons_zero, List.set_cons_succ, ok1_some, at0, at1, at2, at3, w_ixT, List.length_cons, List.length_nil, Nat.reduceAdd, Nat.reduceSub, Nat.zero_add, List.replicate_succ, List.replicate_zero]
  rw [w_seq, w_for, w_rng1]
  simp only [w_ifS, w_bin, w_app, w_call, w_cons, w_nil, w_tup, w_lst, w_if, w_tb, w_not, w_and, w_or, w_c, w_v, w_un, w_int, w_intB, w_addI, w_subI, w_lt, w_le, w_gt, w_ge, w_eqI, w_methL, startE, List.map_cons, List.map_nil, List.cons_append, List.nil_append, List.getElem?_cons_zero, List.getElem?_cons_succ, List.set_cons_zero, List.set_cons_succ, ok1_some, at0, at1, at2, at3, w_ixT, List.length_cons, List.length_nil, Nat.reduceAdd, Nat.reduceSub, Nat.zero_add, List.replicate_succ, List.replicate_zero]
  refine ⟨_, rfl, small_of (by omega) (by omega), ?_⟩
  have e : (((n + 1 : Nat) : Int) - 1).toNat = n := by omega
  rw [e]
  refine loop_of (xs := intsR 0 n) (fun j e h' => h' = h ∧ ∃ x3, e = [some (.int (n + 1 : Nat)), some (toD t), some (toD (wrapT j t)), x3]) (fun j e h' _ => rfl) ?_ ?_ n lots 0 _ h (by rw [intsR_len]; omega) (by unfold lots; omega) ⟨rfl, none, rfl⟩
  · rintro j x e h' hj ⟨rfl, x3, rfl⟩
    refine ⟨[some (.int (n + 1 : Nat)), some (toD t), some (toD (wrapT j t)), some x], rfl, ?_⟩
    simp only [w_seq, w_ifS, w_set, w_ret, w_par, w_asg, w_sub, w_drop, w_pass, w_bin, w_app, w_call, w_cons, w_nil, w_tup, w_lst, w_if, w_tb, w_not, w_and, w_or, w_c, w_v, w_un, w_int, w_intB, w_addI, w_subI, w_lt, w_le, w_gt, w_ge, w_eqI, w_methL, startE, List.map_cons, List.map_nil, List.cons_append, List.nil_append, List.getElem?_cons_zero, List.getElem?_cons_succ, List.set_cons_zero, List.set_cons_succ, ok1_some, at0, at1, at2, at3, w_ixT, List.length_cons, List.length_nil, Nat.reduceAdd, Nat.reduceSub, Nat.zero_add, List.replicate_succ, List.replicate_zero]
    exact ⟨by decide, by decide, trivial, _, rfl⟩
  · rintro e h' ⟨rfl, x3, rfl⟩
    rw [intsR_len]
    simp only [w_seq, w_ifS, w_set, w_ret, w_par, w_asg, w_sub, w_drop, w_pass, w_bin, w_app, w_call, w_cons, w_nil, w_tup, w_lst, w_if, w_tb, w_not, w_and, w_or, w_c, w_v, w_un, w_int, w_intB, w_addI, w_subI, w_lt, w_le, w_gt, w_ge, w_eqI, w_methL, startE, List.map_cons, List.map_nil, List.cons_append, List.nil_append, List.getElem?_cons_zero, List.getElem?_cons_succ, List.set_cons_zero, List.set_cons_succ, ok1_some, at0, at1, at2, at3, w_ixT, List.length_cons, List.length_nil, Nat.reduceAdd, Nat.reduceSub, Nat.zero_add, List.replicate_succ, List.replicate_zero]
    exact k
end
end ND
end L2.Lv
end
section
set_option maxRecDepth 100000
set_option maxHeartbeats 4000000
set_option autoImplicit false
namespace L2.Lv
namespace K02
open PySem L2.Lv.ND
instance : Draws cl := ⟨fun _ => rfl, fun _ => rfl, fun _ => rfl, fun _ => rfl, fun _ => rfl, fun _ => rfl, fun _ => rfl, fun _ => rfl, fun _ => rfl⟩
instance : TermF cl := ⟨fun _ => rfl, fun _ => rfl, fun _ => rfl, fun _ => rfl⟩
instance : NameF cl := ⟨fun _ => rfl, fun _ => rfl⟩
instance : ScanF cl := ⟨fun _ => rfl⟩
instance : LimF cl := ⟨fun _ => rfl⟩
instance : KitF cl := ⟨fun _ => rfl, fun _ => rfl, fun _ => rfl⟩
instance : OddF cl := ⟨fun _ => rfl⟩
instance : ManyF cl := ⟨fun _ => rfl, fun _ => rfl⟩
section
variable {e : En} {h : Hm} {P : D → Hm → Prop} {a : MA} {m : Nat} {N : En → Hm → Prop} {R : D → Hm → Prop}
theorem told_none {t : Tr} (g : okT t) (hz : siz t ≤ 1000) (lb : limB t = none) (o : Ok (a e h) fun ds h1 => ds = [toD t] ∧ ∀ h', Ext h1 h' → P .non h') : Ok (mToldN tc_108 (kkE tm_108) (mMake 0 (cl (m + 5) 18) a) e h) P := by
  refine w_told (oe_make (o.mono fun ds h1 w => ?_))
  obtain ⟨rfl, k⟩ := w
  refine init_tree g hz (fun _ h' x => ⟨rfl, ?_⟩) (fun i q => by rw [lb] at q; cases q)
  exact k h' x
theorem told_many {t : Tr} {i : Int} (g : okT t) (hz : siz t ≤ 1000) (lb : limB t = some i) (o : Ok (a e h) fun ds h1 => ds = [toD t] ∧ ∀ q h', Ext h1 h' → h'[q]? = some (.lst [.str [109, 97, 110, 121], .int i, .bl false]) → P (.ref q) h') : Ok (mToldN tc_108 (kkE tm_108) (mMake 0 (cl (m + 5) 18) a) e h) P := by
  refine w_told (oe_make (o.mono fun ds h1 w => ?_))
  obtain ⟨rfl, k⟩ := w
  refine init_tree g hz (fun q => by rw [lb] at q; cases q) fun j q h' x => ?_
  rw [lb] at q
  cases q
  exact ⟨_, rfl, cl_many (k _ _ (x.trans Ext.app) app_at)⟩
theorem told_bad {v : D} (o : Ok (a e h) fun ds h1 => ds = [v] ∧ vd h1 v = true ∧ tnodes v = [] ∧ dsz v ≤ 5000 ∧ ∃ p, Shown h1 72 20000 v p ∧ ∀ q h', Ext h1 h' → h'[q]? = some (.lst [.str [116, 101, 114, 109], .str (shT p), .bl true]) → P (.ref q) h') : Ok (mToldN tc_108 (kkE tm_108) (mMake 0 (cl (m + 4) 18) a) e h) P := by
  refine w_told (oe_make (o.mono fun ds h1 w => ?_))
  obtain ⟨rfl, hv, tn, hz, p, sh, k⟩ := w
  refine init_bad hv hz tn fun h' x => ?_
  exact ⟨_, rfl, cl_shown (sh.ext x) (by decide) (by decide) rfl (k _ _ (x.trans Ext.app) app_at)⟩
/-- not all of them are names -/
theorem inorder_bad {v : D} {E : Nat → D → Hm → Prop} (hv : vd h v = true) (c : ([5, 4] : List Nat).contains (kd h v) = true → ∃ vs, seqOf h v = some vs ∧ vds h vs = true ∧ vs.length ≤ 1000 ∧ vs.all isNm = false) (k : E 23 v h) : OkE (cl (m + 3) 11 [v] h) P E := by
  rw [show cl (m + 3) 11 = mBody 1 1 (b_11 (cl (m + 2))) from rfl]
  refine oe_body rfl ?_
  unfold b_11
  rw [ww_seq]
  refine ww_if ?_
  simp only [w_ifS, w_bin, w_app, w_call, w_cons, w_nil, w_tup, w_lst, w_if, w_tb, w_not, w_and, w_or, w_c, w_v, w_un, w_int, w_intB, w_addI, w_subI, w_lt, w_le, w_gt, w_ge, w_eqI, w_methL, startE, List.map_cons, List.map_nil, List.cons_append, List.nil_append, List.getElem?_cons_zero, List.getElem?_cons_succ, List.set_cons_zero, List.set_cons_succ, ok1_some, at0, at1, at2, at3, w_ixT, List.length_cons, List.length_nil, Nat.reduceAdd, Nat.reduceSub, Nat.zero_add, List.replicate_succ, List.replicate_zero, w_tru]
  rw [w_isi (nc := 1) (vd_kd hv)]
  refine ⟨_, rfl, ?_⟩
  cases q : ([5, 4] : List Nat).contains (kd h v) with
  | false =>
    rw [if_pos (by simp), if_pos trivial]
    refine ww_raise ?_
    simp only [w_ifS, w_bin, w_app, w_call, w_cons, w_nil, w_tup, w_lst, w_if, w_tb, w_not, w_and, w_or, w_c, w_v, w_un, w_int, w_intB, w_addI, w_subI, w_lt, w_le, w_gt, w_ge, w_eqI, w_methL, startE, List.map_cons, List.map_nil, List.cons_append, List.nil_append, List.getElem?_cons_zero, List.getElem?_cons_succ, List.set_cons_zero, List.set_cons_succ, ok1_some, at0, at1, at2, at3, w_ixT, List.length_cons, List.length_nil, Nat.reduceAdd, Nat.reduceSub, Nat.zero_add, List.replicate_succ, List.replicate_zero]
    exact k
  | true =>
    obtain ⟨vs, hs, hvs, hl, hn⟩ := c q
    rw [if_neg (by simp)]
    refine allnames_ok hs (fun x hx => vd_kd (vds_mem hvs hx)) (fun s hm => (vd_str (vds_mem hvs hm)).2) (by omega) ?_
    refine ⟨_, rfl, ?_⟩
    rw [hn, if_pos (by simp)]
    refine ww_raise ?_
    simp only [w_ifS, w_bin, w_app, w_call, w_cons, w_nil, w_tup, w_lst, w_if, w_tb, w_not, w_and, w_or, w_c, w_v, w_un, w_int, w_intB, w_addI, w_subI, w_lt, w_le, w_gt, w_ge, w_eqI, w_methL, startE, List.map_cons, List.map_nil, List.cons_append, List.nil_append, List.getElem?_cons_zero, List.getElem?_cons_succ, List.set_cons_zero, List.set_cons_succ, ok1_some, at0, at1, at2, at3, w_ixT, List.length_cons, List.length_nil, Nat.reduceAdd, Nat.reduceSub, Nat.zero_add, List.replicate_succ, List.replicate_zero]
    exact k
theorem told_names {v : D} (o : Ok (a e h) fun ds h1 => ds = [v] ∧ vd h1 v = true ∧ (([5, 4] : List Nat).contains (kd h1 v) = true → ∃ vs, seqOf h1 v = some vs ∧ vds h1 vs = true ∧ vs.length ≤ 1000 ∧ vs.all isNm = false) ∧ ∃ p, Shown h1 72 20000 v p ∧ ∀ q h', Ext h1 h' → h'[q]? = some (.lst [.str [110, 97, 109, 101, 115], .str (shT p), .bl true]) → P (.ref q) h') : Ok (mToldN tc_108 (kkE tm_108) (mCall (cl (m + 3) 11) a) e h) P := by
  refine w_told (oe_call (o.mono fun ds h1 w => ?_))
  obtain ⟨rfl, hv, c, p, sh, k⟩ := w
  refine inorder_bad hv c ?_
  exact ⟨_, rfl, cl_shown sh (by decide) (by decide) rfl (k _ _ Ext.app app_at)⟩
/-- a walk over a list that stays -/
theorem for_ref {q i : Nat} {xs : List D} {b : MS} {Fr : En → Prop} (it : itemsOf h q = some xs) (hn : xs.length ≤ 1000) (e0 : Fr e) (step : ∀ x ∈ xs, ∀ e' hx, Fr e' → Ext h hx → OkS (b (e'.set i (some x)) hx) (fun e2 h2 => Fr e2 ∧ Ext h h2) R) (fin : ∀ e' hx, Fr e' → Ext h hx → N e' hx) : OkS (mLoop (.live q) (gSet i) b lots 0 e h) N R := by
  refine loop_of (xs := xs) (fun j e' hx => Fr e' ∧ Ext h hx) (fun j e' hx v => nxt_live (v.2.items it)) ?_ ?_ xs.length lots 0 _ h (by omega) (by unfold lots; omega) ⟨e0, Ext.refl⟩
  · rintro j x e' hx hj ⟨fr, v⟩
    exact ⟨_, rfl, step x (List.mem_of_getElem? hj) e' hx fr v⟩
  · rintro e' hx ⟨fr, v⟩
    exact fin e' hx fr v
end
/-! ### the limits, right -/
theorem lim_none {t : Tr} (a : siz t ≤ 400) (b : bnd t ≤ 60) (c : dep t ≤ 100) : limB t = none := by
  unfold limB
  rw [if_neg (by omega), if_neg (by omega), if_neg (by omega)]
theorem lim_400 {t : Tr} (a : 400 < siz t) : limB t = some 400 := by unfold limB; rw [if_pos a]
theorem lim_60 {t : Tr} (a : siz t ≤ 400) (b : 60 < bnd t) : limB t = some 60 := by unfold limB; rw [if_neg (by omega), if_pos b]
theorem lim_100 {t : Tr} (a : siz t ≤ 400) (b : bnd t ≤ 60) (c : 100 < dep t) : limB t = some 100 := by unfold limB; rw [if_neg (by omega), if_neg (by omega), if_pos c]
theorem tn_ne {t : Tr} (g : okT t) : (!(tnodes (toD t)).isEmpty) = true := by
  rw [tnodes_tree g, nod_below]
  rfl
theorem lims_ok {m : Nat} {h : Hm} {P : D → Hm → Prop} (k : ∀ h', Ext h h' → P (.bl true) h') : Ok (clq (m + 8) 112 [] h) P := by
  rw [show clq (m + 8) 112 = mBody 0 1 (b_112 (cl (m + 7)) (clq (m + 7))) from rfl]
  refine ok_body rfl ?_
  unfold b_112
  rw [w_seq, w_for]
  have uXe : D.tup [D.str [117, 115, 101], D.str [120]] = toD uX := rfl
  have e400 : ∀ {hx : Hm} {Q : D → Hm → Prop} {b : Nat}, b ≤ 61 → (∀ h', Ext hx h' → Q (toD (manyT 400 b)) h') → Ok (cl (m + 7) 110 [.int 400, .int b] hx) Q := fun hb kk => many_ok (m := m + 6) (n := 400) (by omega) (by omega) kk
  refine w_src ?_
  simp only [w_ifS, w_bin, w_app, w_call, w_cons, w_nil, w_tup, w_lst, w_if, w_tb, w_not, w_and, w_or, w_c, w_v, w_un, w_int, w_intB, w_addI, w_subI, w_lt, w_le, w_gt, w_ge, w_eqI, w_methL, startE, List.map_cons, List.map_nil, List.cons_append, List.nil_append, List.getElem?_cons_zero, List.getElem?_cons_succ, List.set_cons_zero, List.set_cons_succ, ok1_some, at0, at1, at2, at3, w_ixT, List.length_cons, List.length_nil, Nat.reduceAdd, Nat.reduceSub, Nat.zero_add, List.replicate_succ, List.replicate_zero, uXe]
  refine many_ok (m := m + 6) (n := 400) (b := 60) (by omega) (by omega) fun h1 x1 => ?_
  refine ⟨by decide, ?_⟩
  refine tall_ok (m := m + 6) (n := 99) (t := uX) (by omega) ?_
  refine ⟨by decide, .inr ⟨_, _, rfl, items_l app_at, ?_⟩⟩
  refine for_ref (Fr := fun e' => ∃ x, e' = [x]) (items_l app_at) (by simp) ⟨none, rfl⟩ ?_ ?_
  · rintro x hx e' h2 ⟨x0, rfl⟩ x2
    have key : ∃ t : Tr, x = toD t ∧ okT t ∧ siz t ≤ 1000 ∧ limB t = none := by
      simp only [List.mem_cons, List.not_mem_nil, or_false] at hx
      rcases hx with rfl | rfl
      · have e1 := siz_many (n := 400) (b := 60) (by omega)
        have e2 := bnd_many (n := 400) (b := 60)
        have e3 := dep_many (n := 400) (b := 60)
        exact ⟨_, rfl, ok_many, by omega, lim_none (by omega) (by omega) (by omega)⟩
      · have e1 := siz_wrap uX 99
        have e2 := bnd_wrap uX 99
        have e3 := dep_wrap uX 99
        have f1 : siz uX = 1 := rfl
        have f2 : bnd uX = 0 := rfl
        have f3 : dep uX = 1 := rfl
        exact ⟨_, rfl, ok_wrap ok_uX 99, by omega, lim_none (by omega) (by omega) (by omega)⟩
    obtain ⟨t, rfl, g, hz, lb⟩ := key
    simp only [w_seq, w_ifS, w_set, w_ret, w_par, w_asg, w_sub, w_drop, w_pass, w_bin, w_app, w_call, w_cons, w_nil, w_tup, w_lst, w_if, w_tb, w_not, w_and, w_or, w_c, w_v, w_un, w_int, w_intB, w_addI, w_subI, w_lt, w_le, w_gt, w_ge, w_eqI, w_methL, startE, List.map_cons, List.map_nil, List.cons_append, List.nil_append, List.getElem?_cons_zero, List.getElem?_cons_succ, List.set_cons_zero, List.set_cons_succ, ok1_some, at0, at1, at2, at3, w_ixT, List.length_cons, List.length_nil, Nat.reduceAdd, Nat.reduceSub, Nat.zero_add, List.replicate_succ, List.replicate_zero]
    refine told_none (m := m + 2) g hz lb ?_
    simp only [w_ifS, w_bin, w_app, w_call, w_cons, w_nil, w_tup, w_lst, w_if, w_tb, w_not, w_and, w_or, w_c, w_v, w_un, w_int, w_intB, w_addI, w_subI, w_lt, w_le, w_gt, w_ge, w_eqI, w_methL, startE, List.map_cons, List.map_nil, List.cons_append, List.nil_append, List.getElem?_cons_zero, List.getElem?_cons_succ, List.set_cons_zero, List.set_cons_succ, ok1_some, at0, at1, at2, at3, w_ixT, List.length_cons, List.length_nil, Nat.reduceAdd, Nat.reduceSub, Nat.zero_add, List.replicate_succ, List.replicate_zero]
    refine ⟨trivial, fun h3 x3 => ?_⟩
    rw [w_isN]
    refine ⟨_, rfl, ?_⟩
    rw [if_neg (by simp [isNon])]
    refine istree_ok (m := m + 3) (vd_tree g) (by have := dsz_tree t; omega) fun h4 x4 => ?_
    rw [tn_ne g, w_isB]
    refine ⟨_, rfl, ?_⟩
    rw [if_neg (by decide)]
    exact ⟨⟨_, rfl⟩, x2.trans (x3.trans x4)⟩
  rintro e' h2 ⟨x0, rfl⟩ x2
  have y2 : Ext h h2 := (x1.trans Ext.app).trans x2
  clear x1 x2
  -- 401 nodes
  have s401 := siz_many (n := 401) (b := 61) (by omega)
  rw [w_seq, w_ifS]
  simp only [w_tb, w_bin]
  refine told_many (m := m + 2) (t := manyT 401 61) (i := 400) ok_many (by omega) (lim_400 (by omega)) ?_
  simp only [w_ifS, w_bin, w_app, w_call, w_cons, w_nil, w_tup, w_lst, w_if, w_tb, w_not, w_and, w_or, w_c, w_v, w_un, w_int, w_intB, w_addI, w_subI, w_lt, w_le, w_gt, w_ge, w_eqI, w_methL, startE, List.map_cons, List.map_nil, List.cons_append, List.nil_append, List.getElem?_cons_zero, List.getElem?_cons_succ, List.set_cons_zero, List.set_cons_succ, ok1_some, at0, at1, at2, at3, w_ixT, List.length_cons, List.length_nil, Nat.reduceAdd, Nat.reduceSub, Nat.zero_add, List.replicate_succ, List.replicate_zero]
  refine many_ok (m := m + 6) (n := 401) (b := 61) (by omega) (by omega) fun h3 x3 => ⟨rfl, fun q h4 x4 q4 => ?_⟩
  refine ⟨by decide, ?_⟩
  rw [ne_many (app_old q4) app_at (by decide)]
  refine ⟨_, rfl, ?_⟩
  rw [if_neg (by decide), w_pass, w_seq, w_ifS]
  simp only [w_ifS, w_bin, w_app, w_call, w_cons, w_nil, w_tup, w_lst, w_if, w_tb, w_not, w_and, w_or, w_c, w_v, w_un, w_int, w_intB, w_addI, w_subI, w_lt, w_le, w_gt, w_ge, w_eqI, w_methL, startE, List.map_cons, List.map_nil, List.cons_append, List.nil_append, List.getElem?_cons_zero, List.getElem?_cons_succ, List.set_cons_zero, List.set_cons_succ, ok1_some, at0, at1, at2, at3, w_ixT, List.length_cons, List.length_nil, Nat.reduceAdd, Nat.reduceSub, Nat.zero_add, List.replicate_succ, List.replicate_zero]
  refine many_ok (m := m + 6) (n := 401) (b := 61) (by omega) (by omega) fun h5 x5 => ?_
  refine istree_ok (m := m + 3) (vd_tree ok_many) (by have := dsz_tree (manyT 401 61); omega) fun h6 x6 => ?_
  rw [tn_ne ok_many, w_isB]
  refine ⟨_, rfl, ?_⟩
  rw [if_neg (by decide), w_pass, w_seq, w_ifS]
  have y6 : Ext h h6 := (y2.trans (x3.trans x4)).trans (Ext.app.trans (x5.trans x6))
  clear x3 x4 x5 x6 q4
  -- 61 binders
  have s61 := siz_many (n := 400) (b := 61) (by omega)
  have b61 := bnd_many (n := 400) (b := 61)
  simp only [w_tb, w_bin]
  refine told_many (m := m + 2) (t := manyT 400 61) (i := 60) ok_many (by omega) (lim_60 (by omega) (by omega)) ?_
  simp only [w_ifS, w_bin, w_app, w_call, w_cons, w_nil, w_tup, w_lst, w_if, w_tb, w_not, w_and, w_or, w_c, w_v, w_un, w_int, w_intB, w_addI, w_subI, w_lt, w_le, w_gt, w_ge, w_eqI, w_methL, startE, List.map_cons, List.map_nil, List.cons_append, List.nil_append, List.getElem?_cons_zero, List.getElem?_cons_succ, List.set_cons_zero, List.set_cons_succ, ok1_some, at0, at1, at2, at3, w_ixT, List.length_cons, List.length_nil, Nat.reduceAdd, Nat.reduceSub, Nat.zero_add, List.replicate_succ, List.replicate_zero]
  refine many_ok (m := m + 6) (n := 400) (b := 61) (by omega) (by omega) fun h3 x3 => ⟨rfl, fun q h4 x4 q4 => ?_⟩
  refine ⟨by decide, ?_⟩
  rw [ne_many (app_old q4) app_at (by decide)]
  refine ⟨_, rfl, ?_⟩
  rw [if_neg (by decide), w_pass, w_seq, w_ifS]
  have y7 : Ext h (h4 ++ [Ob.lst [D.str [109, 97, 110, 121], D.int 60, D.bl false]]) := (y6.trans (x3.trans x4)).trans Ext.app
  generalize h4 ++ [Ob.lst [D.str [109, 97, 110, 121], D.int 60, D.bl false]] = h7 at y7 ⊢
  clear x3 x4 q4 y6
  -- 101 on a way
  have e1 := siz_wrap uX 100
  have e2 := bnd_wrap uX 100
  have e3 := dep_wrap uX 100
  have f1 : siz uX = 1 := rfl
  have f2 : bnd uX = 0 := rfl
  have f3 : dep uX = 1 := rfl
  simp only [w_tb, w_bin]
  refine told_many (m := m + 2) (t := wrapT 100 uX) (i := 100) (ok_wrap ok_uX 100) (by omega) (lim_100 (by omega) (by omega) (by omega)) ?_
  simp only [w_ifS, w_bin, w_app, w_call, w_cons, w_nil, w_tup, w_lst, w_if, w_tb, w_not, w_and, w_or, w_c, w_v, w_un, w_int, w_intB, w_addI, w_subI, w_lt, w_le, w_gt, w_ge, w_eqI, w_methL, startE, List.map_cons, List.map_nil, List.cons_append, List.nil_append, List.getElem?_cons_zero, List.getElem?_cons_succ, List.set_cons_zero, List.set_cons_succ, ok1_some, at0, at1, at2, at3, w_ixT, List.length_cons, List.length_nil, Nat.reduceAdd, Nat.reduceSub, Nat.zero_add, List.replicate_succ, List.replicate_zero, uXe]
  refine ⟨by decide, ?_⟩
  refine tall_ok (m := m + 6) (n := 100) (t := uX) (by omega) ⟨rfl, fun q h4 x4 q4 => ?_⟩
  refine ⟨by decide, ?_⟩
  rw [ne_many (app_old q4) app_at (by decide)]
  refine ⟨_, rfl, ?_⟩
  rw [if_neg (by decide), w_pass, w_ret]
  have y8 : Ext h (h4 ++ [Ob.lst [D.str [109, 97, 110, 121], D.int 100, D.bl false]]) := (y7.trans x4).trans Ext.app
  generalize h4 ++ [Ob.lst [D.str [109, 97, 110, 121], D.int 100, D.bl false]] = h8 at y8 ⊢
  -- binders first
  have w1 := siz_wrap (manyT 200 61) 100
  have w2 := bnd_wrap (manyT 200 61) 100
  have s200 := siz_many (n := 200) (b := 61) (by omega)
  have b200 := bnd_many (n := 200) (b := 61)
  simp only [w_bin]
  refine told_many (m := m + 2) (t := wrapT 100 (manyT 200 61)) (i := 60) (ok_wrap ok_many 100) (by omega) (lim_60 (by omega) (by omega)) ?_
  simp only [w_ifS, w_bin, w_app, w_call, w_cons, w_nil, w_tup, w_lst, w_if, w_tb, w_not, w_and, w_or, w_c, w_v, w_un, w_int, w_intB, w_addI, w_subI, w_lt, w_le, w_gt, w_ge, w_eqI, w_methL, startE, List.map_cons, List.map_nil, List.cons_append, List.nil_append, List.getElem?_cons_zero, List.getElem?_cons_succ, List.set_cons_zero, List.set_cons_succ, ok1_some, at0, at1, at2, at3, w_ixT, List.length_cons, List.length_nil, Nat.reduceAdd, Nat.reduceSub, Nat.zero_add, List.replicate_succ, List.replicate_zero]
  refine many_ok (m := m + 6) (n := 200) (b := 61) (by omega) (by omega) fun h9 x9 => ?_
  refine tall_ok (m := m + 6) (n := 100) (t := manyT 200 61) (by omega) ⟨rfl, fun q ha xa qa => ?_⟩
  refine ⟨by decide, ?_⟩
  rw [eq_many (app_old qa) app_at (by decide)]
  exact k _ ((y8.trans (x9.trans xa)).trans Ext.app)
/-! ### the names, right -/
theorem tn_use {v : D} : (!(tnodes (.tup [.str tUse, v])).isEmpty) = isNm v := by
  unfold tnodes
  rw [vis_cons, show parts (.tup [.str tUse, v]) = some (v, []) from rfl]
  dsimp only
  rw [List.append_nil, vis_nil]
  dsimp only
  rw [List.all_cons, List.all_nil, Bool.and_true]
  cases isNm v <;> rfl
theorem names_ok {m : Nat} {h : Hm} {P : D → Hm → Prop} (k : ∀ h', Ext h h' → P (.bl true) h') : Ok (cl (m + 6) 113 [] h) P := by
  rw [show cl (m + 6) 113 = mBody 0 2 (b_113 (cl (m + 5))) from rfl]
  refine ok_body rfl ?_
  unfold b_113
  rw [w_seq, w_for]
  refine w_src ?_
  simp only [w_ifS, w_bin, w_app, w_call, w_cons, w_nil, w_tup, w_lst, w_if, w_tb, w_not, w_and, w_or, w_c, w_v, w_un, w_int, w_intB, w_addI, w_subI, w_lt, w_le, w_gt, w_ge, w_eqI, w_methL, startE, List.map_cons, List.map_nil, List.cons_append, List.nil_append, List.getElem?_cons_zero, List.getElem?_cons_succ, List.set_cons_zero, List.set_cons_succ, ok1_some, at0, at1, at2, at3, w_ixT, List.length_cons, List.length_nil, Nat.reduceAdd, Nat.reduceSub, Nat.zero_add, List.replicate_succ, List.replicate_zero]
  refine ⟨by decide, .inr ⟨_, _, rfl, items_l app_at, ?_⟩⟩
  have one : ∀ (x : D) (b : Bool) (i : Nat) (e' : En) (hx : Hm) (N : En → Hm → Prop) (R : D → Hm → Prop), e'[i]? = some (some x) → vd hx x = true → dsz x ≤ 100 → isNm x = b → (∀ h', Ext hx h' → N e' h') →
      OkS (mIfS (mOrT (mTb (mBin (pIs true) (mCall (cl (m + 5) 7) (mCons (mVar i) mNil)) (mC (.bl b)))) (mTb (mBin (pIs true) (mCall (cl (m + 5) 10) (mCons (mTup (mCons (mC (.str [117, 115, 101])) (mCons (mVar i) mNil))) mNil)) (mC (.bl b))))) (mRet (mC (.bl false))) mPass e' hx) N R := by
    intro x b i e' hx N R he hv hz hn kk
    simp only [w_ifS, w_or, w_tb, w_bin, w_call, w_cons, w_nil, w_tup, w_c, w_var he]
    refine isname_ok (m := m + 3) hv ?_
    rw [hn, w_isB]
    refine ⟨_, rfl, ?_⟩
    rw [if_neg (by cases b <;> decide)]
    refine ⟨by simp [big], ?_⟩
    refine istree_ok (m := m + 1) (vdt (vdc (vdw (by decide)) (vdc hv vdn))) (by simp only [dsz, dszs]; omega) fun h2 x2 => ?_
    rw [show D.tup [D.str [117, 115, 101], x] = D.tup [D.str tUse, x] from rfl, tn_use, hn, w_isB]
    refine ⟨_, rfl, ?_⟩
    rw [if_neg (by cases b <;> decide), w_pass]
    exact kk h2 x2
  refine for_ref (Fr := fun e' => ∃ x0, e' = [x0, none]) (items_l app_at) (by simp) ⟨none, rfl⟩ ?_ ?_
  · rintro x hx e' h2 ⟨x0, rfl⟩ x2
    have key : vd h2 x = true ∧ dsz x ≤ 100 ∧ isNm x = true := by
      simp only [List.mem_cons, List.not_mem_nil, or_false] at hx
      rcases hx with rfl | rfl | rfl | rfl
      · exact ⟨rfl, by decide, rfl⟩
      · exact ⟨rfl, by decide, rfl⟩
      · exact ⟨rfl, by decide, rfl⟩
      · exact ⟨rfl, by decide, rfl⟩
    exact one x true 0 _ h2 _ _ rfl key.1 key.2.1 key.2.2 fun h3 x3 => ⟨⟨_, rfl⟩, x2.trans x3⟩
  rintro e' h2 ⟨x0, rfl⟩ x2
  rw [w_seq, w_for]
  refine w_src ?_
  simp only [w_ifS, w_bin, w_app, w_call, w_cons, w_nil, w_tup, w_lst, w_if, w_tb, w_not, w_and, w_or, w_c, w_v, w_un, w_int, w_intB, w_addI, w_subI, w_lt, w_le, w_gt, w_ge, w_eqI, w_methL, startE, List.map_cons, List.map_nil, List.cons_append, List.nil_append, List.getElem?_cons_zero, List.getElem?_cons_succ, List.set_cons_zero, List.set_cons_succ, ok1_some, at0, at1, at2, at3, w_ixT, List.length_cons, List.length_nil, Nat.reduceAdd, Nat.reduceSub, Nat.zero_add, List.replicate_succ, List.replicate_zero]
  refine ⟨by decide, by decide, by decide, .inr ⟨_, _, rfl, items_l app_at, ?_⟩⟩
  refine for_ref (Fr := fun e' => ∃ x1, e' = [x0, x1]) (items_l app_at) (by simp) ⟨none, rfl⟩ ?_ ?_
  · rintro x hx e' h3 ⟨x1, rfl⟩ x3
    have q3 : h3[h2.length]? = some (.lst [.str [97]]) := x3 _ _ (app_old app_at)
    have key : vd h3 x = true ∧ dsz x ≤ 100 ∧ isNm x = false := by
      simp only [List.mem_cons, List.not_mem_nil, or_false] at hx
      rcases hx with rfl | rfl | rfl | rfl | rfl | rfl | rfl | rfl | rfl | rfl | rfl | rfl
      · exact ⟨rfl, by decide, rfl⟩
      · exact ⟨rfl, by decide, rfl⟩
      · exact ⟨rfl, by decide, rfl⟩
      · exact ⟨rfl, by decide, rfl⟩
      · exact ⟨rfl, by decide, rfl⟩
      · exact ⟨rfl, by decide, rfl⟩
      · exact ⟨rfl, by decide, rfl⟩
      · exact ⟨rfl, by decide, rfl⟩
      · exact ⟨rfl, by decide, rfl⟩
      · exact ⟨vd_ref q3, by simp [dsz], rfl⟩
      · exact ⟨rfl, by decide, rfl⟩
      · exact ⟨rfl, by decide, rfl⟩
    exact one x false 1 _ h3 _ _ rfl key.1 key.2.1 key.2.2 fun h4 x4 => ⟨⟨_, rfl⟩, x3.trans x4⟩
  rintro e' h3 ⟨x1, rfl⟩ x3
  simp only [w_seq, w_ifS, w_set, w_ret, w_par, w_asg, w_sub, w_drop, w_pass, w_bin, w_app, w_call, w_cons, w_nil, w_tup, w_lst, w_if, w_tb, w_not, w_and, w_or, w_c, w_v, w_un, w_int, w_intB, w_addI, w_subI, w_lt, w_le, w_gt, w_ge, w_eqI, w_methL, startE, List.map_cons, List.map_nil, List.cons_append, List.nil_append, List.getElem?_cons_zero, List.getElem?_cons_succ, List.set_cons_zero, List.set_cons_succ, ok1_some, at0, at1, at2, at3, w_ixT, List.length_cons, List.length_nil, Nat.reduceAdd, Nat.reduceSub, Nat.zero_add, List.replicate_succ, List.replicate_zero]
  exact k _ (((Ext.app.trans x2).trans (Ext.app.trans Ext.app)).trans x3)
/-! ### the law -/
structure Bp (h : Hm) (v : D) : Prop where
  vd_ : vd h v = true
  tn : tnodes v = []
  sz : dsz v ≤ 5000
  sh : ∃ p, Shown h 72 20000 v p
theorem Bp.ext {h h' : Hm} {v : D} (x : Ext h h') (o : Bp h v) : Bp h' v := ⟨vd_ext x o.vd_, o.tn, o.sz, o.sh.elim fun p q => ⟨p, q.ext x⟩⟩
theorem bp_of {h : Hm} {v : D} (o : vd h v = true ∧ tnodes v = [] ∧ dsz v ≤ 5000 ∧ ∃ p, Shown h 72 20000 v p) : Bp h v := ⟨o.1, o.2.1, o.2.2.1, o.2.2.2⟩
theorem bp_odd {h : Hm} {v : D} (o : Odd h v) : Bp h v := ⟨o.vd_, o.bad.tn, by have := o.sz; omega, o.sh.elim fun p q => ⟨p, q.up (by decide) (by decide)⟩⟩
section
variable {e : En} {h : Hm} {P : D → Hm → Prop} {m i : Nat} {N : En → Hm → Prop} {R : D → Hm → Prop} {v : D} {p : PyData}
theorem told_var (he : e[i]? = some (some v)) (B : Bp h v) (sh : Shown h 72 20000 v p) (k : ∀ q h', Ext h h' → h'[q]? = some (.lst [.str [116, 101, 114, 109], .str (shT p), .bl true]) → P (.ref q) h') : Ok (mToldN tc_108 (kkE tm_108) (mMake 0 (cl (m + 4) 18) (mCons (mVar i) mNil)) e h) P := by
  refine told_bad (v := v) ?_
  simp only [w_cons, w_nil, w_var he]
  exact ⟨trivial, B.vd_, B.tn, B.sz, p, sh, k⟩
theorem w_reprA {t : List Nat} (q : reprA h v = some t) : Ok (pReprA [v] h) P ↔ P (.str t) h := by
  unfold pReprA
  dsimp only
  rw [q]
  exact Iff.rfl
theorem bent_ok (he : e[6]? = some (some v)) (B : Bp h v) (k : ∀ h', Ext h h' → N e h') :
    OkS (mSeq (mIfS (mTru (mCall (cl (m + 5) 10) (mCons (mVar 6) mNil))) (mRet (mC (.bl false))) mPass)
  (mIfS (mTb (mBin pNe (mToldN tc_108 (kkE tm_108) (mMake 0 (cl (m + 5) 18) (mCons (mVar 6) mNil))) (mLst (mCons (mC (.str [116, 101, 114, 109])) (mCons (mApp pReprA (mCons (mVar 6) mNil)) (mCons (mC (.bl true)) mNil)))))) (mRet (mC (.bl false))) mPass) e h) N R := by
  obtain ⟨p, sh⟩ := B.sh
  rw [w_seq, w_ifS]
  simp only [w_tru, w_call, w_cons, w_nil, w_var he]
  refine istree_ok (m := m + 1) B.vd_ B.sz fun h1 x1 => ?_
  rw [B.tn]
  refine ⟨_, rfl, ?_⟩
  rw [if_neg (by simp), w_pass, w_ifS, w_tb, w_bin]
  refine told_var (m := m + 1) he (B.ext x1) (sh.ext x1) fun q h2 x2 q2 => ?_
  simp only [w_lst, w_cons, w_nil, w_c, w_app, w_var he]
  rw [w_reprA ((sh.ext (x1.trans x2)).reprA (by decide) (by decide))]
  refine ⟨by simp [big], ?_⟩
  rw [ne_shown (s := [116, 101, 114, 109]) (app_old q2) app_at (by decide) (shT_ok sh.va)]
  refine ⟨_, rfl, ?_⟩
  rw [if_neg (by decide), w_pass]
  exact k _ ((x1.trans x2).trans Ext.app)
theorem names_step (he : e[4]? = some (some v)) (hv : vd h v = true) (c : ([5, 4] : List Nat).contains (kd h v) = true → ∃ vs, seqOf h v = some vs ∧ vds h vs = true ∧ vs.length ≤ 1000 ∧ vs.all isNm = false) (sh : Shown h 72 20000 v p) (k : ∀ h', Ext h h' → N e h') :
    OkS (mIfS (mTb (mBin pNe (mToldN tc_108 (kkE tm_108) (mCall (cl (m + 3) 11) (mCons (mVar 4) mNil))) (mLst (mCons (mC (.str [110, 97, 109, 101, 115])) (mCons (mApp pReprA (mCons (mVar 4) mNil)) (mCons (mC (.bl true)) mNil)))))) (mRet (mC (.bl false))) mPass e h) N R := by
  rw [w_ifS, w_tb, w_bin]
  refine told_names (v := v) ?_
  simp only [w_cons, w_nil, w_var he]
  refine ⟨trivial, hv, c, p, sh, fun q h2 x2 q2 => ?_⟩
  simp only [w_lst, w_cons, w_nil, w_c, w_app, w_var he]
  rw [w_reprA ((sh.ext x2).reprA (by decide) (by decide))]
  refine ⟨by simp [big], ?_⟩
  rw [ne_shown (s := [110, 97, 109, 101, 115]) (app_old q2) app_at (by decide) (shT_ok sh.va)]
  refine ⟨_, rfl, ?_⟩
  rw [if_neg (by decide), w_pass]
  exact k _ (x2.trans Ext.app)
end
theorem names_loop {m : Nat} {e : En} {h : Hm} {N : En → Hm → Prop} {R : D → Hm → Prop} {Fr : En → Prop} (fe : Fr e) (fr : ∀ e' x, Fr e' → Fr (e'.set 4 (some x)) ∧ (e'.set 4 (some x))[4]? = some (some x)) (k : ∀ e' h', Fr e' → Ext h h' → N e' h') :
    OkS (mFor (mSrc (mLst (mCons (mC .non) (mCons (mC (.str [120])) (mCons (mLst (mCons (mC .non) mNil)) (mCons (mLst (mCons (mC (.str [88])) mNil)) (mCons (mTup (mCons (mC (.str [120])) (mCons (mC (.int 5)) mNil))) (mCons (mDisp [[120]] (mCons (mC (.int 1)) mNil)) (mCons (mC (.int 5)) mNil))))))))) (gSet 4) (mIfS (mTb (mBin pNe (mToldN tc_108 (kkE tm_108) (mCall (cl (m + 3) 11) (mCons (mVar 4) mNil))) (mLst (mCons (mC (.str [110, 97, 109, 101, 115])) (mCons (mApp pReprA (mCons (mVar 4) mNil)) (mCons (mC (.bl true)) mNil)))))) (mRet (mC (.bl false))) mPass) e h) N R := by
  rw [w_for]
  refine w_src ?_
  simp only [w_ifS, w_bin, w_app, w_call, w_cons, w_nil, w_tup, w_lst, w_if, w_tb, w_not, w_and, w_or, w_c, w_v, w_un, w_int, w_intB, w_addI, w_subI, w_lt, w_le, w_gt, w_ge, w_eqI, w_methL, startE, List.map_cons, List.map_nil, List.cons_append, List.nil_append, List.getElem?_cons_zero, List.getElem?_cons_succ, List.set_cons_zero, List.set_cons_succ, ok1_some, at0, at1, at2, at3, w_ixT, List.length_cons, List.length_nil, Nat.reduceAdd, Nat.reduceSub, Nat.zero_add, List.replicate_succ, List.replicate_zero, w_disp1]
  refine ⟨by decide, by decide, by decide, by decide, .inr ⟨_, _, rfl, items_l app_at, ?_⟩⟩
  generalize ea : h.length = pa
  generalize eb : (h ++ [Ob.lst [D.non]]).length = pb
  generalize ec : (h ++ [Ob.lst [D.non]] ++ [Ob.lst [D.str [88]]]).length = pc
  refine for_ref (Fr := Fr) (items_l app_at) (by simp) fe ?_ ?_
  · intro x hx e' h3 f3 x3
    have qa : h3[pa]? = some (.lst [.non]) := x3 _ _ (app_old (app_old (app_old (by rw [← ea]; exact app_at))))
    have qb : h3[pb]? = some (.lst [.str [88]]) := x3 _ _ (app_old (app_old (by rw [← eb]; exact app_at)))
    have qc : h3[pc]? = some (.dk [(.inr [120], .int 1)]) := x3 _ _ (app_old (by rw [← ec]; exact app_at))
    have key : vd h3 x = true ∧ (([5, 4] : List Nat).contains (kd h3 x) = true → ∃ vs, seqOf h3 x = some vs ∧ vds h3 vs = true ∧ vs.length ≤ 1000 ∧ vs.all isNm = false) ∧ ∃ p, Shown h3 72 20000 x p := by
      simp only [List.mem_cons, List.not_mem_nil, or_false] at hx
      rcases hx with rfl | rfl | rfl | rfl | rfl | rfl | rfl
      · exact ⟨rfl, fun z => by simp [kd] at z, _, (bnon (K := 0)).shown.up (by decide) (by decide)⟩
      · exact ⟨rfl, fun z => by simp [kd] at z, _, (bsw (K := 0) (by decide)).shown.up (by decide) (by decide)⟩
      · exact ⟨vd_ref qa, fun _ => ⟨[.non], items_l qa, rfl, by simp, rfl⟩, _, (slst qa (bcons (bnon (K := 0)) (bnil (L := 0)))).up (by decide) (by decide)⟩
      · exact ⟨vd_ref qb, fun _ => ⟨[.str [88]], items_l qb, rfl, by simp, rfl⟩, _, (slst qb (bcons (bsw (K := 0) (by decide)) (bnil (L := 0)))).up (by decide) (by decide)⟩
      · exact ⟨rfl, fun _ => ⟨_, rfl, rfl, by simp, rfl⟩, _, (btup (bcons (bsw (K := 0) (by decide)) (bcons (bint (by decide)) (bnil (L := 0))))).shown.up (by decide) (by decide)⟩
      · exact ⟨vd_dk qc, fun z => by simp [kd, qc] at z, _, (sdk (K := 0) (s := [120]) qc rfl (by simp [vaP]) (by simp [lenP]) (by decide) (by decide) (by simp [PyData.depth])).up (by decide) (by decide)⟩
      · exact ⟨rfl, fun z => by simp [kd] at z, _, (bint (K := 0) (by decide)).shown.up (by decide) (by decide)⟩
    obtain ⟨kv, kc, p, ksh⟩ := key
    have f4 := fr e' x f3
    exact names_step f4.2 kv kc ksh fun h4 x4 => ⟨f4.1, x3.trans x4⟩
  · intro e' h3 f3 x3
    exact k e' h3 f3 ((Ext.app.trans (Ext.app.trans (Ext.app.trans Ext.app))).trans x3)
theorem ex_of {x : Re D} (o : Ok x fun d _ => d = .bl true) : ∃ h', x = .ok (.bl true) h' := by
  cases x with
  | ok d h' =>
    have o : d = .bl true := o
    subst o
    exact ⟨h', rfl⟩
  | _ => exact o.elim
theorem law_ok {ns : List Int} {m : Nat} {h : Hm} (hh : h[0]? = some (.frz (ns.map D.int))) (hl : ns.length ≤ 63) : ∃ h', mBody 1 7 (b_76 (cl (m + 50)) (clq (m + 50))) [.ref 0] h = .ok (.bl true) h' := by
  refine ex_of ?_
  refine ok_body rfl ?_
  unfold b_76
  rw [w_seq, w_ifS]
  simp only [w_or, w_not, w_tru, w_call, w_nil]
  refine lims_ok (m := m + 42) fun h1 x1 => ?_
  refine ⟨true, rfl, ?_⟩
  rw [if_neg (by decide)]
  refine names_ok (m := m + 44) fun h2 x2 => ?_
  refine ⟨true, rfl, ?_⟩
  rw [if_neg (by decide), w_pass]
  have y2 := x1.trans x2
  have hs0 : h2[0]? = some (.frz (ns.map D.int)) := y2 0 _ hh
  clear x1 x2 y2 h1
  rw [w_seq, w_for, w_rng1]
  simp only [w_ifS, w_bin, w_app, w_call, w_cons, w_nil, w_tup, w_lst, w_if, w_tb, w_not, w_and, w_or, w_c, w_v, w_un, w_int, w_intB, w_addI, w_subI, w_lt, w_le, w_gt, w_ge, w_eqI, w_methL, startE, List.map_cons, List.map_nil, List.cons_append, List.nil_append, List.getElem?_cons_zero, List.getElem?_cons_succ, List.set_cons_zero, List.set_cons_succ, ok1_some, at0, at1, at2, at3, w_ixT, List.length_cons, List.length_nil, Nat.reduceAdd, Nat.reduceSub, Nat.zero_add, List.replicate_succ, List.replicate_zero, w_lenL (items_f hs0), w_min2, w_max2]
  have jb : ∃ j : Int, maxI 1 (minI 6 ((ns.map D.int).length : Nat)) = j ∧ 0 ≤ j ∧ j ≤ 6 := by
    refine ⟨_, rfl, ?_, ?_⟩
    · unfold maxI minI
      split <;> split <;> omega
    · unfold maxI minI
      split <;> split <;> omega
  obtain ⟨j, ej, j0, j6⟩ := jb
  refine ⟨j, by rw [ej], small_of j0 (by omega), ?_⟩
  refine loop_of (xs := intsR 0 j.toNat) (fun n e hx => hx[0]? = some (.frz (ns.map D.int)) ∧ ∃ x1 x2 x3 x4 x5 x6, e = [some (.ref 0), x1, x2, x3, x4, x5, x6]) (fun _ _ _ _ => rfl) ?_ ?_ j.toNat lots 0 _ h2 (by rw [intsR_len]; omega) (by unfold lots; omega) ⟨hs0, _, _, _, _, _, _, rfl⟩
  · rintro n x e hx hn ⟨hs, x1, x2, x3, x4, x5, x6, rfl⟩
    have ln : n < j.toNat := by
      have := (List.getElem?_eq_some_iff.mp hn).1
      rwa [intsR_len] at this
    have ex : x = .int (n : Nat) := by
      unfold intsR at hn
      rw [List.getElem?_map, List.getElem?_range ln] at hn
      simp only [Option.map_some, Option.some.injEq] at hn
      rw [← hn]
      simp
    subst ex
    refine ⟨[some (.ref 0), some (.int (n : Nat)), x2, x3, x4, x5, x6], rfl, ?_⟩
    rw [w_seq, w_set]
    simp only [w_ifS, w_bin, w_app, w_call, w_cons, w_nil, w_tup, w_lst, w_if, w_tb, w_not, w_and, w_or, w_c, w_v, w_un, w_int, w_intB, w_addI, w_subI, w_lt, w_le, w_gt, w_ge, w_eqI, w_methL, startE, List.map_cons, List.map_nil, List.cons_append, List.nil_append, List.getElem?_cons_zero, List.getElem?_cons_succ, List.set_cons_zero, List.set_cons_succ, ok1_some, at0, at1, at2, at3, w_ixT, List.length_cons, List.length_nil, Nat.reduceAdd, Nat.reduceSub, Nat.zero_add, List.replicate_succ, List.replicate_zero]
    refine pool_ok (m := m + 49) hs (by omega) (by omega) fun s h3 es s3 old3 => ?_
    have q3 : h3[0]? = some (.frz (ns.map D.int)) := old3 _ _ hs
    have ls : 0 < s := by
      rw [es]
      exact lt_of_at hs
    rw [w_seq, w_set]
    simp only [w_ifS, w_bin, w_app, w_call, w_cons, w_nil, w_tup, w_lst, w_if, w_tb, w_not, w_and, w_or, w_c, w_v, w_un, w_int, w_intB, w_addI, w_subI, w_lt, w_le, w_gt, w_ge, w_eqI, w_methL, startE, List.map_cons, List.map_nil, List.cons_append, List.nil_append, List.getElem?_cons_zero, List.getElem?_cons_succ, List.set_cons_zero, List.set_cons_succ, ok1_some, at0, at1, at2, at3, w_ixT, List.length_cons, List.length_nil, Nat.reduceAdd, Nat.reduceSub, Nat.zero_add, List.replicate_succ, List.replicate_zero]
    have tok : ∀ Q : D → Hm → Prop, (∀ (t : Tr) (h' : Hm), good t → (siz t : Int) ≤ 27 → But s h3 h' → Q (toD t) h') → Ok (cl (m + 50) 64 [.ref s, .int 10, .int 3] h3) Q := fun Q kk => by
      have lv : m + 50 = 2 * 10 + 4 + (m + 26) := by omega
      rw [lv]
      exact tree_ok (m := m + 26) (n := 10) (b := 3) (by decide) (by decide) (by decide) (by decide) s3 fun t h' g z _ _ b => kk t h' g z b
    refine tok _ fun t h4 gd sz bt => ?_
    have q4 : h4[0]? = some (.frz (ns.map D.int)) := bt.2 _ _ (by omega) q3
    have T : ∀ {h : Hm}, L2.Lv.ND.TT h (toD t) := tt_of (ok_of_good gd) (by omega)
    rw [w_seq, w_for]
    refine w_src ?_
    simp only [w_ifS, w_bin, w_app, w_call, w_cons, w_nil, w_tup, w_lst, w_if, w_tb, w_not, w_and, w_or, w_c, w_v, w_un, w_int, w_intB, w_addI, w_subI, w_lt, w_le, w_gt, w_ge, w_eqI, w_methL, startE, List.map_cons, List.map_nil, List.cons_append, List.nil_append, List.getElem?_cons_zero, List.getElem?_cons_succ, List.set_cons_zero, List.set_cons_succ, ok1_some, at0, at1, at2, at3, w_ixT, List.length_cons, List.length_nil, Nat.reduceAdd, Nat.reduceSub, Nat.zero_add, List.replicate_succ, List.replicate_zero]
    refine odd_list (m := m + 49) fun q pa pb pc pd h5 x5' ql qa qb qc qd => ?_
    refine .inr ⟨_, _, rfl, items_l ql, ?_⟩
    have odds : ∀ v ∈ ol1 ++ ol2 pa pb ++ ol3 (toD t) ++ ol4 (toD t) pc ++ ol5 (toD t) pd, Odd h5 v := al_app (al_app (al_app (al_app al1 (al2 T qa qb)) (al3 T)) (al4 T qc)) (al5 T qd)
    have q5 := x5' _ _ q4
    refine for_ref (Fr := fun e' => ∃ x4 x5 x6, e' = [some (.ref 0), some (.int (n : Nat)), some (.ref s), some (toD t), x4, x5, x6]) (items_l ql) (by simp [ol1, ol2, ol3, ol4, ol5]) ⟨_, _, _, rfl⟩ ?_ ?_
    · rintro v hv e' h6 ⟨x4, x5, x6, rfl⟩ x6'
      have O : Odd h6 v := (odds v hv).ext x6'
      have B := bp_odd O
      obtain ⟨p, sh⟩ := B.sh
      rw [w_seq, w_set]
      simp only [w_ifS, w_bin, w_app, w_call, w_cons, w_nil, w_tup, w_lst, w_if, w_tb, w_not, w_and, w_or, w_c, w_v, w_un, w_int, w_intB, w_addI, w_subI, w_lt, w_le, w_gt, w_ge, w_eqI, w_methL, startE, List.map_cons, List.map_nil, List.cons_append, List.nil_append, List.getElem?_cons_zero, List.getElem?_cons_succ, List.set_cons_zero, List.set_cons_succ, ok1_some, at0, at1, at2, at3, w_ixT, List.length_cons, List.length_nil, Nat.reduceAdd, Nat.reduceSub, Nat.zero_add, List.replicate_succ, List.replicate_zero]
      rw [w_reprA (sh.reprA (by decide) (by decide))]
      refine ⟨by simp [big], ?_⟩
      have x7 : Ext h6 (h6 ++ [Ob.lst [D.str [116, 101, 114, 109], D.str (shT p), D.bl true]]) := Ext.app
      have q7 : (h6 ++ [Ob.lst [D.str [116, 101, 114, 109], D.str (shT p), D.bl true]])[h6.length]? = some (.lst [D.str [116, 101, 114, 109], D.str (shT p), D.bl true]) := app_at
      show OkS _ _ _
      revert x7 q7
      rw [show Ob.lst [D.str [116, 101, 114, 109], D.str (shT p), D.bl true] = Ob.lst [D.str [116, 101, 114, 109], D.str (shT p), D.bl true] from rfl]
      generalize h6 ++ [Ob.lst [D.str [116, 101, 114, 109], D.str (shT p), D.bl true]] = h7
      intro x7 q7
      rw [w_seq, w_ifS, w_or]
      simp only [w_tru, w_call, w_cons, w_nil, w_v, List.getElem?_cons_zero, List.getElem?_cons_succ, ok1_some]
      refine istree_ok (m := m + 46) (B.ext x7).vd_ B.sz fun h8 x8 => ?_
      rw [B.tn]
      refine ⟨_, rfl, ?_⟩
      rw [if_neg (by simp), w_tb, w_bin]
      refine told_var (m := m + 46) (v := v) rfl (B.ext (x7.trans x8)) (sh.ext (x7.trans x8)) fun qq h9 x9 q9 => ?_
      simp only [w_v, List.getElem?_cons_zero, List.getElem?_cons_succ, ok1_some]
      rw [ne_shown (s := [116, 101, 114, 109]) q9 (x9 _ _ (x8 _ _ q7)) (by decide) (shT_ok sh.va)]
      refine ⟨_, rfl, ?_⟩
      rw [if_neg (by decide), w_pass]
      have O9 := O.ext (x7.trans (x8.trans x9))
      rw [w_for]
      refine w_src ?_
      simp only [w_ifS, w_bin, w_app, w_call, w_cons, w_nil, w_tup, w_lst, w_if, w_tb, w_not, w_and, w_or, w_c, w_v, w_un, w_int, w_intB, w_addI, w_subI, w_lt, w_le, w_gt, w_ge, w_eqI, w_methL, startE, List.map_cons, List.map_nil, List.cons_append, List.nil_append, List.getElem?_cons_zero, List.getElem?_cons_succ, List.set_cons_zero, List.set_cons_succ, ok1_some, at0, at1, at2, at3, w_ixT, List.length_cons, List.length_nil, Nat.reduceAdd, Nat.reduceSub, Nat.zero_add, List.replicate_succ, List.replicate_zero]
      refine ⟨by decide, by decide, by decide, by decide, by decide, by decide, by decide, .inr ⟨_, _, rfl, items_l app_at, ?_⟩⟩
      refine for_ref (Fr := fun e' => ∃ x6, e' = [some (.ref 0), some (.int (n : Nat)), some (.ref s), some (toD t), some v, some (.ref h6.length), x6]) (items_l app_at) (by simp) ⟨_, rfl⟩ ?_ ?_
      · rintro w hw e' ha ⟨x6, rfl⟩ xa
        have Oa := O9.ext (Ext.app.trans xa)
        have Bw : Bp ha w := by
          simp only [List.mem_cons, List.not_mem_nil, or_false] at hw
          rcases hw with rfl | rfl | rfl
          · exact bp_of (odd_join T Oa)
          · exact bp_of (odd_ahead T Oa)
          · exact bp_of (odd_body Oa)
        exact bent_ok (m := m + 45) rfl Bw fun hb xb => ⟨⟨_, rfl⟩, xa.trans xb⟩
      · rintro e' ha ⟨x6, rfl⟩ xa
        exact ⟨⟨_, _, _, rfl⟩, x6'.trans ((x7.trans (x8.trans x9)).trans (Ext.app.trans xa))⟩
    · rintro e' h6 ⟨x4, x5, x6, rfl⟩ x6'
      refine names_loop (m := m + 47) (Fr := fun e' => ∃ x4 x5 x6, e' = [some (.ref 0), some (.int (n : Nat)), some (.ref s), some (toD t), x4, x5, x6]) ⟨_, _, _, rfl⟩ ?_ ?_
      · rintro e' x ⟨x4, x5, x6, rfl⟩
        exact ⟨⟨_, _, _, rfl⟩, rfl⟩
      · rintro e' h7 ⟨x4, x5, x6, rfl⟩ x7
        exact ⟨x7 _ _ (x6' _ _ q5), _, _, _, _, _, _, rfl⟩
  · rintro e hx ⟨hs, x1, x2, x3, x4, x5, x6, rfl⟩
    simp only [w_seq, w_ifS, w_set, w_ret, w_par, w_asg, w_sub, w_drop, w_pass, w_bin, w_app, w_call, w_cons, w_nil, w_tup, w_lst, w_if, w_tb, w_not, w_and, w_or, w_c, w_v, w_un, w_int, w_intB, w_addI, w_subI, w_lt, w_le, w_gt, w_ge, w_eqI, w_methL, startE, List.map_cons, List.map_nil, List.cons_append, List.nil_append, List.getElem?_cons_zero, List.getElem?_cons_succ, List.set_cons_zero, List.set_cons_succ, ok1_some, at0, at1, at2, at3, w_ixT, List.length_cons, List.length_nil, Nat.reduceAdd, Nat.reduceSub, Nat.zero_add, List.replicate_succ, List.replicate_zero]
theorem math (ns : List Int) (hl : ns.length ≤ 63) : ∃ h', mBody 1 7 (b_76 (cl 50) (clq 50)) [.ref 0] [.frz (ns.map D.int)] = .ok (.bl true) h' := law_ok (m := 0) (h := [.frz (ns.map D.int)]) rfl hl
end K02
end L2.Lv
end
section
set_option maxRecDepth 100000
set_option maxHeartbeats 4000000
set_option autoImplicit false
namespace L2.Lv
namespace K02
open PySem PySem.Spec PyProof.Rows
theorem all_mk {l : PySem.W.OpenLaw} {w : World} {K : PySem.W.Frag} {h : Heap} {mg : Str → Option Value} {fa0 : Addr} (X : K.In h) (Gn : h.Ns mainGlobals mg) (hfa : mg "law" = some (.ref fa0))
    {C0 : Addr}
    {C20 : Addr}
    {C23 : Addr}
    {C24 : Addr}
    {C26 : Addr}
    {f2 : Addr} {od2 an2 : Option Addr} {sl2 : Array (Option Value)} {oc2 dc2 pm2 ct2 : Value} {kV2 : Value} {cd2 : Value}
    {f5 : Addr} {od5 an5 : Option Addr} {sl5 : Array (Option Value)} {oc5 dc5 pm5 ct5 : Value} {kV5 : Value} {cd5 : Value}
    {f6 : Addr} {od6 an6 : Option Addr} {sl6 : Array (Option Value)} {oc6 dc6 pm6 ct6 : Value} {kV6 : Value} {cd6 : Value}
    {f7 : Addr} {od7 an7 : Option Addr} {sl7 : Array (Option Value)} {oc7 dc7 pm7 ct7 : Value} {kV7 : Value} {cd7 : Value}
    {f10 : Addr} {od10 an10 : Option Addr} {sl10 : Array (Option Value)} {oc10 dc10 pm10 ct10 : Value} {kV10 : Value} {cd10 : Value}
    {f11 : Addr} {od11 an11 : Option Addr} {sl11 : Array (Option Value)} {oc11 dc11 pm11 ct11 : Value} {kV11 : Value} {cd11 : Value}
    {f13 : Addr} {od13 an13 : Option Addr} {sl13 : Array (Option Value)} {oc13 dc13 pm13 ct13 : Value} {kV13 : Value} {cd13 : Value}
    {f14 : Addr} {od14 an14 : Option Addr} {sl14 : Array (Option Value)} {oc14 dc14 pm14 ct14 : Value} {kV14 : Value} {cd14 : Value}
    {f16 : Addr} {od16 an16 : Option Addr} {sl16 : Array (Option Value)} {oc16 dc16 pm16 ct16 : Value} {kV16 : Value} {cd16 : Value}
    {f17 : Addr} {od17 an17 : Option Addr} {sl17 : Array (Option Value)} {oc17 dc17 pm17 ct17 : Value} {kV17 : Value} {cd17 : Value}
    {f18 : Addr} {od18 an18 : Option Addr} {sl18 : Array (Option Value)} {oc18 dc18 pm18 ct18 : Value} {kV18 : Value} {cd18 : Value}
    {f55 : Addr} {od55 an55 : Option Addr} {sl55 : Array (Option Value)} {oc55 dc55 pm55 ct55 : Value} {kV55 : Value} {cd55 : Value}
    {f56 : Addr} {od56 an56 : Option Addr} {sl56 : Array (Option Value)} {oc56 dc56 pm56 ct56 : Value} {kV56 : Value} {cd56 : Value}
    {f57 : Addr} {od57 an57 : Option Addr} {sl57 : Array (Option Value)} {oc57 dc57 pm57 ct57 : Value} {kV57 : Value} {cd57 : Value}
    {f59 : Addr} {od59 an59 : Option Addr} {sl59 : Array (Option Value)} {oc59 dc59 pm59 ct59 : Value} {kV59 : Value} {cd59 : Value}
    {f60 : Addr} {od60 an60 : Option Addr} {sl60 : Array (Option Value)} {oc60 dc60 pm60 ct60 : Value} {kV60 : Value} {cd60 : Value}
    {f61 : Addr} {od61 an61 : Option Addr} {sl61 : Array (Option Value)} {oc61 dc61 pm61 ct61 : Value} {kV61 : Value} {cd61 : Value}
    {f62 : Addr} {od62 an62 : Option Addr} {sl62 : Array (Option Value)} {oc62 dc62 pm62 ct62 : Value} {kV62 : Value} {cd62 : Value}
    {f63 : Addr} {od63 an63 : Option Addr} {sl63 : Array (Option Value)} {oc63 dc63 pm63 ct63 : Value} {kV63 : Value} {cd63 : Value}
    {f64 : Addr} {od64 an64 : Option Addr} {sl64 : Array (Option Value)} {oc64 dc64 pm64 ct64 : Value} {kV64 : Value} {cd64 : Value}
    {f76 : Addr} {od76 an76 : Option Addr} {sl76 : Array (Option Value)} {oc76 dc76 pm76 ct76 : Value} {kV76 : Value}
    {f102 : Addr} {od102 an102 : Option Addr} {sl102 : Array (Option Value)} {oc102 dc102 pm102 ct102 : Value} {kV102 : Value} {cd102 : Value}
    {f103 : Addr} {od103 an103 : Option Addr} {sl103 : Array (Option Value)} {oc103 dc103 pm103 ct103 : Value} {kV103 : Value} {cd103 : Value}
    {f104 : Addr} {od104 an104 : Option Addr} {sl104 : Array (Option Value)} {oc104 dc104 pm104 ct104 : Value} {kV104 : Value} {cd104 : Value}
    {f105 : Addr} {od105 an105 : Option Addr} {sl105 : Array (Option Value)} {oc105 dc105 pm105 ct105 : Value} {kV105 : Value} {cd105 : Value}
    {f108 : Addr} {od108 an108 : Option Addr} {sl108 : Array (Option Value)} {oc108 dc108 pm108 ct108 : Value} {kV108 : Value} {cd108 : Value}
    {f109 : Addr} {od109 an109 : Option Addr} {sl109 : Array (Option Value)} {oc109 dc109 pm109 ct109 : Value} {kV109 : Value} {cd109 : Value}
    {f110 : Addr} {od110 an110 : Option Addr} {sl110 : Array (Option Value)} {oc110 dc110 pm110 ct110 : Value} {kV110 : Value} {cd110 : Value}
    {f111 : Addr} {od111 an111 : Option Addr} {sl111 : Array (Option Value)} {oc111 dc111 pm111 ct111 : Value} {kV111 : Value} {cd111 : Value}
    {f112 : Addr} {od112 an112 : Option Addr} {sl112 : Array (Option Value)} {oc112 dc112 pm112 ct112 : Value} {kV112 : Value}
    {f113 : Addr} {od113 an113 : Option Addr} {sl113 : Array (Option Value)} {oc113 dc113 pm113 ct113 : Value} {kV113 : Value} {cd113 : Value}
    {cc76 Pt76 : Addr} {ec76 : Value} {ddc76 : Option Addr} {vsc76 : Array Value} {slc76 : Array (Option Value)} {flc76 : Str} {tfc76 tgc76 ttc76 : Tok} {flg76 txc76 : Int} {inf76 : Bool}
    {cc112 Pt112 : Addr} {ec112 : Value} {ddc112 : Option Addr} {vsc112 : Array Value} {slc112 : Array (Option Value)} {flc112 : Str} {tfc112 tgc112 ttc112 : Tok} {flg112 txc112 : Int} {inf112 : Bool}
    {RQ : Str → Bool}
    {t_LONGEST_NAME : Tok}
    {t_MOST_BINDERS : Tok}
    {t_MOST_NODES : Tok}
    {t_MOST_ON_A_WAY : Tok}
    {xn23 xq23 : Str} {xb23 xm23 : List Value} {xN23 : Addr} {xs23 : List Str} {xu23 : List Value} {xa23 : Bool} {xc23 : Option Bool} {xd23 : Option Addr} {xk0_23 xk1_23 xk2_23 xk3_23 xk5_23 : Option Value}
    {xn20 xq20 : Str} {xb20 xm20 : List Value} {xN20 : Addr} {xs20 : List Str} {xu20 : List Value} {xa20 : Bool} {xc20 : Option Bool} {xd20 : Option Addr} {xk0_20 xk1_20 xk2_20 xk3_20 xk5_20 : Option Value}
    {xn24 xq24 : Str} {xb24 : List Value} {xN24 : Addr} {xs24 : List Str} {xu24 : List Value} {xa24 : Bool} {xc24 : Option Bool} {xd24 : Option Addr} {xk0_24 xk1_24 xk2_24 xk3_24 xk5_24 : Option Value}
    (own : ∀ (nm : Str) (f : Addr), mg nm = some (.ref f) → RQ nm = true → LamX.OwnTab K f h)
    (n_C0 : PySem.W.nsIn K mainGlobals "Term" = some (some (.ref C0)))
    (pg0 : PySem.W.plainGet K C0 Str.empty = true)
    (hd0 : PySem.W.hasDictIn K C0 = true)
    (po0 : PySem.W.plainOver K C0 = true)
    (sa0 : PySem.W.findIn K (.ref C0) "__setattr__" = some (some (.builtin "object.__setattr__")))
    (ca0 : PySem.W.findIn K (.ref C0) "__class__" = some (some (.builtin "object.__class__")))
    (ob0 : PySem.W.mroIn K C0 (.type "object") = some true)
    (n_C20 : PySem.W.nsIn K mainGlobals "NoTerm" = some (some (.ref C20)))
    (n_C23 : PySem.W.nsIn K mainGlobals "NoNames" = some (some (.ref C23)))
    (n_C24 : PySem.W.nsIn K mainGlobals "TooMany" = some (some (.ref C24)))
    (n_C26 : PySem.W.nsIn K mainGlobals "BinderError" = some (some (.ref C26)))
    (cn : PySem.W.specialIn K (.builtin "object.__class__") "__get__" = some (some (.builtin "getset_descriptor.__get__")))
    (ct : PySem.W.takesIn K (.builtin "object.__class__") = some true)
    (a2 : PySem.W.findIn K (.ref C20) "__init__" = some (some (.ref f2)))
    (l2 : K.lookup f2 = some ⟨oc2, od2, .func (PySem.W.fnOf "__init__" "NoTerm.__init__" (defArgs st_2) (defBody st_2) (defScope st_2) .none kV2 dc2 pm2 an2 cd2 ct2), sl2⟩)
    (c2 : PySem.W.codeIn K cd2 "NoTerm.__init__" = true)
    (k2 : PySem.W.keepIn K (.ref f2) = true)
    (a5 : PySem.W.findIn K (.ref C23) "__init__" = some (some (.ref f5)))
    (l5 : K.lookup f5 = some ⟨oc5, od5, .func (PySem.W.fnOf "__init__" "NoNames.__init__" (defArgs st_5) (defBody st_5) (defScope st_5) .none kV5 dc5 pm5 an5 cd5 ct5), sl5⟩)
    (c5 : PySem.W.codeIn K cd5 "NoNames.__init__" = true)
    (k5 : PySem.W.keepIn K (.ref f5) = true)
    (a6 : PySem.W.findIn K (.ref C24) "__init__" = some (some (.ref f6)))
    (l6 : K.lookup f6 = some ⟨oc6, od6, .func (PySem.W.fnOf "__init__" "TooMany.__init__" (defArgs st_6) (defBody st_6) (defScope st_6) .none kV6 dc6 pm6 an6 cd6 ct6), sl6⟩)
    (c6 : PySem.W.codeIn K cd6 "TooMany.__init__" = true)
    (k6 : PySem.W.keepIn K (.ref f6) = true)
    (a7 : PySem.W.nsIn K mainGlobals "is_name" = some (some (.ref f7)))
    (l7 : K.lookup f7 = some ⟨oc7, od7, .func (PySem.W.fnOf "is_name" "is_name" (defArgs st_7) (defBody st_7) (defScope st_7) .none kV7 dc7 pm7 an7 cd7 ct7), sl7⟩)
    (c7 : PySem.W.codeIn K cd7 "is_name" = true)
    (k7 : PySem.W.keepIn K (.ref f7) = true)
    (a10 : PySem.W.nsIn K mainGlobals "is_tree" = some (some (.ref f10)))
    (l10 : K.lookup f10 = some ⟨oc10, od10, .func (PySem.W.fnOf "is_tree" "is_tree" (defArgs st_10) (defBody st_10) (defScope st_10) .none kV10 dc10 pm10 an10 cd10 ct10), sl10⟩)
    (c10 : PySem.W.codeIn K cd10 "is_tree" = true)
    (k10 : PySem.W.keepIn K (.ref f10) = true)
    (a11 : PySem.W.nsIn K mainGlobals "in_order" = some (some (.ref f11)))
    (l11 : K.lookup f11 = some ⟨oc11, od11, .func (PySem.W.fnOf "in_order" "in_order" (defArgs st_11) (defBody st_11) (defScope st_11) .none kV11 dc11 pm11 an11 cd11 ct11), sl11⟩)
    (c11 : PySem.W.codeIn K cd11 "in_order" = true)
    (k11 : PySem.W.keepIn K (.ref f11) = true)
    (a13 : PySem.W.nsIn K mainGlobals "trees_below" = some (some (.ref f13)))
    (l13 : K.lookup f13 = some ⟨oc13, od13, .func (PySem.W.fnOf "trees_below" "trees_below" (defArgs st_13) (defBody st_13) (defScope st_13) .none kV13 dc13 pm13 an13 cd13 ct13), sl13⟩)
    (c13 : PySem.W.codeIn K cd13 "trees_below" = true)
    (k13 : PySem.W.keepIn K (.ref f13) = true)
    (a14 : PySem.W.nsIn K mainGlobals "row_below" = some (some (.ref f14)))
    (l14 : K.lookup f14 = some ⟨oc14, od14, .func (PySem.W.fnOf "row_below" "row_below" (defArgs st_14) (defBody st_14) (defScope st_14) .none kV14 dc14 pm14 an14 cd14 ct14), sl14⟩)
    (c14 : PySem.W.codeIn K cd14 "row_below" = true)
    (k14 : PySem.W.keepIn K (.ref f14) = true)
    (a16 : PySem.W.nsIn K mainGlobals "numbers_of" = some (some (.ref f16)))
    (l16 : K.lookup f16 = some ⟨oc16, od16, .func (PySem.W.fnOf "numbers_of" "numbers_of" (defArgs st_16) (defBody st_16) (defScope st_16) .none kV16 dc16 pm16 an16 cd16 ct16), sl16⟩)
    (c16 : PySem.W.codeIn K cd16 "numbers_of" = true)
    (k16 : PySem.W.keepIn K (.ref f16) = true)
    (a17 : PySem.W.nsIn K mainGlobals "depth_of" = some (some (.ref f17)))
    (l17 : K.lookup f17 = some ⟨oc17, od17, .func (PySem.W.fnOf "depth_of" "depth_of" (defArgs st_17) (defBody st_17) (defScope st_17) .none kV17 dc17 pm17 an17 cd17 ct17), sl17⟩)
    (c17 : PySem.W.codeIn K cd17 "depth_of" = true)
    (k17 : PySem.W.keepIn K (.ref f17) = true)
    (a18 : PySem.W.findIn K (.ref C0) "__init__" = some (some (.ref f18)))
    (l18 : K.lookup f18 = some ⟨oc18, od18, .func (PySem.W.fnOf "__init__" "Term.__init__" (defArgs st_18) (defBody st_18) (defScope st_18) .none kV18 dc18 pm18 an18 cd18 ct18), sl18⟩)
    (c18 : PySem.W.codeIn K cd18 "Term.__init__" = true)
    (k18 : PySem.W.keepIn K (.ref f18) = true)
    (a55 : PySem.W.nsIn K mainGlobals "_law_pool" = some (some (.ref f55)))
    (l55 : K.lookup f55 = some ⟨oc55, od55, .func (PySem.W.fnOf "_law_pool" "_law_pool" (defArgs st_55) (defBody st_55) (defScope st_55) .none kV55 dc55 pm55 an55 cd55 ct55), sl55⟩)
    (c55 : PySem.W.codeIn K cd55 "_law_pool" = true)
    (k55 : PySem.W.keepIn K (.ref f55) = true)
    (a56 : PySem.W.nsIn K mainGlobals "_law_take" = some (some (.ref f56)))
    (l56 : K.lookup f56 = some ⟨oc56, od56, .func (PySem.W.fnOf "_law_take" "_law_take" (defArgs st_56) (defBody st_56) (defScope st_56) .none kV56 dc56 pm56 an56 cd56 ct56), sl56⟩)
    (c56 : PySem.W.codeIn K cd56 "_law_take" = true)
    (k56 : PySem.W.keepIn K (.ref f56) = true)
    (a57 : PySem.W.nsIn K mainGlobals "_law_one" = some (some (.ref f57)))
    (l57 : K.lookup f57 = some ⟨oc57, od57, .func (PySem.W.fnOf "_law_one" "_law_one" (defArgs st_57) (defBody st_57) (defScope st_57) .none kV57 dc57 pm57 an57 cd57 ct57), sl57⟩)
    (c57 : PySem.W.codeIn K cd57 "_law_one" = true)
    (k57 : PySem.W.keepIn K (.ref f57) = true)
    (a59 : PySem.W.nsIn K mainGlobals "_law_words" = some (some (.ref f59)))
    (l59 : K.lookup f59 = some ⟨oc59, od59, .func (PySem.W.fnOf "_law_words" "_law_words" (defArgs st_59) (defBody st_59) (defScope st_59) .none kV59 dc59 pm59 an59 cd59 ct59), sl59⟩)
    (c59 : PySem.W.codeIn K cd59 "_law_words" = true)
    (k59 : PySem.W.keepIn K (.ref f59) = true)
    (a60 : PySem.W.nsIn K mainGlobals "_law_leaf" = some (some (.ref f60)))
    (l60 : K.lookup f60 = some ⟨oc60, od60, .func (PySem.W.fnOf "_law_leaf" "_law_leaf" (defArgs st_60) (defBody st_60) (defScope st_60) .none kV60 dc60 pm60 an60 cd60 ct60), sl60⟩)
    (c60 : PySem.W.codeIn K cd60 "_law_leaf" = true)
    (k60 : PySem.W.keepIn K (.ref f60) = true)
    (a61 : PySem.W.nsIn K mainGlobals "_law_grown" = some (some (.ref f61)))
    (l61 : K.lookup f61 = some ⟨oc61, od61, .func (PySem.W.fnOf "_law_grown" "_law_grown" (defArgs st_61) (defBody st_61) (defScope st_61) .none kV61 dc61 pm61 an61 cd61 ct61), sl61⟩)
    (c61 : PySem.W.codeIn K cd61 "_law_grown" = true)
    (k61 : PySem.W.keepIn K (.ref f61) = true)
    (a62 : PySem.W.nsIn K mainGlobals "_law_bound" = some (some (.ref f62)))
    (l62 : K.lookup f62 = some ⟨oc62, od62, .func (PySem.W.fnOf "_law_bound" "_law_bound" (defArgs st_62) (defBody st_62) (defScope st_62) .none kV62 dc62 pm62 an62 cd62 ct62), sl62⟩)
    (c62 : PySem.W.codeIn K cd62 "_law_bound" = true)
    (k62 : PySem.W.keepIn K (.ref f62) = true)
    (a63 : PySem.W.nsIn K mainGlobals "_law_nested" = some (some (.ref f63)))
    (l63 : K.lookup f63 = some ⟨oc63, od63, .func (PySem.W.fnOf "_law_nested" "_law_nested" (defArgs st_63) (defBody st_63) (defScope st_63) .none kV63 dc63 pm63 an63 cd63 ct63), sl63⟩)
    (c63 : PySem.W.codeIn K cd63 "_law_nested" = true)
    (k63 : PySem.W.keepIn K (.ref f63) = true)
    (a64 : PySem.W.nsIn K mainGlobals "_law_tree" = some (some (.ref f64)))
    (l64 : K.lookup f64 = some ⟨oc64, od64, .func (PySem.W.fnOf "_law_tree" "_law_tree" (defArgs st_64) (defBody st_64) (defScope st_64) .none kV64 dc64 pm64 an64 cd64 ct64), sl64⟩)
    (c64 : PySem.W.codeIn K cd64 "_law_tree" = true)
    (k64 : PySem.W.keepIn K (.ref f64) = true)
    (a76 : PySem.W.nsIn K mainGlobals "law" = some (some (.ref f76)))
    (l76 : K.lookup f76 = some ⟨oc76, od76, .func (PySem.W.fnOf "law" "law" (defArgs st_76) (defBody st_76) (defScope st_76) .none kV76 dc76 pm76 an76 (.ref cc76) ct76), sl76⟩)
    (c76 : PySem.W.codeIn K (.ref cc76) "law" = true)
    (k76 : PySem.W.keepIn K (.ref f76) = true)
    (a102 : PySem.W.nsIn K mainGlobals "are_all_names" = some (some (.ref f102)))
    (l102 : K.lookup f102 = some ⟨oc102, od102, .func (PySem.W.fnOf "are_all_names" "are_all_names" (defArgs st_102) (defBody st_102) (defScope st_102) .none kV102 dc102 pm102 an102 cd102 ct102), sl102⟩)
    (c102 : PySem.W.codeIn K cd102 "are_all_names" = true)
    (k102 : PySem.W.keepIn K (.ref f102) = true)
    (a103 : PySem.W.nsIn K mainGlobals "are_letters" = some (some (.ref f103)))
    (l103 : K.lookup f103 = some ⟨oc103, od103, .func (PySem.W.fnOf "are_letters" "are_letters" (defArgs st_103) (defBody st_103) (defScope st_103) .none kV103 dc103 pm103 an103 cd103 ct103), sl103⟩)
    (c103 : PySem.W.codeIn K cd103 "are_letters" = true)
    (k103 : PySem.W.keepIn K (.ref f103) = true)
    (a104 : PySem.W.nsIn K mainGlobals "nodes_if_tree" = some (some (.ref f104)))
    (l104 : K.lookup f104 = some ⟨oc104, od104, .func (PySem.W.fnOf "nodes_if_tree" "nodes_if_tree" (defArgs st_104) (defBody st_104) (defScope st_104) .none kV104 dc104 pm104 an104 cd104 ct104), sl104⟩)
    (c104 : PySem.W.codeIn K cd104 "nodes_if_tree" = true)
    (k104 : PySem.W.keepIn K (.ref f104) = true)
    (a105 : PySem.W.nsIn K mainGlobals "limit_broken" = some (some (.ref f105)))
    (l105 : K.lookup f105 = some ⟨oc105, od105, .func (PySem.W.fnOf "limit_broken" "limit_broken" (defArgs st_105) (defBody st_105) (defScope st_105) .none kV105 dc105 pm105 an105 cd105 ct105), sl105⟩)
    (c105 : PySem.W.codeIn K cd105 "limit_broken" = true)
    (k105 : PySem.W.keepIn K (.ref f105) = true)
    (a108 : PySem.W.nsIn K mainGlobals "_law_tried" = some (some (.ref f108)))
    (l108 : K.lookup f108 = some ⟨oc108, od108, .func (PySem.W.fnOf "_law_tried" "_law_tried" (defArgs st_108) (defBody st_108) (defScope st_108) .none kV108 dc108 pm108 an108 cd108 ct108), sl108⟩)
    (c108 : PySem.W.codeIn K cd108 "_law_tried" = true)
    (k108 : PySem.W.keepIn K (.ref f108) = true)
    (a109 : PySem.W.nsIn K mainGlobals "_law_odd" = some (some (.ref f109)))
    (l109 : K.lookup f109 = some ⟨oc109, od109, .func (PySem.W.fnOf "_law_odd" "_law_odd" (defArgs st_109) (defBody st_109) (defScope st_109) .none kV109 dc109 pm109 an109 cd109 ct109), sl109⟩)
    (c109 : PySem.W.codeIn K cd109 "_law_odd" = true)
    (k109 : PySem.W.keepIn K (.ref f109) = true)
    (a110 : PySem.W.nsIn K mainGlobals "_law_many" = some (some (.ref f110)))
    (l110 : K.lookup f110 = some ⟨oc110, od110, .func (PySem.W.fnOf "_law_many" "_law_many" (defArgs st_110) (defBody st_110) (defScope st_110) .none kV110 dc110 pm110 an110 cd110 ct110), sl110⟩)
    (c110 : PySem.W.codeIn K cd110 "_law_many" = true)
    (k110 : PySem.W.keepIn K (.ref f110) = true)
    (a111 : PySem.W.nsIn K mainGlobals "_law_tall" = some (some (.ref f111)))
    (l111 : K.lookup f111 = some ⟨oc111, od111, .func (PySem.W.fnOf "_law_tall" "_law_tall" (defArgs st_111) (defBody st_111) (defScope st_111) .none kV111 dc111 pm111 an111 cd111 ct111), sl111⟩)
    (c111 : PySem.W.codeIn K cd111 "_law_tall" = true)
    (k111 : PySem.W.keepIn K (.ref f111) = true)
    (a112 : PySem.W.nsIn K mainGlobals "_law_limits_right" = some (some (.ref f112)))
    (l112 : K.lookup f112 = some ⟨oc112, od112, .func (PySem.W.fnOf "_law_limits_right" "_law_limits_right" (defArgs st_112) (defBody st_112) (defScope st_112) .none kV112 dc112 pm112 an112 (.ref cc112) ct112), sl112⟩)
    (c112 : PySem.W.codeIn K (.ref cc112) "_law_limits_right" = true)
    (k112 : PySem.W.keepIn K (.ref f112) = true)
    (a113 : PySem.W.nsIn K mainGlobals "_law_names_right" = some (some (.ref f113)))
    (l113 : K.lookup f113 = some ⟨oc113, od113, .func (PySem.W.fnOf "_law_names_right" "_law_names_right" (defArgs st_113) (defBody st_113) (defScope st_113) .none kV113 dc113 pm113 an113 cd113 ct113), sl113⟩)
    (c113 : PySem.W.codeIn K cd113 "_law_names_right" = true)
    (k113 : PySem.W.keepIn K (.ref f113) = true)
    (z_ValueError : PySem.W.nsIn K mainGlobals "ValueError" = some none)
    (z_enumerate : PySem.W.nsIn K mainGlobals "enumerate" = some none)
    (z_int : PySem.W.nsIn K mainGlobals "int" = some none)
    (z_isinstance : PySem.W.nsIn K mainGlobals "isinstance" = some none)
    (z_len : PySem.W.nsIn K mainGlobals "len" = some none)
    (z_list : PySem.W.nsIn K mainGlobals "list" = some none)
    (z_max : PySem.W.nsIn K mainGlobals "max" = some none)
    (z_min : PySem.W.nsIn K mainGlobals "min" = some none)
    (z_range : PySem.W.nsIn K mainGlobals "range" = some none)
    (z_repr : PySem.W.nsIn K mainGlobals "repr" = some none)
    (z_set : PySem.W.nsIn K mainGlobals "set" = some none)
    (z_sorted : PySem.W.nsIn K mainGlobals "sorted" = some none)
    (z_str : PySem.W.nsIn K mainGlobals "str" = some none)
    (z_tuple : PySem.W.nsIn K mainGlobals "tuple" = some none)
    (g_LONGEST_NAME : PySem.W.nsIn K mainGlobals "LONGEST_NAME" = some (some (.int 8 t_LONGEST_NAME)))
    (g_MOST_BINDERS : PySem.W.nsIn K mainGlobals "MOST_BINDERS" = some (some (.int 60 t_MOST_BINDERS)))
    (g_MOST_NODES : PySem.W.nsIn K mainGlobals "MOST_NODES" = some (some (.int 400 t_MOST_NODES)))
    (g_MOST_ON_A_WAY : PySem.W.nsIn K mainGlobals "MOST_ON_A_WAY" = some (some (.int 100 t_MOST_ON_A_WAY)))
    (kt0_list : PySem.W.subIn K (.ref C0) (.type "list") = some false)
    (kt0_str : PySem.W.subIn K (.ref C0) (.type "str") = some false)
    (kt0_tuple : PySem.W.subIn K (.ref C0) (.type "tuple") = some false)
    (no0_2 : PySem.W.findIn K (.ref C0) "_found" = some none)
    (no0_1 : PySem.W.findIn K (.ref C0) "_nodes" = some none)
    (no0_0 : PySem.W.findIn K (.ref C0) "_tree" = some none)
    (mm0 : PySem.W.makesIn K C0 = true)
    (mp0 : PySem.W.keepIn K (.ref C0) = true)
    (q18 : PySem.W.isFn K (.ref f18) = true)
    (xl23 : K.lookup C23 = some (excClassObj xn23 xq23 C23 xN23 xb23 xm23 true xs23 xu23 xa23 xc23 xd23 xk0_23 xk1_23 xk2_23 xk3_23 xk5_23 "ValueError.__new__"))
    (xr23 : PySem.HandSPX.refsVE xm23 = true)
    (xs_23 : PySem.W.findIn K (.ref C23) "__setattr__" = some (some (.builtin "object.__setattr__")))
    (xe23 : PySem.W.subIn K (.ref C23) (.type "BaseException") = some true)
    (xt23 : PySem.W.typeIn K (.ref C23) = some (.type "type"))
    (xp23 : PySem.W.keepIn K (.ref C23) = true)
    (xi23 : PySem.W.typeIn K (.ref f5) = some (.type "function"))
    (xo23 : PySem.W.findIn K (.ref C23) "names" = some none)
    (xg23 : PySem.W.findIn K (.ref C23) "__getattribute__" = some (some (.builtin "BaseException.__getattribute__")))
    (xh23 : PySem.W.findIn K (.ref C23) "__getattr__" = some none)
    (xD23 : PySem.W.hasDictIn K C23 = true)
    (xx23 : PySem.W.isClsIn K C23 = true)
    (xy23 : PySem.W.subIn K (.ref C23) (.ref C23) = some true)
    (xl20 : K.lookup C20 = some (excClassObj xn20 xq20 C20 xN20 xb20 xm20 true xs20 xu20 xa20 xc20 xd20 xk0_20 xk1_20 xk2_20 xk3_20 xk5_20 "ValueError.__new__"))
    (xr20 : PySem.HandSPX.refsVE xm20 = true)
    (xs_20 : PySem.W.findIn K (.ref C20) "__setattr__" = some (some (.builtin "object.__setattr__")))
    (xe20 : PySem.W.subIn K (.ref C20) (.type "BaseException") = some true)
    (xt20 : PySem.W.typeIn K (.ref C20) = some (.type "type"))
    (xp20 : PySem.W.keepIn K (.ref C20) = true)
    (xi20 : PySem.W.typeIn K (.ref f2) = some (.type "function"))
    (xo20 : PySem.W.findIn K (.ref C20) "told" = some none)
    (xg20 : PySem.W.findIn K (.ref C20) "__getattribute__" = some (some (.builtin "BaseException.__getattribute__")))
    (xh20 : PySem.W.findIn K (.ref C20) "__getattr__" = some none)
    (xD20 : PySem.W.hasDictIn K C20 = true)
    (xx20 : PySem.W.isClsIn K C20 = true)
    (xy20 : PySem.W.subIn K (.ref C20) (.ref C20) = some true)
    (xl24 : K.lookup C24 = some (excClassObj xn24 xq24 C24 xN24 xb24 PySem.LvO.oeT true xs24 xu24 xa24 xc24 xd24 xk0_24 xk1_24 xk2_24 xk3_24 xk5_24 "OverflowError.__new__"))
    (xs_24 : PySem.W.findIn K (.ref C24) "__setattr__" = some (some (.builtin "object.__setattr__")))
    (xe24 : PySem.W.subIn K (.ref C24) (.type "BaseException") = some true)
    (xt24 : PySem.W.typeIn K (.ref C24) = some (.type "type"))
    (xp24 : PySem.W.keepIn K (.ref C24) = true)
    (xi24 : PySem.W.typeIn K (.ref f6) = some (.type "function"))
    (xo24 : PySem.W.findIn K (.ref C24) "most" = some none)
    (xg24 : PySem.W.findIn K (.ref C24) "__getattribute__" = some (some (.builtin "BaseException.__getattribute__")))
    (xh24 : PySem.W.findIn K (.ref C24) "__getattr__" = some none)
    (xD24 : PySem.W.hasDictIn K C24 = true)
    (xx24 : PySem.W.isClsIn K C24 = true)
    (xy24 : PySem.W.subIn K (.ref C24) (.ref C24) = some true)
    (xC20 : PySem.W.findIn K (.ref C20) "__class__" = some (some (.builtin "object.__class__")))
    (xO20 : PySem.W.mroIn K C20 (.type "object") = some true)
    (xC24 : PySem.W.findIn K (.ref C24) "__class__" = some (some (.builtin "object.__class__")))
    (xO24 : PySem.W.mroIn K C24 (.type "object") = some true)
    (xsxk20_BinderError : PySem.W.subIn K (.ref C20) (.ref C26) = some true)
    (xb_26 : PySem.W.isClsIn K C26 = true)
    (xv_26 : PySem.W.typeIn K (.ref C26) = some (.type "type"))
    (xw_20_26 : (Value.ref C20 == Value.ref C26) = false)
    (xsxk20_ValueError : PySem.W.subIn K (.ref C20) (.type "ValueError") = some true)
    (xsxk24_BinderError : PySem.W.subIn K (.ref C24) (.ref C26) = some false)
    (xw_24_26 : (Value.ref C24 == Value.ref C26) = false)
    (xz23_20 : PySem.W.subIn K (.ref C23) (.ref C20) = some false)
    (xz24_23 : PySem.W.subIn K (.ref C24) (.ref C23) = some false)
    (xz24_20 : PySem.W.subIn K (.ref C24) (.ref C20) = some false)
    (lcc76 : K.lookup cc76 = some ⟨ec76, ddc76, .fields vsc76, slc76⟩)
    (le76 : ec76 = .type "code")
    (v11_76 : vsc76[11]? = some (.ref Pt76))
    (w11_76 : vsc76.getD 11 .none = .ref Pt76)
    (w18_76 : vsc76.getD 18 .none = .str flc76 tfc76)
    (w7_76 : vsc76.getD 7 .none = .int flg76 tgc76)
    (w9_76 : vsc76.getD 9 .none = .bool inf76)
    (w10_76 : vsc76.getD 10 .none = .int txc76 ttc76)
    (nP76 : K.lookup Pt76 = none)
    (cP76 : (cc76 == Pt76) = false)
    (rq76 : RQ "law" = true)
    (lcc112 : K.lookup cc112 = some ⟨ec112, ddc112, .fields vsc112, slc112⟩)
    (le112 : ec112 = .type "code")
    (v11_112 : vsc112[11]? = some (.ref Pt112))
    (w11_112 : vsc112.getD 11 .none = .ref Pt112)
    (w18_112 : vsc112.getD 18 .none = .str flc112 tfc112)
    (w7_112 : vsc112.getD 7 .none = .int flg112 tgc112)
    (w9_112 : vsc112.getD 9 .none = .bool inf112)
    (w10_112 : vsc112.getD 10 .none = .int txc112 ttc112)
    (nP112 : K.lookup Pt112 = none)
    (cP112 : (cc112 == Pt112) = false)
    (rq112 : RQ "_law_limits_right" = true)
    (pp76_112 : (Pt76 == Pt112) = false)
    (nl : noList K = true)
    (math : ∀ ns : List Int, ns.length ≤ 63 → ∃ h', mBody 1 7 (b_76 (cl 50) (clq 50)) [.ref 0] [.frz (ns.map D.int)] = .ok (.bl true) h') :
    LawG l w K (L2.CX l.prog w) 204 63 "_law_script" mg fa0 h := by
  have e := hfa.symm.trans (PySem.W.mg_of X Gn a76)
  cases e
  have T : Txt K w mg (fun c => match c with | 0 => C0 | 20 => C20 | 23 => C23 | 24 => C24 | 26 => C26 | _ => 0) [(Pt76, lamq_76), (Pt112, lamq_112)] (fun j => match j with | 2 => f2 | 5 => f5 | 6 => f6 | 7 => f7 | 10 => f10 | 11 => f11 | 13 => f13 | 14 => f14 | 16 => f16 | 17 => f17 | 18 => f18 | 55 => f55 | 56 => f56 | 57 => f57 | 59 => f59 | 60 => f60 | 61 => f61 | 62 => f62 | 63 => f63 | 64 => f64 | 76 => fa0 | 102 => f102 | 103 => f103 | 104 => f104 | 105 => f105 | 108 => f108 | 109 => f109 | 110 => f110 | 111 => f111 | 112 => f112 | 113 => f113 | _ => 0) (fun j => match j with | 2 => PySem.W.fnOf "__init__" "NoTerm.__init__" (defArgs st_2) (defBody st_2) (defScope st_2) .none kV2 dc2 pm2 an2 cd2 ct2 | 5 => PySem.W.fnOf "__init__" "NoNames.__init__" (defArgs st_5) (defBody st_5) (defScope st_5) .none kV5 dc5 pm5 an5 cd5 ct5 | 6 => PySem.W.fnOf "__init__" "TooMany.__init__" (defArgs st_6) (defBody st_6) (defScope st_6) .none kV6 dc6 pm6 an6 cd6 ct6 | 7 => PySem.W.fnOf "is_name" "is_name" (defArgs st_7) (defBody st_7) (defScope st_7) .none kV7 dc7 pm7 an7 cd7 ct7 | 10 => PySem.W.fnOf "is_tree" "is_tree" (defArgs st_10) (defBody st_10) (defScope st_10) .none kV10 dc10 pm10 an10 cd10 ct10 | 11 => PySem.W.fnOf "in_order" "in_order" (defArgs st_11) (defBody st_11) (defScope st_11) .none kV11 dc11 pm11 an11 cd11 ct11 | 13 => PySem.W.fnOf "trees_below" "trees_below" (defArgs st_13) (defBody st_13) (defScope st_13) .none kV13 dc13 pm13 an13 cd13 ct13 | 14 => PySem.W.fnOf "row_below" "row_below" (defArgs st_14) (defBody st_14) (defScope st_14) .none kV14 dc14 pm14 an14 cd14 ct14 | 16 => PySem.W.fnOf "numbers_of" "numbers_of" (defArgs st_16) (defBody st_16) (defScope st_16) .none kV16 dc16 pm16 an16 cd16 ct16 | 17 => PySem.W.fnOf "depth_of" "depth_of" (defArgs st_17) (defBody st_17) (defScope st_17) .none kV17 dc17 pm17 an17 cd17 ct17 | 18 => PySem.W.fnOf "__init__" "Term.__init__" (defArgs st_18) (defBody st_18) (defScope st_18) .none kV18 dc18 pm18 an18 cd18 ct18 | 55 => PySem.W.fnOf "_law_pool" "_law_pool" (defArgs st_55) (defBody st_55) (defScope st_55) .none kV55 dc55 pm55 an55 cd55 ct55 | 56 => PySem.W.fnOf "_law_take" "_law_take" (defArgs st_56) (defBody st_56) (defScope st_56) .none kV56 dc56 pm56 an56 cd56 ct56 | 57 => PySem.W.fnOf "_law_one" "_law_one" (defArgs st_57) (defBody st_57) (defScope st_57) .none kV57 dc57 pm57 an57 cd57 ct57 | 59 => PySem.W.fnOf "_law_words" "_law_words" (defArgs st_59) (defBody st_59) (defScope st_59) .none kV59 dc59 pm59 an59 cd59 ct59 | 60 => PySem.W.fnOf "_law_leaf" "_law_leaf" (defArgs st_60) (defBody st_60) (defScope st_60) .none kV60 dc60 pm60 an60 cd60 ct60 | 61 => PySem.W.fnOf "_law_grown" "_law_grown" (defArgs st_61) (defBody st_61) (defScope st_61) .none kV61 dc61 pm61 an61 cd61 ct61 | 62 => PySem.W.fnOf "_law_bound" "_law_bound" (defArgs st_62) (defBody st_62) (defScope st_62) .none kV62 dc62 pm62 an62 cd62 ct62 | 63 => PySem.W.fnOf "_law_nested" "_law_nested" (defArgs st_63) (defBody st_63) (defScope st_63) .none kV63 dc63 pm63 an63 cd63 ct63 | 64 => PySem.W.fnOf "_law_tree" "_law_tree" (defArgs st_64) (defBody st_64) (defScope st_64) .none kV64 dc64 pm64 an64 cd64 ct64 | 76 => PySem.W.fnOf "law" "law" (defArgs st_76) (defBody st_76) (defScope st_76) .none kV76 dc76 pm76 an76 (.ref cc76) ct76 | 102 => PySem.W.fnOf "are_all_names" "are_all_names" (defArgs st_102) (defBody st_102) (defScope st_102) .none kV102 dc102 pm102 an102 cd102 ct102 | 103 => PySem.W.fnOf "are_letters" "are_letters" (defArgs st_103) (defBody st_103) (defScope st_103) .none kV103 dc103 pm103 an103 cd103 ct103 | 104 => PySem.W.fnOf "nodes_if_tree" "nodes_if_tree" (defArgs st_104) (defBody st_104) (defScope st_104) .none kV104 dc104 pm104 an104 cd104 ct104 | 105 => PySem.W.fnOf "limit_broken" "limit_broken" (defArgs st_105) (defBody st_105) (defScope st_105) .none kV105 dc105 pm105 an105 cd105 ct105 | 108 => PySem.W.fnOf "_law_tried" "_law_tried" (defArgs st_108) (defBody st_108) (defScope st_108) .none kV108 dc108 pm108 an108 cd108 ct108 | 109 => PySem.W.fnOf "_law_odd" "_law_odd" (defArgs st_109) (defBody st_109) (defScope st_109) .none kV109 dc109 pm109 an109 cd109 ct109 | 110 => PySem.W.fnOf "_law_many" "_law_many" (defArgs st_110) (defBody st_110) (defScope st_110) .none kV110 dc110 pm110 an110 cd110 ct110 | 111 => PySem.W.fnOf "_law_tall" "_law_tall" (defArgs st_111) (defBody st_111) (defScope st_111) .none kV111 dc111 pm111 an111 cd111 ct111 | 112 => PySem.W.fnOf "_law_limits_right" "_law_limits_right" (defArgs st_112) (defBody st_112) (defScope st_112) .none kV112 dc112 pm112 an112 (.ref cc112) ct112 | 113 => PySem.W.fnOf "_law_names_right" "_law_names_right" (defArgs st_113) (defBody st_113) (defScope st_113) .none kV113 dc113 pm113 an113 cd113 ct113 | _ => PySem.W.fnOf "law" "law" (defArgs st_76) (defBody st_76) (defScope st_76) .none kV76 dc76 pm76 an76 (.ref cc76) ct76) := {
    u7 := fun_mk (st := st_7) l7 c7 k7
    m7 := PySem.W.mg_of X Gn a7
    b7 := (fun_mk (st := st_7) l7 c7 k7).binds (ps := ["value"]) fun _ _ _ _ _ _ us hl => match us, hl with | [_], _ => rfl
    u10 := fun_mk (st := st_10) l10 c10 k10
    m10 := PySem.W.mg_of X Gn a10
    b10 := (fun_mk (st := st_10) l10 c10 k10).binds (ps := ["value"]) fun _ _ _ _ _ _ us hl => match us, hl with | [_], _ => rfl
    u11 := fun_mk (st := st_11) l11 c11 k11
    m11 := PySem.W.mg_of X Gn a11
    b11 := (fun_mk (st := st_11) l11 c11 k11).binds (ps := ["names"]) fun _ _ _ _ _ _ us hl => match us, hl with | [_], _ => rfl
    u13 := fun_mk (st := st_13) l13 c13 k13
    m13 := PySem.W.mg_of X Gn a13
    b13 := (fun_mk (st := st_13) l13 c13 k13).binds (ps := ["node"]) fun _ _ _ _ _ _ us hl => match us, hl with | [_], _ => rfl
    u14 := fun_mk (st := st_14) l14 c14 k14
    m14 := PySem.W.mg_of X Gn a14
    b14 := (fun_mk (st := st_14) l14 c14 k14).binds (ps := ["row"]) fun _ _ _ _ _ _ us hl => match us, hl with | [_], _ => rfl
    u16 := fun_mk (st := st_16) l16 c16 k16
    m16 := PySem.W.mg_of X Gn a16
    b16 := (fun_mk (st := st_16) l16 c16 k16).binds (ps := ["kind", "nodes"]) fun _ _ _ _ _ _ us hl => match us, hl with | [_, _], _ => rfl
    u17 := fun_mk (st := st_17) l17 c17 k17
    m17 := PySem.W.mg_of X Gn a17
    b17 := (fun_mk (st := st_17) l17 c17 k17).binds (ps := ["tree"]) fun _ _ _ _ _ _ us hl => match us, hl with | [_], _ => rfl
    u18 := fun_mk (st := st_18) l18 c18 k18
    b18 := (fun_mk (st := st_18) l18 c18 k18).binds (ps := ["self", "tree"]) fun _ _ _ _ _ _ us hl => match us, hl with | [_, _], _ => rfl
    u55 := fun_mk (st := st_55) l55 c55 k55
    m55 := PySem.W.mg_of X Gn a55
    b55 := (fun_mk (st := st_55) l55 c55 k55).binds (ps := ["_law_script", "_law_k"]) fun _ _ _ _ _ _ us hl => match us, hl with | [_, _], _ => rfl
    u56 := fun_mk (st := st_56) l56 c56 k56
    m56 := PySem.W.mg_of X Gn a56
    b56 := (fun_mk (st := st_56) l56 c56 k56).binds (ps := ["_law_source", "_law_top"]) fun _ _ _ _ _ _ us hl => match us, hl with | [_, _], _ => rfl
    u57 := fun_mk (st := st_57) l57 c57 k57
    m57 := PySem.W.mg_of X Gn a57
    b57 := (fun_mk (st := st_57) l57 c57 k57).binds (ps := ["_law_source", "_law_things"]) fun _ _ _ _ _ _ us hl => match us, hl with | [_, _], _ => rfl
    u59 := fun_mk (st := st_59) l59 c59 k59
    m59 := PySem.W.mg_of X Gn a59
    b59 := (fun_mk (st := st_59) l59 c59 k59).binds (ps := ["_law_source"]) fun _ _ _ _ _ _ us hl => match us, hl with | [_], _ => rfl
    u60 := fun_mk (st := st_60) l60 c60 k60
    m60 := PySem.W.mg_of X Gn a60
    b60 := (fun_mk (st := st_60) l60 c60 k60).binds (ps := ["_law_source", "_law_words_here"]) fun _ _ _ _ _ _ us hl => match us, hl with | [_, _], _ => rfl
    u61 := fun_mk (st := st_61) l61 c61 k61
    m61 := PySem.W.mg_of X Gn a61
    b61 := (fun_mk (st := st_61) l61 c61 k61).binds (ps := ["_law_source", "_law_words_here", "_law_room"]) fun _ _ _ _ _ _ us hl => match us, hl with | [_, _, _], _ => rfl
    u62 := fun_mk (st := st_62) l62 c62 k62
    m62 := PySem.W.mg_of X Gn a62
    b62 := (fun_mk (st := st_62) l62 c62 k62).binds (ps := ["_law_source", "_law_words_here", "_law_room"]) fun _ _ _ _ _ _ us hl => match us, hl with | [_, _, _], _ => rfl
    u63 := fun_mk (st := st_63) l63 c63 k63
    m63 := PySem.W.mg_of X Gn a63
    b63 := (fun_mk (st := st_63) l63 c63 k63).binds (ps := ["_law_source", "_law_words_here", "_law_deep"]) fun _ _ _ _ _ _ us hl => match us, hl with | [_, _, _], _ => rfl
    u64 := fun_mk (st := st_64) l64 c64 k64
    m64 := PySem.W.mg_of X Gn a64
    b64 := (fun_mk (st := st_64) l64 c64 k64).binds (ps := ["_law_source", "_law_most_nodes", "_law_most_binders"]) fun _ _ _ _ _ _ us hl => match us, hl with | [_, _, _], _ => rfl
    u76 := fun_mk (st := st_76) l76 c76 k76
    m76 := PySem.W.mg_of X Gn a76
    b76 := (fun_mk (st := st_76) l76 c76 k76).binds (ps := ["_law_script"]) fun _ _ _ _ _ _ us hl => match us, hl with | [_], _ => rfl
    u102 := fun_mk (st := st_102) l102 c102 k102
    m102 := PySem.W.mg_of X Gn a102
    b102 := (fun_mk (st := st_102) l102 c102 k102).binds (ps := ["values"]) fun _ _ _ _ _ _ us hl => match us, hl with | [_], _ => rfl
    u103 := fun_mk (st := st_103) l103 c103 k103
    m103 := PySem.W.mg_of X Gn a103
    b103 := (fun_mk (st := st_103) l103 c103 k103).binds (ps := ["text"]) fun _ _ _ _ _ _ us hl => match us, hl with | [_], _ => rfl
    u104 := fun_mk (st := st_104) l104 c104 k104
    m104 := PySem.W.mg_of X Gn a104
    b104 := (fun_mk (st := st_104) l104 c104 k104).binds (ps := ["value"]) fun _ _ _ _ _ _ us hl => match us, hl with | [_], _ => rfl
    u105 := fun_mk (st := st_105) l105 c105 k105
    m105 := PySem.W.mg_of X Gn a105
    b105 := (fun_mk (st := st_105) l105 c105 k105).binds (ps := ["nodes"]) fun _ _ _ _ _ _ us hl => match us, hl with | [_], _ => rfl
    u109 := fun_mk (st := st_109) l109 c109 k109
    m109 := PySem.W.mg_of X Gn a109
    b109 := (fun_mk (st := st_109) l109 c109 k109).binds (ps := ["_law_tree_here"]) fun _ _ _ _ _ _ us hl => match us, hl with | [_], _ => rfl
    u110 := fun_mk (st := st_110) l110 c110 k110
    m110 := PySem.W.mg_of X Gn a110
    b110 := (fun_mk (st := st_110) l110 c110 k110).binds (ps := ["_law_nodes", "_law_binders"]) fun _ _ _ _ _ _ us hl => match us, hl with | [_, _], _ => rfl
    u111 := fun_mk (st := st_111) l111 c111 k111
    m111 := PySem.W.mg_of X Gn a111
    b111 := (fun_mk (st := st_111) l111 c111 k111).binds (ps := ["_law_deep", "_law_inner"]) fun _ _ _ _ _ _ us hl => match us, hl with | [_, _], _ => rfl
    u112 := fun_mk (st := st_112) l112 c112 k112
    m112 := PySem.W.mg_of X Gn a112
    b112 := (fun_mk (st := st_112) l112 c112 k112).binds (ps := []) fun _ _ _ _ _ _ us hl => match us, hl with | [], _ => rfl
    u113 := fun_mk (st := st_113) l113 c113 k113
    m113 := PySem.W.mg_of X Gn a113
    b113 := (fun_mk (st := st_113) l113 c113 k113).binds (ps := []) fun _ _ _ _ _ _ us hl => match us, hl with | [], _ => rfl
    u2 := fun_mk (st := st_2) l2 c2 k2
    b2 := (fun_mk (st := st_2) l2 c2 k2).binds (ps := ["self", "told"]) fun _ _ _ _ _ _ us hl => match us, hl with | [_, _], _ => rfl
    u5 := fun_mk (st := st_5) l5 c5 k5
    b5 := (fun_mk (st := st_5) l5 c5 k5).binds (ps := ["self", "names"]) fun _ _ _ _ _ _ us hl => match us, hl with | [_, _], _ => rfl
    u6 := fun_mk (st := st_6) l6 c6 k6
    b6 := (fun_mk (st := st_6) l6 c6 k6).binds (ps := ["self", "most"]) fun _ _ _ _ _ _ us hl => match us, hl with | [_, _], _ => rfl
    u108 := fun_mk (st := st_108) l108 c108 k108
    m108 := PySem.W.mg_of X Gn a108
    b108 := (fun_mk (st := st_108) l108 c108 k108).binds (ps := ["_law_function"]) fun _ _ _ _ _ _ us hl => match us, hl with | [_], _ => rfl
    z_ValueError := PySem.W.mg_none_of X Gn z_ValueError
    z_enumerate := PySem.W.mg_none_of X Gn z_enumerate
    z_int := PySem.W.mg_none_of X Gn z_int
    z_isinstance := PySem.W.mg_none_of X Gn z_isinstance
    z_len := PySem.W.mg_none_of X Gn z_len
    z_list := PySem.W.mg_none_of X Gn z_list
    z_max := PySem.W.mg_none_of X Gn z_max
    z_min := PySem.W.mg_none_of X Gn z_min
    z_range := PySem.W.mg_none_of X Gn z_range
    z_repr := PySem.W.mg_none_of X Gn z_repr
    z_set := PySem.W.mg_none_of X Gn z_set
    z_sorted := PySem.W.mg_none_of X Gn z_sorted
    z_str := PySem.W.mg_none_of X Gn z_str
    z_tuple := PySem.W.mg_none_of X Gn z_tuple
    g_LONGEST_NAME := ⟨_, PySem.W.mg_of X Gn g_LONGEST_NAME⟩
    g_MOST_BINDERS := ⟨_, PySem.W.mg_of X Gn g_MOST_BINDERS⟩
    g_MOST_NODES := ⟨_, PySem.W.mg_of X Gn g_MOST_NODES⟩
    g_MOST_ON_A_WAY := ⟨_, PySem.W.mg_of X Gn g_MOST_ON_A_WAY⟩
    g_BinderError := PySem.W.mg_of X Gn n_C26
    g_NoNames := PySem.W.mg_of X Gn n_C23
    g_NoTerm := PySem.W.mg_of X Gn n_C20
    g_Term := PySem.W.mg_of X Gn n_C0
    g_TooMany := PySem.W.mg_of X Gn n_C24
    kt_list := fun j hj => match j, hj with | 0, _ => kit_ty (by decide +kernel) | 1, _ => kit_ty (by decide +kernel) | 2, _ => kit_ty (by decide +kernel) | 3, _ => kit_ty (by decide +kernel) | 4, _ => kit_ty (by decide +kernel) | 5, _ => kit_ty (by decide +kernel) | 6, _ => kit_ty (by decide +kernel) | 7, _ => kit_sub kt0_list (by decide +kernel) rfl | n + 8, hj => absurd hj (by omega)
    kt_str := fun j hj => match j, hj with | 0, _ => kit_ty (by decide +kernel) | 1, _ => kit_ty (by decide +kernel) | 2, _ => kit_ty (by decide +kernel) | 3, _ => kit_ty (by decide +kernel) | 4, _ => kit_ty (by decide +kernel) | 5, _ => kit_ty (by decide +kernel) | 6, _ => kit_ty (by decide +kernel) | 7, _ => kit_sub kt0_str (by decide +kernel) rfl | n + 8, hj => absurd hj (by omega)
    kt_tuple := fun j hj => match j, hj with | 0, _ => kit_ty (by decide +kernel) | 1, _ => kit_ty (by decide +kernel) | 2, _ => kit_ty (by decide +kernel) | 3, _ => kit_ty (by decide +kernel) | 4, _ => kit_ty (by decide +kernel) | 5, _ => kit_ty (by decide +kernel) | 6, _ => kit_ty (by decide +kernel) | 7, _ => kit_sub kt0_tuple (by decide +kernel) rfl | n + 8, hj => absurd hj (by omega)
    kn := ⟨cn, ct, fun c hc => match c, hc with | 0, _ => ⟨⟨pg0, hd0, po0, sa0⟩, ca0, ob0⟩ | n + 1, hc => absurd hc (by omega)⟩
    yi20 := ⟨xx20, xg20, xh20, xe20, xC20, cn, ct, xO20⟩
    yi24 := ⟨xx24, xg24, xh24, xe24, xC24, cn, ct, xO24⟩
    xk20_BinderError := kit_cls xsxk20_BinderError xb_26 xv_26 xw_20_26
    xk20_ValueError := kit_sub xsxk20_ValueError (by decide +kernel) rfl
    xk24_BinderError := kit_cls xsxk24_BinderError xb_26 xv_26 xw_24_26
    xn23_20 := exm_b xe20 xx20 xt20 xz23_20
    xn24_23 := exm_b xe23 xx23 xt23 xz24_23
    xn24_20 := exm_b xe20 xx20 xt20 xz24_20
    f2 := fun c hc => by rcases List.mem_cons.mp hc with rfl | hc; exact ⟨⟨pg0, hd0, po0, sa0⟩, no0_2⟩; cases hc
    f1 := fun c hc => by rcases List.mem_cons.mp hc with rfl | hc; exact ⟨⟨pg0, hd0, po0, sa0⟩, no0_1⟩; cases hc
    f0 := fun c hc => by rcases List.mem_cons.mp hc with rfl | hc; exact ⟨⟨pg0, hd0, po0, sa0⟩, no0_0⟩; cases hc
    mk0 := ⟨mm0, a18, q18, mp0⟩
    o23 := ⟨⟨⟨_, _, _, _, _, _, _, _, _, _, _, _, _, _, _, xl23, xr23⟩, xs_23, xe23, xt23, xp23⟩, a5, xi23⟩
    on23 := xo23
    x23 := ⟨xg23, xh23, xe23, xD23, xo23⟩
    xm23 := exm_own xe23 xx23 xt23 xy23
    o20 := ⟨⟨⟨_, _, _, _, _, _, _, _, _, _, _, _, _, _, _, xl20, xr20⟩, xs_20, xe20, xt20, xp20⟩, a2, xi20⟩
    on20 := xo20
    x20 := ⟨xg20, xh20, xe20, xD20, xo20⟩
    xm20 := exm_own xe20 xx20 xt20 xy20
    o24 := ⟨⟨⟨_, _, _, _, _, _, _, _, _, _, _, _, _, _, xl24⟩, xs_24, xe24, xt24, xp24⟩, a6, xi24⟩
    on24 := xo24
    x24 := ⟨xg24, xh24, xe24, xD24, xo24⟩
    xm24 := exm_own xe24 xx24 xt24 xy24
  }
  have hP76 := own _ _ (PySem.W.mg_of X Gn a76) rq76 cc76 Pt76 _ _ _ _ _ _ l76 rfl rfl lcc76 v11_76
  subst le76
  have hP112 := own _ _ (PySem.W.mg_of X Gn a112) rq112 cc112 Pt112 _ _ _ _ _ _ l112 rfl rfl lcc112 v11_112
  subst le112
  refine ⟨PySem.W.fnOf "law" "law" (defArgs st_76) (defBody st_76) (defScope st_76) .none kV76 dc76 pm76 an76 (.ref cc76) ct76, [(cc76, Pt76), (cc112, Pt112)], spM (GG K (fun c => match c with | 0 => C0 | 20 => C20 | 23 => C23 | 24 => C24 | 26 => C26 | _ => 0) [(Pt76, lamq_76), (Pt112, lamq_112)]) (mBody 1 7 (b_76 (cl 50) (clq 50))), fun b hb => ?_, fun b hb => ?_, fun p hp => ?_, fun s u => .of_eq rfl, noList_at nl, fun H a o ns hl _ hT ha => ?_, fun base Kb Nb tb => ?_⟩
  · simp only [List.map_cons, List.map_nil] at hb
    rcases List.mem_cons.mp hb with rfl | hb
    · exact hP76
    rcases List.mem_cons.mp hb with rfl | hb
    · exact hP112
    exact absurd hb (by simp)
  · simp only [List.map_cons, List.map_nil] at hb
    rcases List.mem_cons.mp hb with rfl | hb
    · exact nP76
    rcases List.mem_cons.mp hb with rfl | hb
    · exact nP112
    exact absurd hb (by simp)
  · skip
    rcases List.mem_cons.mp hp with rfl | hp
    · exact ⟨_, _, flc76, tfc76, flg76, tgc76, inf76, txc76, ttc76, X _ _ lcc76, rfl, rfl, v11_76, w11_76, w18_76, w7_76, w9_76, w10_76, fun z => absurd z (beq_eq_false_iff_ne.mp cP76)⟩
    rcases List.mem_cons.mp hp with rfl | hp
    · exact ⟨_, _, flc112, tfc112, flg112, tgc112, inf112, txc112, ttc112, X _ _ lcc112, rfl, rfl, v11_112, w11_112, w18_112, w7_112, w9_112, w10_112, fun z => absurd z (beq_eq_false_iff_ne.mp cP112)⟩
    exact absurd hp (by simp)
  · refine start_law ha (fun p hp => ?_) (math ns hl)
    have hp : p ∈ ([(Pt76, lamq_76), (Pt112, lamq_112)] : List (Addr × Str)) := hp
    rcases List.mem_cons.mp hp with rfl | hp
    · exact LamX.TabS.nil (hT Pt76 (by simp))
    rcases List.mem_cons.mp hp with rfl | hp
    · exact LamX.TabS.nil (hT Pt112 (by simp))
    exact absurd hp (by simp)
  · have LT : Lt base mg [(Pt76, lamq_76), (Pt112, lamq_112)] (fun j => match j with | 2 => PySem.W.fnOf "__init__" "NoTerm.__init__" (defArgs st_2) (defBody st_2) (defScope st_2) .none kV2 dc2 pm2 an2 cd2 ct2 | 5 => PySem.W.fnOf "__init__" "NoNames.__init__" (defArgs st_5) (defBody st_5) (defScope st_5) .none kV5 dc5 pm5 an5 cd5 ct5 | 6 => PySem.W.fnOf "__init__" "TooMany.__init__" (defArgs st_6) (defBody st_6) (defScope st_6) .none kV6 dc6 pm6 an6 cd6 ct6 | 7 => PySem.W.fnOf "is_name" "is_name" (defArgs st_7) (defBody st_7) (defScope st_7) .none kV7 dc7 pm7 an7 cd7 ct7 | 10 => PySem.W.fnOf "is_tree" "is_tree" (defArgs st_10) (defBody st_10) (defScope st_10) .none kV10 dc10 pm10 an10 cd10 ct10 | 11 => PySem.W.fnOf "in_order" "in_order" (defArgs st_11) (defBody st_11) (defScope st_11) .none kV11 dc11 pm11 an11 cd11 ct11 | 13 => PySem.W.fnOf "trees_below" "trees_below" (defArgs st_13) (defBody st_13) (defScope st_13) .none kV13 dc13 pm13 an13 cd13 ct13 | 14 => PySem.W.fnOf "row_below" "row_below" (defArgs st_14) (defBody st_14) (defScope st_14) .none kV14 dc14 pm14 an14 cd14 ct14 | 16 => PySem.W.fnOf "numbers_of" "numbers_of" (defArgs st_16) (defBody st_16) (defScope st_16) .none kV16 dc16 pm16 an16 cd16 ct16 | 17 => PySem.W.fnOf "depth_of" "depth_of" (defArgs st_17) (defBody st_17) (defScope st_17) .none kV17 dc17 pm17 an17 cd17 ct17 | 18 => PySem.W.fnOf "__init__" "Term.__init__" (defArgs st_18) (defBody st_18) (defScope st_18) .none kV18 dc18 pm18 an18 cd18 ct18 | 55 => PySem.W.fnOf "_law_pool" "_law_pool" (defArgs st_55) (defBody st_55) (defScope st_55) .none kV55 dc55 pm55 an55 cd55 ct55 | 56 => PySem.W.fnOf "_law_take" "_law_take" (defArgs st_56) (defBody st_56) (defScope st_56) .none kV56 dc56 pm56 an56 cd56 ct56 | 57 => PySem.W.fnOf "_law_one" "_law_one" (defArgs st_57) (defBody st_57) (defScope st_57) .none kV57 dc57 pm57 an57 cd57 ct57 | 59 => PySem.W.fnOf "_law_words" "_law_words" (defArgs st_59) (defBody st_59) (defScope st_59) .none kV59 dc59 pm59 an59 cd59 ct59 | 60 => PySem.W.fnOf "_law_leaf" "_law_leaf" (defArgs st_60) (defBody st_60) (defScope st_60) .none kV60 dc60 pm60 an60 cd60 ct60 | 61 => PySem.W.fnOf "_law_grown" "_law_grown" (defArgs st_61) (defBody st_61) (defScope st_61) .none kV61 dc61 pm61 an61 cd61 ct61 | 62 => PySem.W.fnOf "_law_bound" "_law_bound" (defArgs st_62) (defBody st_62) (defScope st_62) .none kV62 dc62 pm62 an62 cd62 ct62 | 63 => PySem.W.fnOf "_law_nested" "_law_nested" (defArgs st_63) (defBody st_63) (defScope st_63) .none kV63 dc63 pm63 an63 cd63 ct63 | 64 => PySem.W.fnOf "_law_tree" "_law_tree" (defArgs st_64) (defBody st_64) (defScope st_64) .none kV64 dc64 pm64 an64 cd64 ct64 | 76 => PySem.W.fnOf "law" "law" (defArgs st_76) (defBody st_76) (defScope st_76) .none kV76 dc76 pm76 an76 (.ref cc76) ct76 | 102 => PySem.W.fnOf "are_all_names" "are_all_names" (defArgs st_102) (defBody st_102) (defScope st_102) .none kV102 dc102 pm102 an102 cd102 ct102 | 103 => PySem.W.fnOf "are_letters" "are_letters" (defArgs st_103) (defBody st_103) (defScope st_103) .none kV103 dc103 pm103 an103 cd103 ct103 | 104 => PySem.W.fnOf "nodes_if_tree" "nodes_if_tree" (defArgs st_104) (defBody st_104) (defScope st_104) .none kV104 dc104 pm104 an104 cd104 ct104 | 105 => PySem.W.fnOf "limit_broken" "limit_broken" (defArgs st_105) (defBody st_105) (defScope st_105) .none kV105 dc105 pm105 an105 cd105 ct105 | 108 => PySem.W.fnOf "_law_tried" "_law_tried" (defArgs st_108) (defBody st_108) (defScope st_108) .none kV108 dc108 pm108 an108 cd108 ct108 | 109 => PySem.W.fnOf "_law_odd" "_law_odd" (defArgs st_109) (defBody st_109) (defScope st_109) .none kV109 dc109 pm109 an109 cd109 ct109 | 110 => PySem.W.fnOf "_law_many" "_law_many" (defArgs st_110) (defBody st_110) (defScope st_110) .none kV110 dc110 pm110 an110 cd110 ct110 | 111 => PySem.W.fnOf "_law_tall" "_law_tall" (defArgs st_111) (defBody st_111) (defScope st_111) .none kV111 dc111 pm111 an111 cd111 ct111 | 112 => PySem.W.fnOf "_law_limits_right" "_law_limits_right" (defArgs st_112) (defBody st_112) (defScope st_112) .none kV112 dc112 pm112 an112 (.ref cc112) ct112 | 113 => PySem.W.fnOf "_law_names_right" "_law_names_right" (defArgs st_113) (defBody st_113) (defScope st_113) .none kV113 dc113 pm113 an113 cd113 ct113 | _ => PySem.W.fnOf "law" "law" (defArgs st_76) (defBody st_76) (defScope st_76) .none kV76 dc76 pm76 an76 (.ref cc76) ct76) := {
      tt := trivial
      c_76 := ⟨cc76, Pt76, rfl, tb (cc76, Pt76) (by simp), by simp, fun y hy ey => by
        rcases List.mem_cons.mp hy with rfl | hy
        · exact rfl
        rcases List.mem_cons.mp hy with rfl | hy
        · exact absurd ey (Ne.symm (beq_eq_false_iff_ne.mp pp76_112))
        exact absurd hy (by simp)⟩
      c_112 := ⟨cc112, Pt112, rfl, tb (cc112, Pt112) (by simp), by simp, fun y hy ey => by
        rcases List.mem_cons.mp hy with rfl | hy
        · exact absurd ey (beq_eq_false_iff_ne.mp pp76_112)
        rcases List.mem_cons.mp hy with rfl | hy
        · exact rfl
        exact absurd hy (by simp)⟩
    }
    exact ok_76 T LT (lev T LT 50) (levq T LT 50)

end K02
end L2.Lv
end
section
open PySem PySem.W PyProof.Rows
set_option maxRecDepth 100000 in
set_option maxHeartbeats 0 in
theorem PySem.Challenge.cw_livenames_k02_terms_refused_holds : PySem.Challenge.rw_livenames_k02_terms_refused.Holds := by
  w_on; o_law; k_head; (case hw => w_witness2)
  k_fill
  refine L2.Lv.walkG2 (l := PySem.Challenge.rw_livenames_k02_terms_refused) (n := 63) (k := 204) (x := "_law_script") (CX := fun w => L2.CX PySem.Challenge.rw_livenames_k02_terms_refused.prog w) rfl (by decide) rfl ⟨rfl, by decide, by decide⟩ (by decide +kernel) (fun w h Y => by first | exact PySem.W.kIn_of Y | exact PySem.W.km_in_of Y) ?F ?CX
  case CX => exact fun w H s e s' q => by obtain ⟨_, _, _, _, _, _, _, _, _, _, _, _, z⟩ := q; exact z.elim
  case F =>
    intro w mg fa h Y KX Gn hmg own
    refine' L2.Lv.K02.all_mk KX Gn hmg own ?hh_n_C0 ?hh_pg0 ?hh_hd0 ?hh_po0 ?hh_sa0 ?hh_ca0 ?hh_ob0 ?hh_n_C20 ?hh_n_C23 ?hh_n_C24 ?hh_n_C26 ?hh_cn ?hh_ct ?hh_a2 ?hh_l2 ?hh_c2 ?hh_k2 ?hh_a5 ?hh_l5 ?hh_c5 ?hh_k5 ?hh_a6 ?hh_l6 ?hh_c6 ?hh_k6 ?hh_a7 ?hh_l7 ?hh_c7 ?hh_k7 ?hh_a10 ?hh_l10 ?hh_c10 ?hh_k10 ?hh_a11 ?hh_l11 ?hh_c11 ?hh_k11 ?hh_a13 ?hh_l13 ?hh_c13 ?hh_k13 ?hh_a14 ?hh_l14 ?hh_c14 ?hh_k14 ?hh_a16 ?hh_l16 ?hh_c16 ?hh_k16 ?hh_a17 ?hh_l17 ?hh_c17 ?hh_k17 ?hh_a18 ?hh_l18 ?hh_c18 ?hh_k18 ?hh_a55 ?hh_l55 ?hh_c55 ?hh_k55 ?hh_a56 ?hh_l56 ?hh_c56 ?hh_k56 ?hh_a57 ?hh_l57 ?hh_c57 ?hh_k57 ?hh_a59 ?hh_l59 ?hh_c59 ?hh_k59 ?hh_a60 ?hh_l60 ?hh_c60 ?hh_k60 ?hh_a61 ?hh_l61 ?hh_c61 ?hh_k61 ?hh_a62 ?hh_l62 ?hh_c62 ?hh_k62 ?hh_a63 ?hh_l63 ?hh_c63 ?hh_k63 ?hh_a64 ?hh_l64 ?hh_c64 ?hh_k64 ?hh_a76 ?hh_l76 ?hh_c76 ?hh_k76 ?hh_a102 ?hh_l102 ?hh_c102 ?hh_k102 ?hh_a103 ?hh_l103 ?hh_c103 ?hh_k103 ?hh_a104 ?hh_l104 ?hh_c104 ?hh_k104 ?hh_a105 ?hh_l105 ?hh_c105 ?hh_k105 ?hh_a108 ?hh_l108 ?hh_c108 ?hh_k108 ?hh_a109 ?hh_l109 ?hh_c109 ?hh_k109 ?hh_a110 ?hh_l110 ?hh_c110 ?hh_k110 ?hh_a111 ?hh_l111 ?hh_c111 ?hh_k111 ?hh_a112 ?hh_l112 ?hh_c112 ?hh_k112 ?hh_a113 ?hh_l113 ?hh_c113 ?hh_k113 ?hh_z_ValueError ?hh_z_enumerate ?hh_z_int ?hh_z_isinstance ?hh_z_len ?hh_z_list ?hh_z_max ?hh_z_min ?hh_z_range ?hh_z_repr ?hh_z_set ?hh_z_sorted ?hh_z_str ?hh_z_tuple ?hh_g_LONGEST_NAME ?hh_g_MOST_BINDERS ?hh_g_MOST_NODES ?hh_g_MOST_ON_A_WAY ?hh_kt0_list ?hh_kt0_str ?hh_kt0_tuple ?hh_no0_2 ?hh_no0_1 ?hh_no0_0 ?hh_mm0 ?hh_mp0 ?hh_q18 ?hh_xl23 ?hh_xr23 ?hh_xs_23 ?hh_xe23 ?hh_xt23 ?hh_xp23 ?hh_xi23 ?hh_xo23 ?hh_xg23 ?hh_xh23 ?hh_xD23 ?hh_xx23 ?hh_xy23 ?hh_xl20 ?hh_xr20 ?hh_xs_20 ?hh_xe20 ?hh_xt20 ?hh_xp20 ?hh_xi20 ?hh_xo20 ?hh_xg20 ?hh_xh20 ?hh_xD20 ?hh_xx20 ?hh_xy20 ?hh_xl24 ?hh_xs_24 ?hh_xe24 ?hh_xt24 ?hh_xp24 ?hh_xi24 ?hh_xo24 ?hh_xg24 ?hh_xh24 ?hh_xD24 ?hh_xx24 ?hh_xy24 ?hh_xC20 ?hh_xO20 ?hh_xC24 ?hh_xO24 ?hh_xsxk20_BinderError ?hh_xb_26 ?hh_xv_26 ?hh_xw_20_26 ?hh_xsxk20_ValueError ?hh_xsxk24_BinderError ?hh_xw_24_26 ?hh_xz23_20 ?hh_xz24_23 ?hh_xz24_20 ?hh_lcc76 ?hh_le76 ?hh_v11_76 ?hh_w11_76 ?hh_w18_76 ?hh_w7_76 ?hh_w9_76 ?hh_w10_76 ?hh_nP76 ?hh_cP76 ?hh_rq76 ?hh_lcc112 ?hh_le112 ?hh_v11_112 ?hh_w11_112 ?hh_w18_112 ?hh_w7_112 ?hh_w9_112 ?hh_w10_112 ?hh_nP112 ?hh_cP112 ?hh_rq112 ?hh_pp76_112 ?hh_nl ?math
    (case hh_n_C0 => k_is)
    (case hh_pg0 => k_is)
    (case hh_hd0 => k_is)
    (case hh_po0 => k_is)
    (case hh_sa0 => k_is)
    (case hh_ca0 => k_is)
    (case hh_ob0 => k_is)
    (case hh_n_C20 => k_is)
    (case hh_n_C23 => k_is)
    (case hh_n_C24 => k_is)
    (case hh_n_C26 => k_is)
    (case hh_cn => k_is)
    (case hh_ct => k_is)
    (case hh_a2 => k_is)
    (case hh_l2 => k_is)
    (case hh_c2 => k_is)
    (case hh_k2 => k_is)
    (case hh_a5 => k_is)
    (case hh_l5 => k_is)
    (case hh_c5 => k_is)
    (case hh_k5 => k_is)
    (case hh_a6 => k_is)
    (case hh_l6 => k_is)
    (case hh_c6 => k_is)
    (case hh_k6 => k_is)
    (case hh_a7 => k_is)
    (case hh_l7 => k_is)
    (case hh_c7 => k_is)
    (case hh_k7 => k_is)
    (case hh_a10 => k_is)
    (case hh_l10 => k_is)
    (case hh_c10 => k_is)
    (case hh_k10 => k_is)
    (case hh_a11 => k_is)
    (case hh_l11 => k_is)
    (case hh_c11 => k_is)
    (case hh_k11 => k_is)
    (case hh_a13 => k_is)
    (case hh_l13 => k_is)
    (case hh_c13 => k_is)
    (case hh_k13 => k_is)
    (case hh_a14 => k_is)
    (case hh_l14 => k_is)
    (case hh_c14 => k_is)
    (case hh_k14 => k_is)
    (case hh_a16 => k_is)
    (case hh_l16 => k_is)
    (case hh_c16 => k_is)
    (case hh_k16 => k_is)
    (case hh_a17 => k_is)
    (case hh_l17 => k_is)
    (case hh_c17 => k_is)
    (case hh_k17 => k_is)
    (case hh_a18 => k_is)
    (case hh_l18 => k_is)
    (case hh_c18 => k_is)
    (case hh_k18 => k_is)
    (case hh_a55 => k_is)
    (case hh_l55 => k_is)
    (case hh_c55 => k_is)
    (case hh_k55 => k_is)
    (case hh_a56 => k_is)
    (case hh_l56 => k_is)
    (case hh_c56 => k_is)
    (case hh_k56 => k_is)
    (case hh_a57 => k_is)
    (case hh_l57 => k_is)
    (case hh_c57 => k_is)
    (case hh_k57 => k_is)
    (case hh_a59 => k_is)
    (case hh_l59 => k_is)
    (case hh_c59 => k_is)
    (case hh_k59 => k_is)
    (case hh_a60 => k_is)
    (case hh_l60 => k_is)
    (case hh_c60 => k_is)
    (case hh_k60 => k_is)
    (case hh_a61 => k_is)
    (case hh_l61 => k_is)
    (case hh_c61 => k_is)
    (case hh_k61 => k_is)
    (case hh_a62 => k_is)
    (case hh_l62 => k_is)
    (case hh_c62 => k_is)
    (case hh_k62 => k_is)
    (case hh_a63 => k_is)
    (case hh_l63 => k_is)
    (case hh_c63 => k_is)
    (case hh_k63 => k_is)
    (case hh_a64 => k_is)
    (case hh_l64 => k_is)
    (case hh_c64 => k_is)
    (case hh_k64 => k_is)
    (case hh_a76 => k_is)
    (case hh_l76 => k_is)
    (case hh_c76 => k_is)
    (case hh_k76 => k_is)
    (case hh_a102 => k_is)
    (case hh_l102 => k_is)
    (case hh_c102 => k_is)
    (case hh_k102 => k_is)
    (case hh_a103 => k_is)
    (case hh_l103 => k_is)
    (case hh_c103 => k_is)
    (case hh_k103 => k_is)
    (case hh_a104 => k_is)
    (case hh_l104 => k_is)
    (case hh_c104 => k_is)
    (case hh_k104 => k_is)
    (case hh_a105 => k_is)
    (case hh_l105 => k_is)
    (case hh_c105 => k_is)
    (case hh_k105 => k_is)
    (case hh_a108 => k_is)
    (case hh_l108 => k_is)
    (case hh_c108 => k_is)
    (case hh_k108 => k_is)
    (case hh_a109 => k_is)
    (case hh_l109 => k_is)
    (case hh_c109 => k_is)
    (case hh_k109 => k_is)
    (case hh_a110 => k_is)
    (case hh_l110 => k_is)
    (case hh_c110 => k_is)
    (case hh_k110 => k_is)
    (case hh_a111 => k_is)
    (case hh_l111 => k_is)
    (case hh_c111 => k_is)
    (case hh_k111 => k_is)
    (case hh_a112 => k_is)
    (case hh_l112 => k_is)
    (case hh_c112 => k_is)
    (case hh_k112 => k_is)
    (case hh_a113 => k_is)
    (case hh_l113 => k_is)
    (case hh_c113 => k_is)
    (case hh_k113 => k_is)
    (case hh_z_ValueError => k_is)
    (case hh_z_enumerate => k_is)
    (case hh_z_int => k_is)
    (case hh_z_isinstance => k_is)
    (case hh_z_len => k_is)
    (case hh_z_list => k_is)
    (case hh_z_max => k_is)
    (case hh_z_min => k_is)
    (case hh_z_range => k_is)
    (case hh_z_repr => k_is)
    (case hh_z_set => k_is)
    (case hh_z_sorted => k_is)
    (case hh_z_str => k_is)
    (case hh_z_tuple => k_is)
    (case hh_g_LONGEST_NAME => k_is)
    (case hh_g_MOST_BINDERS => k_is)
    (case hh_g_MOST_NODES => k_is)
    (case hh_g_MOST_ON_A_WAY => k_is)
    (case hh_kt0_list => k_is)
    (case hh_kt0_str => k_is)
    (case hh_kt0_tuple => k_is)
    (case hh_no0_2 => k_is)
    (case hh_no0_1 => k_is)
    (case hh_no0_0 => k_is)
    (case hh_mm0 => k_is)
    (case hh_mp0 => k_is)
    (case hh_q18 => k_is)
    (case hh_xl23 => k_is)
    (case hh_xr23 => first | rfl | k_is)
    (case hh_xs_23 => k_is)
    (case hh_xe23 => k_is)
    (case hh_xt23 => k_is)
    (case hh_xp23 => k_is)
    (case hh_xi23 => k_is)
    (case hh_xo23 => k_is)
    (case hh_xg23 => k_is)
    (case hh_xh23 => k_is)
    (case hh_xD23 => k_is)
    (case hh_xx23 => k_is)
    (case hh_xy23 => k_is)
    (case hh_xl20 => k_is)
    (case hh_xr20 => first | rfl | k_is)
    (case hh_xs_20 => k_is)
    (case hh_xe20 => k_is)
    (case hh_xt20 => k_is)
    (case hh_xp20 => k_is)
    (case hh_xi20 => k_is)
    (case hh_xo20 => k_is)
    (case hh_xg20 => k_is)
    (case hh_xh20 => k_is)
    (case hh_xD20 => k_is)
    (case hh_xx20 => k_is)
    (case hh_xy20 => k_is)
    (case hh_xl24 => k_is)
    (case hh_xs_24 => k_is)
    (case hh_xe24 => k_is)
    (case hh_xt24 => k_is)
    (case hh_xp24 => k_is)
    (case hh_xi24 => k_is)
    (case hh_xo24 => k_is)
    (case hh_xg24 => k_is)
    (case hh_xh24 => k_is)
    (case hh_xD24 => k_is)
    (case hh_xx24 => k_is)
    (case hh_xy24 => k_is)
    (case hh_xC20 => k_is)
    (case hh_xO20 => k_is)
    (case hh_xC24 => k_is)
    (case hh_xO24 => k_is)
    (case hh_xsxk20_BinderError => k_is)
    (case hh_xb_26 => k_is)
    (case hh_xv_26 => k_is)
    (case hh_xw_20_26 => first | rfl | k_is)
    (case hh_xsxk20_ValueError => k_is)
    (case hh_xsxk24_BinderError => k_is)
    (case hh_xw_24_26 => first | rfl | k_is)
    (case hh_xz23_20 => k_is)
    (case hh_xz24_23 => k_is)
    (case hh_xz24_20 => k_is)
    (case hh_lcc76 => k_is)
    (case hh_le76 => first | rfl | k_is)
    (case hh_v11_76 => first | rfl | k_is)
    (case hh_w11_76 => first | rfl | k_is)
    (case hh_w18_76 => first | rfl | k_is)
    (case hh_w7_76 => first | rfl | k_is)
    (case hh_w9_76 => first | rfl | k_is)
    (case hh_w10_76 => first | rfl | k_is)
    (case hh_nP76 => first | rfl | k_is)
    (case hh_cP76 => first | rfl | k_is)
    (case hh_rq76 => decide +kernel)
    (case hh_lcc112 => k_is)
    (case hh_le112 => first | rfl | k_is)
    (case hh_v11_112 => first | rfl | k_is)
    (case hh_w11_112 => first | rfl | k_is)
    (case hh_w18_112 => first | rfl | k_is)
    (case hh_w7_112 => first | rfl | k_is)
    (case hh_w9_112 => first | rfl | k_is)
    (case hh_w10_112 => first | rfl | k_is)
    (case hh_nP112 => first | rfl | k_is)
    (case hh_cP112 => first | rfl | k_is)
    (case hh_rq112 => decide +kernel)
    (case hh_pp76_112 => first | rfl | k_is)
    (case hh_nl => first | rfl | k_is)
    case math => exact L2.Lv.K02.math
end
