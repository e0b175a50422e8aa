import PyProof.Rows.All
import Wide.All
import OpenK.AllK
import Wide.FinOn
import PySem.Challenge.RW_livenames_k01_trees_and_terms_told
import HandS.ForMost
import HandS.Exc
import HandS.ExcOwn
import HandS.WordsExc
import HandS.TryOnly
import HandS.Flow
import HandS.Style
import HandS.IsInst
import HandS.Lambda
import HandS.Star
import HandS.TupAny
import HandS.Wide
import HandS.Deep
import HandS.TupLe
import HandS.SlotsOwn
import HandS.More
import HandS.StrMore
import HandS.Text
import HandS.ExcInit
import HandS.EndOwn
set_option Elab.async false
set_option linter.all false
section
set_option maxRecDepth 100000
set_option maxHeartbeats 4000000
set_option autoImplicit false
namespace L2.Lv
open PySem PySem.Spec PyProof.Rows

/-! ### values, objects, outcomes of the plain machine -/
inductive D where
  | non | bl (b : Bool) | int (i : Int) | str (s : List Nat) | tup (xs : List D) | ref (n : Nat)
inductive Ob where
  | lst (xs : List D) | frz (xs : List D) | ins (c : Nat) (fs : List (Nat × D)) | dk (kvs : List (Sum Int (List Nat) × D))
abbrev Hm := List Ob
abbrev En := List (Option D)
inductive Re (α : Type) where
  | ok (a : α) (h : Hm) | ex (c : Nat) (v : D) (h : Hm) | no
def Re.bind {α β : Type} (r : Re α) (k : α → Hm → Re β) : Re β := match r with
  | .ok a h => k a h
  | .ex c v h => .ex c v h
  | .no => .no
inductive Rs where
  | nx (e : En) (h : Hm) | rt (d : D) (h : Hm) | bk (e : En) (h : Hm) | ct (e : En) (h : Hm) | ex (c : Nat) (v : D) (e : En) (h : Hm) | no
/-- the written things: classes' addresses, fields' names, an error class's field -/
structure Gx where
  K : PySem.W.Frag
  ga : Nat → Addr
  fn : List Str
  xf : Nat → Str
  T : List (Addr × Str)

/-! ### what stands for what -/
mutual
inductive Rep (G : Gx) (r : List Addr) (H : Hp) : D → V → Prop
  | non : Rep G r H .non .non
  | bl (b : Bool) : Rep G r H (.bl b) (.bl b)
  | int (i : Int) : Rep G r H (.int i) (.int i)
  | str (s : List Nat) : Rep G r H (.str s) (.str ⟨s.toArray⟩)
  | tup {a : Addr} {vs : List V} {ds : List D} : SqT G.K H a vs → Reps G r H ds vs → Rep G r H (.tup ds) (.ref a)
  | ref {n : Nat} {a : Addr} : r[n]? = some a → Rep G r H (.ref n) (.ref a)
inductive Reps (G : Gx) (r : List Addr) (H : Hp) : List D → List V → Prop
  | nil : Reps G r H [] []
  | cons {d : D} {v : V} {ds : List D} {vs : List V} : Rep G r H d v → Reps G r H ds vs → Reps G r H (d :: ds) (v :: vs)
end
structure Gr (G : Gx) (r : List Addr) (H : Hp) (r' : List Addr) (H' : Hp) : Prop where
  pre : ∀ (n : Nat) (a : Addr), r[n]? = some a → r'[n]? = some a
  tup : ∀ a xs, SqT G.K H a xs → SqT G.K H' a xs
section
variable {G : Gx} {r r' r2 : List Addr} {H H' H2 : Hp}
theorem Gr.refl : Gr G r H r H := ⟨fun _ _ h => h, fun _ _ h => h⟩
theorem Gr.trans (a : Gr G r H r' H') (b : Gr G r' H' r2 H2) : Gr G r H r2 H2 := ⟨fun n c h => b.pre n c (a.pre n c h), fun c xs h => b.tup c xs (a.tup c xs h)⟩
mutual
theorem Rep.mono (g : Gr G r H r' H') : ∀ {d : D} {v : V}, Rep G r H d v → Rep G r' H' d v
  | _, _, .non => .non
  | _, _, .bl b => .bl b
  | _, _, .int i => .int i
  | _, _, .str s => .str s
  | _, _, .tup h t => .tup (g.tup _ _ h) (Reps.mono g t)
  | _, _, .ref h => .ref (g.pre _ _ h)
theorem Reps.mono (g : Gr G r H r' H') : ∀ {ds : List D} {vs : List V}, Reps G r H ds vs → Reps G r' H' ds vs
  | _, _, .nil => .nil
  | _, _, .cons h t => .cons (Rep.mono g h) (Reps.mono g t)
end
theorem Reps.length : ∀ {ds : List D} {vs : List V}, Reps G r H ds vs → ds.length = vs.length
  | _, _, .nil => rfl
  | _, _, .cons _ t => congrArg (· + 1) (Reps.length t)
theorem Reps.get : ∀ {ds : List D} {vs : List V} {i : Nat} {d : D}, Reps G r H ds vs → ds[i]? = some d → ∃ v, vs[i]? = some v ∧ Rep G r H d v
  | _, _, _, _, .nil, e => by simp at e
  | _, _, 0, _, .cons h _, e => by simp at e; subst e; exact ⟨_, rfl, h⟩
  | _, _, i + 1, _, .cons _ t, e => by
    obtain ⟨v, h1, h2⟩ := Reps.get (i := i) t (by simpa using e)
    exact ⟨v, by simpa using h1, h2⟩
theorem Reps.get' : ∀ {ds : List D} {vs : List V} {i : Nat} {v : V}, Reps G r H ds vs → vs[i]? = some v → ∃ d, ds[i]? = some d ∧ Rep G r H d v
  | _, _, _, _, .nil, e => by simp at e
  | _, _, 0, _, .cons h _, e => by simp at e; subst e; exact ⟨_, rfl, h⟩
  | _, _, i + 1, _, .cons _ t, e => by
    obtain ⟨v, h1, h2⟩ := Reps.get' (i := i) t (by simpa using e)
    exact ⟨v, by simpa using h1, h2⟩
theorem Reps.append : ∀ {ds es : List D} {vs ws : List V}, Reps G r H ds vs → Reps G r H es ws → Reps G r H (ds ++ es) (vs ++ ws)
  | _, _, _, _, .nil, s => s
  | _, _, _, _, .cons h t, s => .cons h (Reps.append t s)
theorem Reps.set {d : D} {v : V} (h : Rep G r H d v) : ∀ {ds : List D} {vs : List V} (i : Nat), Reps G r H ds vs → Reps G r H (ds.set i d) (vs.set i v)
  | _, _, _, .nil => .nil
  | _, _, 0, .cons _ t => .cons h t
  | _, _, i + 1, .cons q t => .cons q (Reps.set h i t)
theorem Reps.take : ∀ {ds : List D} {vs : List V} (n : Nat), Reps G r H ds vs → Reps G r H (ds.take n) (vs.take n)
  | _, _, 0, _ => .nil
  | _, _, _ + 1, .nil => .nil
  | _, _, n + 1, .cons q t => .cons q (Reps.take n t)
theorem Reps.drop : ∀ {ds : List D} {vs : List V} (n : Nat), Reps G r H ds vs → Reps G r H (ds.drop n) (vs.drop n)
  | _, _, 0, h => h
  | _, _, _ + 1, .nil => .nil
  | _, _, n + 1, .cons _ t => Reps.drop n t
theorem Reps.reverse {ds : List D} {vs : List V} (h : Reps G r H ds vs) : Reps G r H ds.reverse vs.reverse := by
  induction ds generalizing vs with
  | nil => cases h; exact .nil
  | cons d ds ih =>
    cases h with
    | cons a b =>
      rw [List.reverse_cons, List.reverse_cons]
      exact (ih b).append (.cons a .nil)
theorem Reps.dropLast {ds : List D} {vs : List V} (h : Reps G r H ds vs) : Reps G r H ds.dropLast vs.dropLast := by
  rw [List.dropLast_eq_take, List.dropLast_eq_take, h.length]
  exact h.take _

/-- fields -/
inductive FsR (G : Gx) (r : List Addr) (H : Hp) : List (Nat × D) → List (Str × V) → Prop
  | nil : FsR G r H [] []
  | cons {i : Nat} {d : D} {x : Str} {v : V} {fs : List (Nat × D)} {vs : List (Str × V)} : G.fn[i]? = some x → Rep G r H d v → FsR G r H fs vs → FsR G r H ((i, d) :: fs) ((x, v) :: vs)
theorem FsR.mono (g : Gr G r H r' H') : ∀ {fs : List (Nat × D)} {vs : List (Str × V)}, FsR G r H fs vs → FsR G r' H' fs vs
  | _, _, .nil => .nil
  | _, _, .cons e h t => .cons e (h.mono g) (FsR.mono g t)
/-- a dict's pairs -/
def keyD : Sum Int (List Nat) → Key
  | .inl i => .inl i
  | .inr s => .inr ⟨s.toArray⟩
inductive DkR (G : Gx) (r : List Addr) (H : Hp) : List (Sum Int (List Nat) × D) → List (Key × V) → Prop
  | nil : DkR G r H [] []
  | cons {k : Sum Int (List Nat)} {d : D} {v : V} {fs : List (Sum Int (List Nat) × D)} {vs : List (Key × V)} : Rep G r H d v → DkR G r H fs vs → DkR G r H ((k, d) :: fs) ((keyD k, v) :: vs)
theorem DkR.mono (g : Gr G r H r' H') : ∀ {fs : List (Sum Int (List Nat) × D)} {vs : List (Key × V)}, DkR G r H fs vs → DkR G r' H' fs vs
  | _, _, .nil => .nil
  | _, _, .cons h t => .cons (h.mono g) (DkR.mono g t)
def ObR (G : Gx) (r : List Addr) (H : Hp) (a : Addr) : Ob → Prop
  | .lst ds => ∃ vs, H a = some (.lst vs) ∧ Reps G r H ds vs
  | .frz ds => ∃ o vs, H a = some (.frz o (.lst vs)) ∧ Reps G r H ds vs
  | .ins c fs => ∃ dx vs, H a = some (.ins (G.ga c) dx vs) ∧ FsR G r H fs vs
  | .dk kvs => ∃ vs, H a = some (.dK vs) ∧ DkR G r H kvs vs
structure Sim (G : Gx) (r : List Addr) (H : Hp) (h : Hm) : Prop where
  len : r.length = h.length
  nd : r.Nodup
  at_ : ∀ (n : Nat) (ob : Ob) (a : Addr), h[n]? = some ob → r[n]? = some a → ObR G r H a ob
  tb : LamX.Tabs G.T H
theorem Sim.get {h : Hm} {n : Nat} {a : Addr} (s : Sim G r H h) (e : r[n]? = some a) : ∃ ob, h[n]? = some ob ∧ ObR G r H a ob := by
  have l : n < h.length := by rw [← s.len]; exact (List.getElem?_eq_some_iff.mp e).1
  exact ⟨h[n], List.getElem?_eq_getElem l, s.at_ n _ a (List.getElem?_eq_getElem l) e⟩
theorem ObR.there {a : Addr} {ob : Ob} (h : ObR G r H a ob) : ∃ o, H a = some o ∧ (∀ xs, o ≠ .tup xs) ∧ (∀ b, o ≠ .own b) ∧ (∀ p xs, o ≠ .frz p (.tup xs)) ∧ (∀ ps, o ≠ .tbl ps) ∧ ∀ f, o ≠ .ext f := by
  cases ob with
  | lst ds => obtain ⟨vs, e, _⟩ := h; exact ⟨_, e, fun _ z => (by cases z), fun _ z => (by cases z), fun _ _ z => (by cases z), fun _ z => (by cases z), fun _ z => (by cases z)⟩
  | frz ds => obtain ⟨o, vs, e, _⟩ := h; exact ⟨_, e, fun _ z => (by cases z), fun _ z => (by cases z), fun _ _ z => (by cases z), fun _ z => (by cases z), fun _ z => (by cases z)⟩
  | ins c fs => obtain ⟨dx, vs, e, _⟩ := h; exact ⟨_, e, fun _ z => (by cases z), fun _ z => (by cases z), fun _ _ z => (by cases z), fun _ z => (by cases z), fun _ z => (by cases z)⟩
  | dk kvs => obtain ⟨vs, e, _⟩ := h; exact ⟨_, e, fun _ z => (by cases z), fun _ z => (by cases z), fun _ _ z => (by cases z), fun _ z => (by cases z), fun _ z => (by cases z)⟩
theorem Sim.ne_none {h : Hm} {n : Nat} {a p : Addr} (s : Sim G r H h) (e : r[n]? = some a) (hp : H p = none) : a ≠ p := by
  obtain ⟨ob, _, q⟩ := s.get e
  obtain ⟨o, ho, _⟩ := q.there
  exact ne_of_none ho hp
theorem ObR.keep {a : Addr} {ob : Ob} (g : Gr G r H r' H') (e : H' a = H a) (h : ObR G r H a ob) : ObR G r' H' a ob := by
  cases ob with
  | lst ds => obtain ⟨vs, q, t⟩ := h; exact ⟨vs, e.trans q, t.mono g⟩
  | frz ds => obtain ⟨o, vs, q, t⟩ := h; exact ⟨o, vs, e.trans q, t.mono g⟩
  | ins c fs => obtain ⟨dx, vs, q, t⟩ := h; exact ⟨dx, vs, e.trans q, t.mono g⟩
  | dk kvs => obtain ⟨vs, q, t⟩ := h; exact ⟨vs, e.trans q, t.mono g⟩
/-- a new untracked-by-us object: the rest stands -/
theorem gr_fresh {p : Addr} {o : HO} (hp : H p = none) : Gr G r H r (upd H p o) := by
  refine ⟨fun _ _ h => h, fun a xs h => ?_⟩
  rcases h with h | h
  · left
    rcases h with h | ⟨u, h⟩
    · exact .inl (by rw [upd_ne (ne_of_none h hp)]; exact h)
    · exact .inr ⟨u, by rw [upd_ne (ne_of_none h hp)]; exact h⟩
  · exact .inr h
theorem tb_fresh {T : List (Addr × Str)} {p : Addr} {o : HO} (hp : H p = none) (t : LamX.Tabs T H) : LamX.Tabs T (upd H p o) :=
  t.ext fun b u e => by rw [upd_ne (ne_of_none e hp)]; exact e
theorem tb_upd {T : List (Addr × Str)} {a : Addr} {o u : HO} (ha : H a = some u) (h1 : ∀ ps, u ≠ .tbl ps) (h2 : ∀ f, u ≠ .ext f) (t : LamX.Tabs T H) : LamX.Tabs T (upd H a o) := fun p hp => by
  obtain ⟨ps, q1, q2, q3⟩ := t p hp
  refine ⟨ps, by rw [upd_ne (ne_of q1 ha fun z => h1 ps z.symm)]; exact q1, q2, fun pos cv hc => ?_⟩
  obtain ⟨c, e1, e2⟩ := q3 pos cv hc
  exact ⟨c, e1, by rw [upd_ne (ne_of e2 ha fun z => h2 _ z.symm)]; exact e2⟩
theorem Sim.fresh {h : Hm} {p : Addr} {o : HO} (s : Sim G r H h) (hp : H p = none) : Sim G r (upd H p o) h :=
  ⟨s.len, s.nd, fun n ob a e1 e2 => (s.at_ n ob a e1 e2).keep (gr_fresh hp) (upd_ne (s.ne_none e2 hp)), tb_fresh hp s.tb⟩
/-- a new object of ours -/
theorem gr_new {p : Addr} {o : HO} (hp : H p = none) : Gr G r H (r ++ [p]) (upd H p o) :=
  ⟨fun n a e => by rw [List.getElem?_append_left (List.getElem?_eq_some_iff.mp e).1]; exact e, (gr_fresh (r := r) hp).tup⟩
theorem Sim.new {h : Hm} {p : Addr} {o : HO} {ob : Ob} (s : Sim G r H h) (hp : H p = none) (hn : ObR G (r ++ [p]) (upd H p o) p ob) : Sim G (r ++ [p]) (upd H p o) (h ++ [ob]) := by
  refine ⟨by simp [s.len], ?_, fun n ob' a e1 e2 => ?_, tb_fresh hp s.tb⟩
  · rw [List.nodup_append]
    refine ⟨s.nd, by simp, fun x hx y hy => ?_⟩
    have e : y = p := by simpa using hy
    subst e
    obtain ⟨n, e⟩ := List.getElem?_of_mem hx
    exact s.ne_none e hp
  · by_cases hl : n < h.length
    · rw [List.getElem?_append_left hl] at e1
      rw [List.getElem?_append_left (by rw [s.len]; exact hl)] at e2
      exact (s.at_ n ob' a e1 e2).keep (gr_new hp) (upd_ne (s.ne_none e2 hp))
    · have l2 := (List.getElem?_eq_some_iff.mp e1).1
      rw [List.length_append, List.length_singleton] at l2
      have en : n = h.length := by omega
      subst en
      rw [List.getElem?_append_right (Nat.le_refl _), Nat.sub_self] at e1
      rw [List.getElem?_append_right (by rw [s.len]; exact Nat.le_refl _), s.len, Nat.sub_self] at e2
      have e1' : ob = ob' := by simpa using e1
      have e2' : p = a := by simpa using e2
      subst e1' e2'
      exact hn
theorem new_at {h : Hm} (s : Sim G r H h) (p : Addr) : (r ++ [p])[h.length]? = some p := by
  rw [List.getElem?_append_right (by rw [s.len]; exact Nat.le_refl _), s.len, Nat.sub_self] <;> rfl
/-- an object of ours is written -/
theorem gr_upd {a : Addr} {o u : HO} (ha : H a = some u) (hu : ∀ xs, u ≠ .tup xs) (hf : ∀ p xs, u ≠ .frz p (.tup xs)) : Gr G r H r (upd H a o) := by
  refine ⟨fun _ _ h => h, fun b xs h => ?_⟩
  rcases h with h | h
  · left
    rcases h with h | ⟨v, h⟩
    · exact .inl (by rw [upd_ne (ne_of h ha fun z => hu xs z.symm)]; exact h)
    · exact .inr ⟨v, by rw [upd_ne (ne_of h ha fun z => hf v xs z.symm)]; exact h⟩
  · exact .inr h
theorem nodup_get {l : List Addr} (nd : l.Nodup) {i j : Nat} {a : Addr} (e1 : l[i]? = some a) (e2 : l[j]? = some a) : i = j := by
  obtain ⟨h1, q1⟩ := List.getElem?_eq_some_iff.mp e1
  obtain ⟨h2, q2⟩ := List.getElem?_eq_some_iff.mp e2
  exact (List.getElem_inj nd).mp (q1.trans q2.symm)
theorem Sim.put {h : Hm} {n : Nat} {a : Addr} {o : HO} {ob : Ob} (s : Sim G r H h) (e : r[n]? = some a) (hn : Gr G r H r (upd H a o) → ObR G r (upd H a o) a ob) : Sim G r (upd H a o) (h.set n ob) ∧ Gr G r H r (upd H a o) := by
  obtain ⟨ob0, e0, q0⟩ := s.get e
  obtain ⟨u, hu, nt, _, nf, nb, nx⟩ := q0.there
  have g : Gr G r H r (upd H a o) := gr_upd hu nt nf
  refine ⟨⟨by rw [List.length_set]; exact s.len, s.nd, fun m ob' b e1 e2 => ?_, tb_upd hu nb nx s.tb⟩, g⟩
  by_cases hm : n = m
  · subst hm
    rw [e] at e2
    cases e2
    rw [List.getElem?_set_self (List.getElem?_eq_some_iff.mp e0).1] at e1
    cases e1
    exact hn g
  · rw [List.getElem?_set_ne hm] at e1
    have hb : b ≠ a := fun z => hm (nodup_get s.nd e (z ▸ e2))
    exact (s.at_ m ob' b e1 e2).keep g (upd_ne hb)
end

/-! ### outcomes -/
structure EnR (G : Gx) (r : List Addr) (H : Hp) (e : En) (σ : St) : Prop where
  len : e.length = σ.length
  at_ : ∀ (i : Nat) (d : D), e[i]? = some (some d) → ∃ v, σ[i]? = some (some v) ∧ Rep G r H d v
section
variable {G : Gx} {r r' r2 : List Addr} {H H' H2 : Hp} {e : En} {σ : St}
theorem EnR.mono (g : Gr G r H r' H') (h : EnR G r H e σ) : EnR G r' H' e σ := ⟨h.len, fun i d q => let ⟨v, a, b⟩ := h.at_ i d q; ⟨v, a, b.mono g⟩⟩
theorem EnR.set {d : D} {v : V} {i : Nat} (h : EnR G r H e σ) (hd : Rep G r H d v) : EnR G r H (e.set i (some d)) (σ.set i (some v)) := by
  refine ⟨by rw [List.length_set, List.length_set]; exact h.len, fun j c q => ?_⟩
  by_cases hj : i = j
  · subst hj
    have hl : i < e.length := by
      have := (List.getElem?_eq_some_iff.mp q).1
      rwa [List.length_set] at this
    rw [List.getElem?_set_self hl] at q
    cases q
    exact ⟨v, by rw [List.getElem?_set_self (by rw [← h.len]; exact hl)], hd⟩
  · rw [List.getElem?_set_ne hj] at q
    obtain ⟨w, a, b⟩ := h.at_ j c q
    exact ⟨w, by rw [List.getElem?_set_ne hj]; exact a, b⟩
end
/-- the wanted ends of an outcome -/
def Post {α β : Type} (G : Gx) (W : XK) (R : List Addr → Hp → α → β → Prop) (r : List Addr) (H : Hp) (x : Re α) (Q : β → Hp → Prop) : Prop := match x with
  | .ok a h' => ∀ b H' r', Gr G r H r' H' → Sim G r' H' h' → R r' H' a b → Q b H'
  | .ex c d h' => ∀ v H' r' dd, Gr G r H r' H' → Sim G r' H' h' → Rep G r' H' d v → H' dd = some (.xd [(G.xf c, v)]) → W (.ref (G.ga c)) (some dd) H'
  | .no => False
abbrev RD (G : Gx) : List Addr → Hp → D → V → Prop := fun r H d v => Rep G r H d v
abbrev RL (G : Gx) : List Addr → Hp → List D → List V → Prop := fun r H d v => Reps G r H d v
abbrev RB : List Addr → Hp → Bool → Bool → Prop := fun _ _ a b => a = b
section
variable {α β γ δ : Type} {G : Gx} {W : XK} {R : List Addr → Hp → α → β → Prop} {R2 : List Addr → Hp → γ → δ → Prop} {r r' : List Addr} {H H' : Hp}
theorem Post.mono {x : Re α} {Q : β → Hp → Prop} (g : Gr G r H r' H') (h : Post G W R r H x Q) : Post G W R r' H' x Q := by
  cases x with
  | ok a h' => exact fun b H2 r2 g2 => h b H2 r2 (g.trans g2)
  | ex c d h' => exact fun v H2 r2 dd g2 => h v H2 r2 dd (g.trans g2)
  | no => exact h
theorem Post.weak {x : Re α} {Q Q' : β → Hp → Prop} (h : Post G W R r H x Q) (w : ∀ b H', Q b H' → Q' b H') : Post G W R r H x Q' := by
  cases x with
  | ok a h' => exact fun b H2 r2 g2 s q => w _ _ (h b H2 r2 g2 s q)
  | ex c d h' => exact h
  | no => exact h
theorem Post.bind {x : Re α} {k : α → Hm → Re γ} {Q : δ → Hp → Prop} (h : Post G W R2 r H (x.bind k) Q) :
    Post G W R r H x fun b H1 => ∃ (r1 : List Addr) (h1 : Hm) (a : α), Gr G r H r1 H1 ∧ Sim G r1 H1 h1 ∧ R r1 H1 a b ∧ Post G W R2 r1 H1 (k a h1) Q := by
  cases x with
  | ok a h' => exact fun b H' r' g s q => ⟨r', h', a, g, s, q, Post.mono g h⟩
  | ex c d h' => exact h
  | no => exact h
end
/-- the state at hand -/
abbrev ME := En → Hm → Re D
abbrev MT := En → Hm → Re Bool
abbrev MA := En → Hm → Re (List D)
abbrev MS := En → Hm → Rs
def uG {α β : Type} (G : Gx) (W : WX) (R : List Addr → Hp → α → β → Prop) (m : En → Hm → Re α) : St → Hp → (β → Hp → Prop) → Prop := fun σ H Q =>
  ∃ r h e, Sim G r H h ∧ EnR G r H e σ ∧ Post G (fun c d H' => W c d σ H') R r H (m e h) Q
abbrev uE (G : Gx) (W : WX) (m : ME) : TE := uG G W (RD G) m
abbrev uT (G : Gx) (W : WX) (m : MT) : TT := uG G W RB m
abbrev uA (G : Gx) (W : WX) (m : MA) : TA := uG G W (RL G) m
structure SE (G : Gx) (X : Cx) (W : WX) (x : Expr) (m : ME) : Prop where
  pe : PE X x (uE G W m)
structure ST (G : Gx) (X : Cx) (W : WX) (x : Expr) (m : MT) : Prop where
  pt : PT X x (uT G W m)
structure SA (G : Gx) (X : Cx) (W : WX) (xs : List Expr) (m : MA) : Prop where
  pa : PA X xs (uA G W m)
end L2.Lv
end
section
set_option maxRecDepth 100000
set_option maxHeartbeats 4000000
set_option autoImplicit false
namespace L2.Lv
open PySem PySem.Spec PyProof.Rows

/-! ### how readings are joined -/
theorem pe_imp {X : Cx} {x : Expr} {t t' : TE} (h : PE X x t) (w : ∀ σ H Q, t' σ H Q → t σ H Q) : PE X x t' := ⟨fun pins s σ H Q I q => h.run pins s σ H Q I (w σ H Q q)⟩
theorem pt_imp {X : Cx} {x : Expr} {t t' : TT} (h : PT X x t) (w : ∀ σ H Q, t' σ H Q → t σ H Q) : PT X x t' := ⟨fun pins s σ H Q I q => h.run pins s σ H Q I (w σ H Q q)⟩
theorem pa_imp {X : Cx} {x : List Expr} {t t' : TA} (h : PA X x t) (w : ∀ σ H Q, t' σ H Q → t σ H Q) : PA X x t' := ⟨fun pos pins s σ H Q I q => h.run pos pins s σ H Q I (w σ H Q q)⟩
section
variable {α β γ δ : Type} {G : Gx} {W : WX} {R : List Addr → Hp → α → β → Prop} {R2 : List Addr → Hp → γ → δ → Prop} {r : List Addr} {H : Hp} {σ : L2.St} {h : Hm} {e : En}
theorem uG_weak {m : En → Hm → Re α} {Q Q' : β → Hp → Prop} (u : uG G W R m σ H Q) (w : ∀ b H', Q b H' → Q' b H') : uG G W R m σ H Q' := by
  obtain ⟨r, h, e, s, en, p⟩ := u
  exact ⟨r, h, e, s, en, p.weak w⟩
theorem stepP {m : En → Hm → Re α} {k : α → Hm → Re γ} {Q : δ → Hp → Prop} (s : Sim G r H h) (en : EnR G r H e σ) (p : Post G (fun c d H' => W c d σ H') R2 r H ((m e h).bind k) Q) :
    uG G W R m σ H fun b H1 => ∃ (r1 : List Addr) (h1 : Hm) (a : α), Gr G r H r1 H1 ∧ Sim G r1 H1 h1 ∧ EnR G r1 H1 e σ ∧ R r1 H1 a b ∧ Post G (fun c d H' => W c d σ H') R2 r1 H1 (k a h1) Q :=
  ⟨r, h, e, s, en, Post.weak (Post.bind p) fun b H1 ⟨r1, h1, a, g, s1, q, p1⟩ => ⟨r1, h1, a, g, s1, en.mono g, q, p1⟩⟩
/-- the last part -/
theorem lastP {m : En → Hm → Re α} {Q : β → Hp → Prop} (s : Sim G r H h) (en : EnR G r H e σ) (p : Post G (fun c d H' => W c d σ H') R r H (m e h) Q) : uG G W R m σ H Q := ⟨r, h, e, s, en, p⟩
end

/-! ### names, constants -/
def big : Nat := 1000000
theorem big_le {n : Nat} (h : n ≤ big) : n ≤ sizeLine := by rw [sizeLine_eq]; unfold big at h; omega
def mVar (i : Nat) : ME := fun e h => match e[i]? with
  | some (some d) => .ok d h
  | _ => .no
def mC (d : D) : ME := fun _ h => .ok d h
section
variable {G : Gx} {X : Cx} {W : WX} {x y z : Expr} {xs : List Expr} {ma mb mc : ME} {mt mu : MT} {ms : MA} {pos : Pos}
theorem se_var (i : Nat) {n : Str} (hN : X.N[i]? = some n := by rfl) (hv : Vis X.env.scope n := by first | exact Or.inl rfl | exact Or.inr (Or.inl rfl) | exact Or.inr (Or.inr rfl)) (hd : (n == ("__debug__" : Str)) = false := by decide)
    (hcd : (n == ("__classdict__" : Str)) = false := by decide) : SE G X W (.Name n pos) (mVar i) := by
  refine ⟨pe_imp (pe_var hN hv hd hcd) fun σ H Q u => ?_⟩
  obtain ⟨r, h, e, s, en, p⟩ := u
  unfold mVar at p
  cases q : e[i]? with
  | none => rw [q] at p; exact p.elim
  | some o =>
    cases o with
    | none => rw [q] at p; exact p.elim
    | some d =>
      rw [q] at p
      obtain ⟨v, e1, e2⟩ := en.at_ i d q
      exact ⟨v, e1, p v H r Gr.refl s e2⟩
theorem se_c {d : D} {v : V} (hp : PE X x (tC v)) (hr : ∀ r H, Rep G r H d v) : SE G X W x (mC d) := by
  refine ⟨pe_imp hp fun σ H Q u => ?_⟩
  obtain ⟨r, h, e, s, en, p⟩ := u
  exact p v H r Gr.refl s (hr r H)
theorem se_int {i : Int} {j : Nat} : SE G X W (.Constant (.int i) j pos) (mC (.int i)) := se_c pe_int fun _ _ => .int i
theorem se_bl {i : Bool} {j : Nat} : SE G X W (.Constant (.bool i) j pos) (mC (.bl i)) := se_c pe_bl fun _ _ => .bl i
theorem se_non {j : Nat} : SE G X W (.Constant .none j pos) (mC .non) := se_c pe_non fun _ _ => .non
theorem se_str (l : List Nat) {t : Str} {j : Nat} (ht : t = ⟨l.toArray⟩ := by decide +kernel) : SE G X W (.Constant (.str t) j pos) (mC (.str l)) := by
  subst ht
  exact se_c pe_str fun _ _ => .str l
/-- a module's constant -/
theorem se_glob {d : D} {v : V} {n : Str} {u : Value} (hm : X.mg n = some u) (rv : RelV v u) (hr : ∀ r H, Rep G r H d v) (hg : Gl X n := by rfl) (hd : (n == ("__debug__" : Str)) = false := by decide) : SE G X W (.Name n pos) (mC d) := se_c (pe_glob hg hm rv hd) hr

/-! ### arguments, displays -/
def mNil : MA := fun _ h => .ok [] h
def mCons (a : ME) (r : MA) : MA := fun e h => (a e h).bind fun x h1 => (r e h1).bind fun xs h2 => .ok (x :: xs) h2
theorem sa_nil : SA G X W [] mNil := by
  refine ⟨pa_imp pa_nil fun σ H Q u => ?_⟩
  obtain ⟨r, h, e, s, en, p⟩ := u
  exact p [] H r Gr.refl s .nil
theorem sa_cons (ha : SE G X W x ma) (hr : SA G X W xs ms) (hs : starEach (x :: xs) X.env = (false, eval x X.env) :: starEach xs X.env := by rfl) : SA G X W (x :: xs) (mCons ma ms) := by
  refine ⟨pa_imp (pa_cons ha.pe hr.pa hs) fun σ H Q u => ?_⟩
  obtain ⟨r, h, e, s, en, p⟩ := u
  refine uG_weak (stepP s en p) ?_
  rintro v H1 ⟨r1, h1, a, g1, s1, en1, ra, p1⟩
  refine uG_weak (stepP s1 en1 p1) ?_
  rintro vs H2 ⟨r2, h2, as, g2, s2, en2, rs, p2⟩
  exact p2 (v :: vs) H2 r2 Gr.refl s2 (.cons (ra.mono g2) rs)
def mTup (a : MA) : ME := fun e h => (a e h).bind fun xs h1 => if xs.length ≤ big then .ok (.tup xs) h1 else .no
def newL (xs : List D) (h : Hm) : Re D := if xs.length ≤ big then .ok (.ref h.length) (h ++ [.lst xs]) else .no
def mLst (a : MA) : ME := fun e h => (a e h).bind newL
theorem post_newT {W' : XK} {r : List Addr} {H : Hp} {h : Hm} {xs : List D} {vs : List V} {Q : V → Hp → Prop} (s : Sim G r H h) (rs : Reps G r H xs vs) (p : Post G W' (RD G) r H (if xs.length ≤ big then .ok (.tup xs) h else .no) Q) :
    vs.length ≤ sizeLine ∧ ∀ q, H q = none → Q (.ref q) (upd H q (.tup vs)) := by
  split at p
  · rename_i c
    refine ⟨by rw [← rs.length]; exact big_le c, fun q hq => ?_⟩
    exact p (.ref q) _ r (gr_fresh hq) (s.fresh hq) (.tup (SqT.of upd_same) (rs.mono (gr_fresh hq)))
  · exact p.elim
theorem post_newL {W' : XK} {r : List Addr} {H : Hp} {h : Hm} {xs : List D} {vs : List V} {Q : V → Hp → Prop} (s : Sim G r H h) (rs : Reps G r H xs vs) (p : Post G W' (RD G) r H (newL xs h) Q) :
    vs.length ≤ sizeLine ∧ ∀ q, H q = none → Q (.ref q) (upd H q (.lst vs)) := by
  unfold newL at p
  split at p
  · rename_i c
    refine ⟨by rw [← rs.length]; exact big_le c, fun q hq => ?_⟩
    refine p (.ref q) _ (r ++ [q]) (gr_new hq) (s.new hq ⟨vs, upd_same, rs.mono (gr_new hq)⟩) (.ref (new_at s q))
  · exact p.elim
theorem se_tup {k : Nat} (ha : SA G X W xs ms) : SE G X W (.Tuple xs k pos) (mTup ms) := by
  refine ⟨pe_imp (pe_tup ha.pa) fun σ H Q u => ?_⟩
  obtain ⟨r, h, e, s, en, p⟩ := u
  refine uG_weak (stepP s en p) ?_
  rintro vs H1 ⟨r1, h1, as, g1, s1, en1, rs, p1⟩
  exact post_newT s1 rs p1
theorem se_lst (ha : SA G X W xs ms) : SE G X W (.List xs pos) (mLst ms) := by
  refine ⟨pe_imp (pe_lst ha.pa) fun σ H Q u => ?_⟩
  obtain ⟨r, h, e, s, en, p⟩ := u
  refine uG_weak (stepP s en p) ?_
  rintro vs H1 ⟨r1, h1, as, g1, s1, en1, rs, p1⟩
  exact post_newL s1 rs p1

/-! ### operators -/
def mBin (p : D → D → Hm → Re D) (a b : ME) : ME := fun e h => (a e h).bind fun x h1 => (b e h1).bind fun y h2 => p x y h2
def Prim2 (G : Gx) (rr : R2) (p : D → D → Hm → Re D) : Prop := ∀ (W : XK) (r : List Addr) (H : Hp) (h : Hm) (a b : D) (x y : V) (Q : VK), Sim G r H h → Rep G r H a x → Rep G r H b y → Post G W (RD G) r H (p a b h) Q → rr x y H Q
theorem OpR.or {X : Cx} {f : Value → Value → Sem Value} {r r' : R2} (h : OpR X f r) (h' : OpR X f r') : OpR X f (fun x y H Q => r x y H Q ∨ r' x y H Q) := by
  intro pins s σ H x y v u Q I rx ry hq
  rcases hq with q | q
  · exact h pins s σ H x y v u Q I rx ry q
  · exact h' pins s σ H x y v u Q I rx ry q
theorem tOp_of {rr : R2} {p : D → D → Hm → Re D} (hp : Prim2 G rr p) {σ : L2.St} {H : Hp} {Q : VK} (u : uE G W (mBin p ma mb) σ H Q) : tOp rr (uE G W ma) (uE G W mb) σ H Q := by
  obtain ⟨r, h, e, s, en, q⟩ := u
  refine uG_weak (stepP s en q) ?_
  rintro v H1 ⟨r1, h1, a, g1, s1, en1, ra, p1⟩
  refine uG_weak (stepP s1 en1 p1) ?_
  rintro w H2 ⟨r2, h2, b, g2, s2, en2, rb, p2⟩
  exact hp _ r2 H2 h2 a b v w Q s2 (ra.mono g2) rb p2
theorem se_op {op : Operator} {rr : R2} {p : D → D → Hm → Re D} (ho : OpR X (binaryOp op) rr) (hp : Prim2 G rr p) (ha : SE G X W x ma) (hb : SE G X W y mb) : SE G X W (.BinOp x op y pos) (mBin p ma mb) :=
  ⟨pe_imp (pe_op ho ha.pe hb.pe) fun _ _ _ u => tOp_of hp u⟩
theorem se_cmp {op : CmpOp} {rr : R2} {p : D → D → Hm → Re D} (ho : OpR X (compareOp op) rr) (hp : Prim2 G rr p) (ha : SE G X W x ma) (hb : SE G X W y mb) (hm : behindInMarks op y = false) : SE G X W (.Compare x [op] [y] pos) (mBin p ma mb) :=
  ⟨pe_imp (pe_cmpR ho ha.pe hb.pe hm) fun _ _ _ u => tOp_of hp u⟩

/-! ### truth -/
def truD (h : Hm) : D → Option Bool
  | .non => some false
  | .bl b => some b
  | .int i => some (i != 0)
  | .str s => if s.length ≤ big then some (!s.isEmpty) else none
  | .tup xs => some (!xs.isEmpty)
  | .ref n => match h[n]? with
    | some (.lst xs) => some (!xs.isEmpty)
    | some (.frz xs) => some (!xs.isEmpty)
    | _ => none
theorem tru_is {r : List Addr} {H : Hp} {h : Hm} {d : D} {v : V} {b : Bool} (s : Sim G r H h) (hd : Rep G r H d v) (e : truD h d = some b) : TruV G.K v H b := by
  have em : ∀ {ds : List D} {vs : List V}, Reps G r H ds vs → (!ds.isEmpty) = !vs.isEmpty := fun q => by cases q <;> rfl
  cases hd with
  | non => exact (Option.some.inj e).symm
  | bl c => exact (Option.some.inj e).symm
  | int i => exact (Option.some.inj e).symm
  | str t =>
    have e : (if t.length ≤ big then some (!t.isEmpty) else none) = some b := e
    by_cases c : t.length ≤ big
    · rw [if_pos c] at e
      refine ⟨by simpa [Str.length] using big_le c, ?_⟩
      rw [← Option.some.inj e]
      cases t with
      | nil => rfl
      | cons a l =>
        show true = (((⟨(a :: l).toArray⟩ : Str).length : Int) != 0)
        have : (⟨(a :: l).toArray⟩ : Str).length = l.length + 1 := by simp [Str.length]
        rw [this]
        symm
        rw [bne_iff_ne]
        omega
    · rw [if_neg c] at e
      cases e
  | tup h1 h2 => exact .inr (.inl ⟨_, h1, by rw [← em h2]; exact (Option.some.inj e).symm⟩)
  | ref hn =>
    obtain ⟨ob, e1, q⟩ := s.get hn
    simp only [truD, e1] at e
    cases ob with
    | lst ds =>
      obtain ⟨vs, q1, q2⟩ := q
      exact .inl ⟨vs, SqL.of q1, by rw [← em q2]; exact (Option.some.inj e).symm⟩
    | frz ds =>
      obtain ⟨o, vs, q1, q2⟩ := q
      exact .inl ⟨vs, .inl (.inr ⟨o, q1⟩), by rw [← em q2]; exact (Option.some.inj e).symm⟩
    | ins c fs => cases e
    | dk kvs => cases e
def mTru (a : ME) : MT := fun e h => (a e h).bind fun d h1 => match truD h1 d with
  | some b => .ok b h1
  | none => .no
def mTb (a : ME) : MT := fun e h => (a e h).bind fun d h1 => match d with
  | .bl b => .ok b h1
  | _ => .no
theorem st_val (hK : X.K = G.K) (ha : SE G X W x ma) (he : ∀ whole, isTrue x X.env whole = (do let v ← whole; standAt x.pos; holding [v] (truthy v)) := by intro _; rfl) : ST G X W x (mTru ma) := by
  refine ⟨pt_imp (pt_truth ha.pe he) fun σ H Q u => ?_⟩
  obtain ⟨r, h, e, s, en, p⟩ := u
  refine uG_weak (stepP s en p) ?_
  rintro v H1 ⟨r1, h1, a, g1, s1, en1, ra, p1⟩
  cases q : truD h1 a with
  | none => simp only [q] at p1; exact p1.elim
  | some b =>
    simp only [q] at p1
    exact ⟨b, by rw [hK]; exact tru_is s1 ra q, p1 b H1 r1 Gr.refl s1 rfl⟩
theorem st_cmp {op : CmpOp} {rr : R2} {p : D → D → Hm → Re D} (ho : OpR X (compareOp op) rr) (hp : Prim2 G rr p) (ha : SE G X W x ma) (hb : SE G X W y mb) (hm : behindInMarks op y = false) : ST G X W (.Compare x [op] [y] pos) (mTb (mBin p ma mb)) := by
  refine ⟨pt_imp (pt_cmpR ho ha.pe hb.pe hm) fun σ H Q u => ?_⟩
  have z : uE G W (mBin p ma mb) σ H (fun x H' => ∃ k, x = .bl k ∧ Q k H') := by
    obtain ⟨r, h, e, s, en, p0⟩ := u
    refine uG_weak (stepP s en p0) ?_
    rintro v H1 ⟨r1, h1, a, g1, s1, en1, ra, p1⟩
    cases ra with
    | bl b => exact ⟨b, rfl, p1 b H1 r1 Gr.refl s1 rfl⟩
    | _ => exact p1.elim
  exact tOp_of hp z
def mNotT (a : MT) : MT := fun e h => (a e h).bind fun b h1 => .ok (!b) h1
def mAndT (a b : MT) : MT := fun e h => (a e h).bind fun c h1 => if c = true then b e h1 else .ok false h1
def mOrT (a b : MT) : MT := fun e h => (a e h).bind fun c h1 => if c = true then .ok true h1 else b e h1
theorem st_not (ha : ST G X W x mt) : ST G X W (.UnaryOp .Not x pos) (mNotT mt) := by
  refine ⟨pt_imp (pt_not ha.pt) fun σ H Q u => ?_⟩
  obtain ⟨r, h, e, s, en, p⟩ := u
  refine uG_weak (stepP s en p) ?_
  rintro v H1 ⟨r1, h1, a, g1, s1, en1, ra, p1⟩
  have ra : a = v := ra
  subst ra
  exact p1 (!a) H1 r1 Gr.refl s1 rfl
structure SW (G : Gx) (X : Cx) (W : WX) (x : Expr) (m : MT) : Prop where
  pw : PW X x (uT G W m)
theorem SW.st (h : SW G X W x mt) : ST G X W x mt := ⟨h.pw.pt⟩
theorem pw_imp {X : Cx} {x : Expr} {t t' : TT} (h : PW X x t) (w : ∀ σ H Q, t' σ H Q → t σ H Q) : PW X x t' := ⟨fun wh pins s σ H Q I q => h.run wh pins s σ H Q I (w σ H Q q)⟩
theorem sw_and1 (ha : ST G X W x mt) : SW G X W (.BoolOp .And [x] pos) mt := ⟨pw_and1 ha.pt⟩
theorem sw_or1 (ha : ST G X W x mt) : SW G X W (.BoolOp .Or [x] pos) mt := ⟨pw_or1 ha.pt⟩
theorem sw_and (ha : ST G X W x mt) (hb : SW G X W (.BoolOp .And (y :: xs) pos) mu) : SW G X W (.BoolOp .And (x :: y :: xs) pos) (mAndT mt mu) := by
  refine ⟨pw_imp (pw_and ha.pt hb.pw) fun σ H Q u => ?_⟩
  obtain ⟨r, h, e, s, en, p⟩ := u
  refine uG_weak (stepP s en p) ?_
  rintro v H1 ⟨r1, h1, a, g1, s1, en1, ra, p1⟩
  have ra : a = v := ra
  subst ra
  cases a with
  | true => exact lastP s1 en1 p1
  | false => exact p1 false H1 r1 Gr.refl s1 rfl
theorem sw_or (ha : ST G X W x mt) (hb : SW G X W (.BoolOp .Or (y :: xs) pos) mu) : SW G X W (.BoolOp .Or (x :: y :: xs) pos) (mOrT mt mu) := by
  refine ⟨pw_imp (pw_or ha.pt hb.pw) fun σ H Q u => ?_⟩
  obtain ⟨r, h, e, s, en, p⟩ := u
  refine uG_weak (stepP s en p) ?_
  rintro v H1 ⟨r1, h1, a, g1, s1, en1, ra, p1⟩
  have ra : a = v := ra
  subst ra
  cases a with
  | false => exact lastP s1 en1 p1
  | true => exact p1 true H1 r1 Gr.refl s1 rfl
/-- as values -/
def mAndV (a b : ME) : ME := fun e h => (a e h).bind fun d h1 => match truD h1 d with
  | some true => b e h1
  | some false => .ok d h1
  | none => .no
def mOrV (a b : ME) : ME := fun e h => (a e h).bind fun d h1 => match truD h1 d with
  | some true => .ok d h1
  | some false => b e h1
  | none => .no
def mNotV (a : ME) : ME := fun e h => (a e h).bind fun d h1 => match truD h1 d with
  | some b => .ok (.bl (!b)) h1
  | none => .no
theorem se_one {op : BoolOp} (ha : SE G X W x ma) : SE G X W (.BoolOp op [x] pos) ma := ⟨pe_one ha.pe⟩
theorem se_and (hK : X.K = G.K) (ha : SE G X W x ma) (hb : SE G X W (.BoolOp .And (y :: xs) pos) mb) : SE G X W (.BoolOp .And (x :: y :: xs) pos) (mAndV ma mb) := by
  refine ⟨pe_imp (pe_andT ha.pe hb.pe) fun σ H Q u => ?_⟩
  obtain ⟨r, h, e, s, en, p⟩ := u
  refine uG_weak (stepP s en p) ?_
  rintro v H1 ⟨r1, h1, a, g1, s1, en1, ra, p1⟩
  cases q : truD h1 a with
  | none => simp only [q] at p1; exact p1.elim
  | some b =>
    refine ⟨b, by rw [hK]; exact tru_is s1 ra q, ?_⟩
    cases b with
    | true => simp only [q] at p1; exact lastP s1 en1 p1
    | false => simp only [q] at p1; exact p1 v H1 r1 Gr.refl s1 ra
theorem se_or (hK : X.K = G.K) (ha : SE G X W x ma) (hb : SE G X W (.BoolOp .Or (y :: xs) pos) mb) : SE G X W (.BoolOp .Or (x :: y :: xs) pos) (mOrV ma mb) := by
  refine ⟨pe_imp (pe_orT ha.pe hb.pe) fun σ H Q u => ?_⟩
  obtain ⟨r, h, e, s, en, p⟩ := u
  refine uG_weak (stepP s en p) ?_
  rintro v H1 ⟨r1, h1, a, g1, s1, en1, ra, p1⟩
  cases q : truD h1 a with
  | none => simp only [q] at p1; exact p1.elim
  | some b =>
    refine ⟨b, by rw [hK]; exact tru_is s1 ra q, ?_⟩
    cases b with
    | false => simp only [q] at p1; exact lastP s1 en1 p1
    | true => simp only [q] at p1; exact p1 v H1 r1 Gr.refl s1 ra
theorem se_not (hK : X.K = G.K) (ha : SE G X W x ma) : SE G X W (.UnaryOp .Not x pos) (mNotV ma) := by
  refine ⟨pe_imp (pe_notT ha.pe) fun σ H Q u => ?_⟩
  obtain ⟨r, h, e, s, en, p⟩ := u
  refine uG_weak (stepP s en p) ?_
  rintro v H1 ⟨r1, h1, a, g1, s1, en1, ra, p1⟩
  cases q : truD h1 a with
  | none => simp only [q] at p1; exact p1.elim
  | some b =>
    simp only [q] at p1
    exact ⟨b, by rw [hK]; exact tru_is s1 ra q, p1 (.bl (!b)) H1 r1 Gr.refl s1 (.bl _)⟩
def mIf (t : MT) (a b : ME) : ME := fun e h => (t e h).bind fun c h1 => if c = true then a e h1 else b e h1
theorem se_if (ht : ST G X W z mt) (ha : SE G X W x ma) (hb : SE G X W y mb) : SE G X W (.IfExp z x y pos) (mIf mt ma mb) := by
  refine ⟨pe_imp (pe_ifExp ht.pt ha.pe hb.pe) fun σ H Q u => ?_⟩
  obtain ⟨r, h, e, s, en, p⟩ := u
  refine uG_weak (stepP s en p) ?_
  rintro v H1 ⟨r1, h1, a, g1, s1, en1, ra, p1⟩
  have ra : a = v := ra
  subst ra
  cases a with
  | true => exact lastP s1 en1 p1
  | false => exact lastP s1 en1 p1
end
end L2.Lv
end
section
set_option maxRecDepth 100000
set_option maxHeartbeats 4000000
set_option autoImplicit false
namespace L2.Lv
open PySem PySem.Spec PyProof.Rows

/-! ### == of data -/
def okD : Nat → Hm → D → Bool
  | 0, _, _ => false
  | n + 1, h, d => match d with
    | .non => true
    | .bl _ => true
    | .int _ => true
    | .str s => s.all fun c => decide (c < 1114112)
    | .tup xs => xs.all (okD n h)
    | .ref i => match h[i]? with
      | some (.lst xs) => xs.all (okD n h)
      | some (.frz xs) => xs.all (okD n h)
      | _ => false
def eqL (f : D → D → Bool) : List D → List D → Bool
  | [], [] => true
  | x :: xs, y :: ys => f x y && eqL f xs ys
  | [], _ :: _ => false
  | _ :: _, [] => false
/-- the items of a list at hand -/
def itemsOf (h : Hm) (i : Nat) : Option (List D) := match h[i]? with
  | some (.lst xs) => some xs
  | some (.frz xs) => some xs
  | _ => none
def eqB : Nat → Hm → D → D → Bool
  | 0, _, _, _ => false
  | n + 1, h, a, b => match a, b with
    | .non, .non => true
    | .bl x, .bl y => x == y
    | .bl x, .int j => (if x then 1 else 0) == j
    | .int i, .bl y => i == (if y then 1 else 0)
    | .int i, .int j => i == j
    | .str s, .str t => decide (s = t)
    | .tup xs, .tup ys => eqL (eqB n h) xs ys
    | .ref i, .ref j => match itemsOf h i, itemsOf h j with
      | some xs, some ys => eqL (eqB n h) xs ys
      | _, _ => false
    | _, _ => false
def toP : Nat → Hm → D → PyData
  | 0, _, _ => .none
  | n + 1, h, d => match d with
    | .non => .none
    | .bl b => .bool b
    | .int i => .int i
    | .str s => .str ⟨s.toArray⟩
    | .tup xs => .tuple (xs.map (toP n h))
    | .ref i => match itemsOf h i with
      | some xs => .list (xs.map (toP n h))
      | none => .none
section
variable {G : Gx} {r : List Addr} {H : Hp} {h : Hm}
theorem okD_ref {n i : Nat} (e : okD (n + 1) h (.ref i) = true) : ∃ xs, itemsOf h i = some xs ∧ xs.all (okD n h) = true := by
  unfold okD at e
  unfold itemsOf
  cases q : h[i]? with
  | none => simp only [q] at e; cases e
  | some ob =>
    cases ob with
    | lst xs => simp only [q] at e; exact ⟨xs, rfl, e⟩
    | frz xs => simp only [q] at e; exact ⟨xs, rfl, e⟩
    | ins c fs => simp only [q] at e; cases e
    | dk kvs => simp only [q] at e; cases e
theorem items_seq {i : Nat} {a : Addr} {xs : List D} (s : Sim G r H h) (e : r[i]? = some a) (q : itemsOf h i = some xs) : ∃ vs, SqL G.K H a vs ∧ Reps G r H xs vs := by
  obtain ⟨ob, e1, o⟩ := s.get e
  unfold itemsOf at q
  rw [e1] at q
  cases ob with
  | lst ys =>
    cases q
    obtain ⟨vs, h1, h2⟩ := o
    exact ⟨vs, SqL.of h1, h2⟩
  | frz ys =>
    cases q
    obtain ⟨p, vs, h1, h2⟩ := o
    exact ⟨vs, .inl (.inr ⟨p, h1⟩), h2⟩
  | ins c fs => cases q
  | dk kvs => cases q
theorem dpAll_of {n : Nat} (ih : ∀ d v, okD n h d = true → Rep G r H d v → Dp G.K H v (toP n h d)) : ∀ {ds : List D} {vs : List V}, ds.all (okD n h) = true → Reps G r H ds vs → DpAll G.K H vs (ds.map (toP n h))
  | _, _, _, .nil => .nil
  | _, _, e, .cons a b => by
    rw [List.all_cons, Bool.and_eq_true] at e
    exact .cons (ih _ _ e.1 a) (dpAll_of ih e.2 b)
theorem dp_of (s : Sim G r H h) : ∀ (n : Nat) (d : D) (v : V), okD n h d = true → Rep G r H d v → Dp G.K H v (toP n h d)
  | 0, _, _, e, _ => by cases e
  | n + 1, d, v, e, q => by
    cases q with
    | non => exact .non
    | bl b => exact .bl b
    | int i => exact .int i
    | str t => exact .str _
    | tup h1 h2 => exact .tup h1 (dpAll_of (dp_of s n) e h2)
    | ref hn =>
      obtain ⟨xs, e1, e2⟩ := okD_ref e
      obtain ⟨vs, q1, q2⟩ := items_seq s hn e1
      unfold toP
      simp only [e1]
      exact .lst q1 (dpAll_of (dp_of s n) e2 q2)
theorem lay_all {n : Nat} (ih : ∀ d, okD n h d = true → (toP n h d).canLay0 = true) : ∀ {ds : List D}, ds.all (okD n h) = true → PyData.canLayAll0 (ds.map (toP n h)) = true
  | [], _ => by simp [PyData.canLayAll0]
  | d :: ds, e => by
    rw [List.all_cons, Bool.and_eq_true] at e
    simp only [List.map_cons, PyData.canLayAll0, Bool.and_eq_true]
    exact ⟨ih d e.1, lay_all ih e.2⟩
theorem lay_of : ∀ (n : Nat) (d : D), okD n h d = true → (toP n h d).canLay0 = true
  | 0, _, e => by cases e
  | n + 1, d, e => by
    cases d with
    | non => simp [toP, PyData.canLay0]
    | bl b => simp [toP, PyData.canLay0]
    | int i => simp [toP, PyData.canLay0]
    | str t =>
      simp only [toP, PyData.canLay0]
      have e : (t.all fun c => decide (c < 1114112)) = true := e
      show (Array.all _ _) = true
      simpa using e
    | tup xs => simp only [toP, PyData.canLay0]; exact lay_all (lay_of n) e
    | ref i =>
      obtain ⟨xs, e1, e2⟩ := okD_ref e
      simp only [toP, e1, PyData.canLay0]
      exact lay_all (lay_of n) e2
theorem depth_all {n : Nat} (ih : ∀ d, (toP n h d).depth ≤ n) : ∀ ds : List D, PyData.depthAll (ds.map (toP n h)) ≤ n
  | [] => by simp [PyData.depthAll]
  | d :: ds => by
    simp only [List.map_cons, PyData.depthAll]
    exact Nat.max_le.mpr ⟨ih d, depth_all ih ds⟩
theorem depth_of : ∀ (n : Nat) (d : D), (toP n h d).depth ≤ n
  | 0, d => by simp [toP, PyData.depth]
  | n + 1, d => by
    cases d with
    | tup xs => simp only [toP, PyData.depth]; exact Nat.succ_le_succ (depth_all (depth_of n) xs)
    | ref i =>
      simp only [toP]
      cases itemsOf h i with
      | none => simp [PyData.depth]
      | some xs => simp only [PyData.depth]; exact Nat.succ_le_succ (depth_all (depth_of n) xs)
    | _ => simp [toP, PyData.depth]
theorem eqvAll_of {n : Nat} (ih : ∀ a b, okD n h a = true → okD n h b = true → PyData.eqv (toP n h a) (toP n h b) = eqB n h a b) : ∀ {xs ys : List D}, xs.all (okD n h) = true → ys.all (okD n h) = true →
    PyData.eqvAll (xs.map (toP n h)) (ys.map (toP n h)) = eqL (eqB n h) xs ys
  | [], [], _, _ => by simp [PyData.eqvAll, eqL]
  | [], _ :: _, _, _ => by simp [PyData.eqvAll, eqL]
  | _ :: _, [], _, _ => by simp [PyData.eqvAll, eqL]
  | x :: xs, y :: ys, e1, e2 => by
    rw [List.all_cons, Bool.and_eq_true] at e1 e2
    simp only [List.map_cons, PyData.eqvAll, eqL]
    rw [ih x y e1.1 e2.1, eqvAll_of ih e1.2 e2.2]
theorem str_eqv (s t : List Nat) : ((⟨s.toArray⟩ : Str) == ⟨t.toArray⟩) = decide (s = t) := by
  by_cases e : s = t
  · subst e; simp
  · rw [decide_eq_false e]
    rw [beq_eq_false_iff_ne]
    intro z
    apply e
    have := congrArg (fun x : Str => x.cps.toList) z
    simpa using this
theorem eqv_of : ∀ (n : Nat) (a b : D), okD n h a = true → okD n h b = true → PyData.eqv (toP n h a) (toP n h b) = eqB n h a b
  | 0, _, _, e, _ => by cases e
  | n + 1, a, b, e1, e2 => by
    cases a with
    | ref i =>
      obtain ⟨xs, p1, p2⟩ := okD_ref e1
      cases b with
      | ref j =>
        obtain ⟨ys, q1, q2⟩ := okD_ref e2
        simp only [toP, p1, q1, PyData.eqv, eqB]
        exact eqvAll_of (eqv_of n) p2 q2
      | _ => simp [toP, p1, PyData.eqv, eqB]
    | tup xs =>
      cases b with
      | ref j =>
        obtain ⟨ys, q1, q2⟩ := okD_ref e2
        simp [toP, q1, PyData.eqv, eqB]
      | tup ys =>
        simp only [toP, PyData.eqv, eqB]
        exact eqvAll_of (eqv_of n) e1 e2
      | _ => simp [toP, PyData.eqv, eqB]
    | str s =>
      cases b with
      | ref j =>
        obtain ⟨ys, q1, q2⟩ := okD_ref e2
        simp [toP, q1, PyData.eqv, eqB]
      | str t => simp only [toP, PyData.eqv, eqB]; exact str_eqv s t
      | _ => simp [toP, PyData.eqv, eqB]
    | _ =>
      cases b with
      | ref j =>
        obtain ⟨ys, q1, q2⟩ := okD_ref e2
        simp [toP, q1, PyData.eqv, eqB]
      | _ => simp [toP, PyData.eqv, eqB]
end
def deep : Nat := 110
def pEq (a b : D) (h : Hm) : Re D := if okD deep h a && okD deep h b then .ok (.bl (eqB deep h a b)) h else .no
def pNe (a b : D) (h : Hm) : Re D := if okD deep h a && okD deep h b then .ok (.bl (!eqB deep h a b)) h else .no
/-- == by data at any depth -/
def rEqP (K : PySem.W.Frag) : R2 := fun x y H Q => ∃ d e, Dp K H x d ∧ Dp K H y e ∧ d.canLay0 = true ∧ e.canLay0 = true ∧ d.depth ≤ deep ∧ Q (.bl (PyData.eqv d e)) H
def rNeP (K : PySem.W.Frag) : R2 := fun x y H Q => ∃ d e, Dp K H x d ∧ Dp K H y e ∧ d.canLay0 = true ∧ e.canLay0 = true ∧ d.depth ≤ deep ∧ Q (.bl (!PyData.eqv d e)) H
section
variable {X : Cx} {G : Gx}
theorem op_eqP (hu : X.A.units + 200 < cLine) : OpR X (compareOp .Eq) (rEqP X.K) := by
  intro pins s σ H x y v u Q I rx ry h
  obtain ⟨d, e, hd, he, sd, se, dd, q⟩ := h
  obtain ⟨as, r1⟩ := Dp.reads I d x v hd rx
  obtain ⟨bs, r2⟩ := Dp.reads I e y u he ry
  have hm : min d.depth e.depth ≤ d.depth := Nat.min_le_left _ _
  exact SeqAt.compareEq_reads r1 r2 sd se (by unfold deep at dd; omega) ⟨.bl _, H, I, rfl, q⟩
theorem op_neP (hu : X.A.units + 200 < cLine) : OpR X (compareOp .NotEq) (rNeP X.K) := by
  intro pins s σ H x y v u Q I rx ry h
  obtain ⟨d, e, hd, he, sd, se, dd, q⟩ := h
  obtain ⟨as, r1⟩ := Dp.reads I d x v hd rx
  obtain ⟨bs, r2⟩ := Dp.reads I e y u he ry
  have hm : min d.depth e.depth ≤ d.depth := Nat.min_le_left _ _
  exact SeqAt.compareNe_reads r1 r2 sd se (by unfold deep at dd; omega) ⟨.bl _, H, I, rfl, q⟩
theorem prim_eq : Prim2 G (rEqP G.K) pEq := by
  intro W r H h a b x y Q s ra rb p
  unfold pEq at p
  split at p
  · rename_i c
    rw [Bool.and_eq_true] at c
    exact ⟨_, _, dp_of s deep a x c.1 ra, dp_of s deep b y c.2 rb, lay_of deep a c.1, lay_of deep b c.2, depth_of deep a, by rw [eqv_of deep a b c.1 c.2]; exact p (.bl _) H r Gr.refl s (.bl _)⟩
  · exact p.elim
theorem prim_ne : Prim2 G (rNeP G.K) pNe := by
  intro W r H h a b x y Q s ra rb p
  unfold pNe at p
  split at p
  · rename_i c
    rw [Bool.and_eq_true] at c
    exact ⟨_, _, dp_of s deep a x c.1 ra, dp_of s deep b y c.2 rb, lay_of deep a c.1, lay_of deep b c.2, depth_of deep a, by rw [eqv_of deep a b c.1 c.2]; exact p (.bl _) H r Gr.refl s (.bl _)⟩
  · exact p.elim

/-! ### in -/
def inB (h : Hm) (a : D) (xs : List D) : Bool := xs.any fun z => eqB 60 h z a
def pIn (neg : Bool) (a b : D) (h : Hm) : Re D := match b with
  | .ref i => match itemsOf h i with
    | some xs => if okD 60 h a && xs.all (okD 60 h) then .ok (.bl (if neg then !inB h a xs else inB h a xs)) h else .no
    | none => .no
  | _ => .no
theorem any_eqv {h : Hm} {a : D} (ha : okD 60 h a = true) : ∀ {xs : List D}, xs.all (okD 60 h) = true → ((xs.map (toP 60 h)).any fun z => PyData.eqv z (toP 60 h a)) = inB h a xs
  | [], _ => rfl
  | x :: xs, e => by
    rw [List.all_cons, Bool.and_eq_true] at e
    have ih := any_eqv ha e.2
    unfold inB at ih ⊢
    rw [List.map_cons, List.any_cons, List.any_cons, eqv_of 60 x a e.1 ha, ih]
theorem shaped_of {h : Hm} {a : D} (ha : okD 60 h a = true) : SeqAt.shaped (toP 60 h a) = true := by
  unfold SeqAt.shaped
  rw [Bool.and_eq_true]
  exact ⟨lay_of 60 a ha, decide_eq_true (Nat.le_trans (depth_of 60 a) (by decide))⟩
theorem shaped_l {h : Hm} {xs : List D} (ha : xs.all (okD 60 h) = true) : SeqAt.shaped (.list (xs.map (toP 60 h))) = true := by
  unfold SeqAt.shaped
  rw [Bool.and_eq_true]
  refine ⟨by simp only [PyData.canLay0]; exact lay_all (lay_of 60) ha, decide_eq_true ?_⟩
  simp only [PyData.depth]
  exact Nat.le_trans (Nat.succ_le_succ (depth_all (depth_of 60) xs)) (by decide)
theorem prim_in : Prim2 G (rInD G.K) (pIn false) := by
  intro W r H h a b x y Q s ra rb p
  cases rb with
  | ref hn =>
    unfold pIn at p
    simp only at p
    split at p
    · rename_i xs e
      split at p
      · rename_i c
        rw [Bool.and_eq_true] at c
        obtain ⟨vs, q1, q2⟩ := items_seq s hn e
        exact ⟨_, _, dp_of s 60 a x c.1 ra, .lst q1 (dpAll_of (dp_of s 60) c.2 q2), shaped_of c.1, shaped_l c.2, by rw [any_eqv c.1 c.2]; exact p (.bl _) H r Gr.refl s (.bl _)⟩
      · exact p.elim
    · exact p.elim
  | _ => exact p.elim
theorem prim_notIn : Prim2 G (rNotInD G.K) (pIn true) := by
  intro W r H h a b x y Q s ra rb p
  cases rb with
  | ref hn =>
    unfold pIn at p
    simp only at p
    split at p
    · rename_i xs e
      split at p
      · rename_i c
        rw [Bool.and_eq_true] at c
        obtain ⟨vs, q1, q2⟩ := items_seq s hn e
        exact ⟨_, _, dp_of s 60 a x c.1 ra, .lst q1 (dpAll_of (dp_of s 60) c.2 q2), shaped_of c.1, shaped_l c.2, by rw [any_eqv c.1 c.2]; exact p (.bl _) H r Gr.refl s (.bl _)⟩
      · exact p.elim
    · exact p.elim
  | _ => exact p.elim

/-! ### arithmetic -/
def pAdd (a b : D) (h : Hm) : Re D := match a, b with
  | .int i, .int j => .ok (.int (i + j)) h
  | .str s, .str t => if s.length + t.length ≤ big then .ok (.str (s ++ t)) h else .no
  | .tup xs, .tup ys => if xs.length + ys.length ≤ big then .ok (.tup (xs ++ ys)) h else .no
  | .ref i, .ref j => match h[i]?, h[j]? with
    | some (.lst xs), some (.lst ys) => if xs.length + ys.length ≤ big then .ok (.ref h.length) (h ++ [.lst (xs ++ ys)]) else .no
    | _, _ => .no
  | _, _ => .no
def rAddAll (K : PySem.W.Frag) : R2 := fun x y H Q => (rI0 fun i j => .int (i + j)) x y H Q ∨ (∃ i j, x = .str i ∧ y = .str j ∧ i.length + j.length ≤ sizeLine ∧ Q (.str (i ++ j)) H) ∨ rCatA K x y H Q ∨ rCat x y H Q
theorem op_addAll : OpR X (binaryOp .Add) (rAddAll X.K) := OpR.or op_add (OpR.or op_add_str (OpR.or op_catA op_cat))
theorem Reps.nil_iff {r : List Addr} {H : Hp} {xs : List D} {vs : List V} (q : Reps G r H xs vs) : xs = [] ↔ vs = [] := by
  cases q with
  | nil => simp
  | cons a b => simp
theorem prim_add : Prim2 G (rAddAll G.K) pAdd := by
  intro W r H h a b x y Q s ra rb p
  cases ra with
  | int i =>
    cases rb with
    | int j => exact .inl ⟨i, j, rfl, rfl, p (.int _) H r Gr.refl s (.int _)⟩
    | _ => exact p.elim
  | str t =>
    cases rb with
    | str u =>
      simp only [pAdd] at p
      split at p
      · rename_i c
        refine .inr (.inl ⟨_, _, rfl, rfl, by simpa [Str.length] using big_le c, ?_⟩)
        have e : (⟨t.toArray⟩ : Str) ++ ⟨u.toArray⟩ = ⟨(t ++ u).toArray⟩ := by
          show Str.mk (t.toArray ++ u.toArray) = _
          simp
        rw [e]
        exact p (.str _) H r Gr.refl s (.str _)
      · exact p.elim
    | _ => exact p.elim
  | tup h1 h2 =>
    cases rb with
    | tup g1 g2 =>
      rename_i ta va da tb vb db
      simp only [pAdd] at p
      split at p
      · rename_i c
        refine .inr (.inr (.inl ⟨_, _, _, _, rfl, rfl, h1, g1, by rw [← h2.length, ← g2.length]; exact big_le c, fun e => ?_, fun _ e => ?_, fun _ _ q hq => ?_⟩))
        · have e' := (Reps.nil_iff h2).mpr e
          subst e'
          exact p _ H r Gr.refl s (.tup g1 g2)
        · have e' := (Reps.nil_iff g2).mpr e
          subst e'
          rw [List.append_nil] at p
          exact p _ H r Gr.refl s (.tup h1 h2)
        · exact p _ _ r (gr_fresh hq) (s.fresh hq) (.tup (SqT.of upd_same) ((h2.append g2).mono (gr_fresh hq)))
      · exact p.elim
    | _ => exact p.elim
  | ref hn =>
    cases rb with
    | ref hm =>
      simp only [pAdd] at p
      obtain ⟨ob, e1, o1⟩ := s.get hn
      obtain ⟨ob2, e2, o2⟩ := s.get hm
      rw [e1, e2] at p
      cases ob with
      | lst xs =>
        cases ob2 with
        | lst ys =>
          simp only at p
          obtain ⟨vs, a1, a2⟩ := o1
          obtain ⟨ws, b1, b2⟩ := o2
          split at p
          · rename_i c
            refine .inr (.inr (.inr ⟨_, _, _, _, rfl, rfl, a1, b1, by rw [← a2.length, ← b2.length]; exact big_le c, fun q hq => ?_⟩))
            exact p (.ref q) _ _ (gr_new hq) (s.new hq ⟨_, upd_same, (a2.append b2).mono (gr_new hq)⟩) (.ref (new_at s q))
          · exact p.elim
        | _ => exact p.elim
      | _ => exact p.elim
    | _ => exact p.elim
  | _ => exact p.elim
def pInt (c : Int → Int → Bool) (f : Int → Int → Int) (a b : D) (h : Hm) : Re D := match a, b with
  | .int i, .int j => if c i j = true then .ok (.int (f i j)) h else .no
  | _, _ => .no
theorem prim_int {C : Int → Int → Prop} {c : Int → Int → Bool} {f : Int → Int → Int} (hc : ∀ i j, c i j = true → C i j) : Prim2 G (rI C fun i j => .int (f i j)) (pInt c f) := by
  intro W r H h a b x y Q s ra rb p
  cases ra with
  | int i =>
    cases rb with
    | int j =>
      simp only [pInt] at p
      split at p
      · rename_i q
        exact ⟨i, j, rfl, rfl, hc i j q, p (.int _) H r Gr.refl s (.int _)⟩
      · exact p.elim
    | _ => exact p.elim
  | _ => exact p.elim
def pSub : D → D → Hm → Re D := pInt (fun _ _ => true) fun i j => i - j
theorem op_sub' : OpR X (binaryOp .Sub) (rI (fun _ _ => True) fun i j => .int (i - j)) := fun pins s σ H x y v u Q I rx ry ⟨i, j, e1, e2, _, q⟩ => op_sub pins s σ H x y v u Q I rx ry ⟨i, j, e1, e2, q⟩
theorem prim_sub : Prim2 G (rI (fun _ _ => True) fun i j => .int (i - j)) pSub := prim_int fun _ _ _ => trivial
def cMul (i j : Int) : Bool := decide (-(2 ^ 64) < i ∧ i < 2 ^ 64) || decide (-(2 ^ 64) < j ∧ j < 2 ^ 64)
def pMulI : D → D → Hm → Re D := pInt cMul fun i j => i * j
theorem prim_mulI : Prim2 G (rI CMul fun i j => .int (i * j)) pMulI := prim_int fun i j e => by
  unfold cMul at e
  rw [Bool.or_eq_true] at e
  exact e.imp of_decide_eq_true of_decide_eq_true
/-- xs * n too -/
def repD : Nat → List D → List D
  | 0, _ => []
  | n + 1, xs => xs ++ repD n xs
def pMul (a b : D) (h : Hm) : Re D := match a, b with
  | .ref i, .int k => match h[i]? with
    | some (.lst xs) => if decide (0 ≤ k ∧ k ≤ 100000) && decide (xs.length * k.toNat ≤ big) then .ok (.ref h.length) (h ++ [.lst (repD k.toNat xs)]) else .no
    | _ => .no
  | a, b => pMulI a b h
def rMulAll : R2 := fun x y H Q => rI CMul (fun i j => .int (i * j)) x y H Q ∨ rRep x y H Q
theorem op_mulAll : OpR X (binaryOp .Mult) rMulAll := OpR.or op_mul op_rep
theorem flat_rep {α : Type} (xs : List α) : ∀ n : Nat, (List.replicate n xs).flatten = (List.range n).foldr (fun _ l => xs ++ l) [] := fun n => by
  induction n with
  | zero => rfl
  | succ n ih =>
    rw [List.replicate_succ, List.flatten_cons, ih, List.range_succ_eq_map, List.foldr_cons, List.foldr_map]
def cFd (_ j : Int) : Bool := decide (0 < j) && decide (j.natAbs.log2 < 9000)
def pFd : D → D → Hm → Re D := pInt cFd fun i j => i / j
theorem prim_fd : Prim2 G (rI CDivW fun i j => .int (i / j)) pFd := prim_int fun i j e => by
  unfold cFd at e
  rw [Bool.and_eq_true] at e
  exact ⟨of_decide_eq_true e.1, of_decide_eq_true e.2⟩
def pMd : D → D → Hm → Re D := pInt (fun _ j => decide (0 < j)) fun i j => i % j
theorem prim_md : Prim2 G (rI (fun _ j => 0 < j) fun i j => .int (i % j)) pMd := prim_int fun _ _ e => of_decide_eq_true e
def cPw (i j : Int) : Bool := decide (0 ≤ j) && decide (j ≤ 1000000) && decide (i.natAbs < 2 ^ 64)
def pPw : D → D → Hm → Re D := pInt cPw fun i j => i ^ j.toNat
theorem prim_pw : Prim2 G (rI CPow fun i j => .int (i ^ j.toNat)) pPw := prim_int fun i j e => by
  unfold cPw at e
  rw [Bool.and_eq_true, Bool.and_eq_true] at e
  exact ⟨of_decide_eq_true e.1.1, of_decide_eq_true e.1.2, of_decide_eq_true e.2⟩
def pCmp (f : Int → Int → Bool) (a b : D) (h : Hm) : Re D := match a, b with
  | .int i, .int j => .ok (.bl (f i j)) h
  | _, _ => .no
theorem prim_cmp {f : Int → Int → Bool} : Prim2 G (rI0 fun i j => .bl (f i j)) (pCmp f) := by
  intro W r H h a b x y Q s ra rb p
  cases ra with
  | int i =>
    cases rb with
    | int j => exact ⟨i, j, rfl, rfl, p (.bl _) H r Gr.refl s (.bl _)⟩
    | _ => exact p.elim
  | _ => exact p.elim
abbrev pLt := pCmp fun i j => decide (i < j)
abbrev pLe := pCmp fun i j => decide (i ≤ j)
abbrev pGt := pCmp fun i j => decide (j < i)
abbrev pGe := pCmp fun i j => decide (j ≤ i)
/-! ### is None, is True, is False -/
def isNon : D → Bool
  | .non => true
  | _ => false
def pIs (neg : Bool) (a b : D) (h : Hm) : Re D := match b with
  | .non => .ok (.bl (if neg then !isNon a else isNon a)) h
  | .bl y => match a with
    | .bl x => .ok (.bl (if neg then !(x == y) else x == y)) h
    | _ => .no
  | _ => .no
def rIsAll (neg : Bool) : R2 := fun x y H Q => (y = .non ∧ Q (.bl (if neg then !decide (x = .non) else decide (x = .non))) H) ∨ (∃ a b, x = .bl a ∧ y = .bl b ∧ Q (.bl (if neg then !decide (a = b) else decide (a = b))) H)
theorem op_isAll : OpR X (compareOp .Is) (rIsAll false) := OpR.or op_isN op_is_bl
theorem op_isNotAll : OpR X (compareOp .IsNot) (rIsAll true) := OpR.or op_notN op_isnot_bl
theorem prim_is {neg : Bool} : Prim2 G (rIsAll neg) (pIs neg) := by
  intro W r H h a b x y Q s ra rb p
  cases rb with
  | non =>
    left
    refine ⟨rfl, ?_⟩
    have e : decide (x = V.non) = isNon a := by cases ra <;> simp [isNon]
    rw [e]
    exact p (.bl _) H r Gr.refl s (.bl _)
  | bl y =>
    right
    cases ra with
    | bl x =>
      refine ⟨x, y, rfl, rfl, ?_⟩
      have e : decide (x = y) = (x == y) := by cases x <;> cases y <;> rfl
      rw [e]
      exact p (.bl _) H r Gr.refl s (.bl _)
    | _ => exact p.elim
  | _ => exact p.elim
end
end L2.Lv
end
section
set_option maxRecDepth 100000
set_option maxHeartbeats 4000000
set_option autoImplicit false
namespace L2.Lv
open PySem PySem.Spec PyProof.Rows

/-! ### an index -/
def atD {α : Type} (xs : List α) (i : Int) : Option α := if 0 ≤ i then xs[i.toNat]? else if -(xs.length : Int) ≤ i then xs[(i + xs.length).toNat]? else none
theorem atD_atI {α : Type} {xs : List α} {i : Int} {x : α} (h : atD xs i = some x) : atI xs i = some x := by
  unfold atD at h
  unfold atI ixN
  by_cases c : 0 ≤ i
  · rw [if_pos c] at h ⊢
    have l := (List.getElem?_eq_some_iff.mp h).1
    rw [if_pos (show i < (xs.length : Int) by omega)]
    exact h
  · rw [if_neg c] at h ⊢
    by_cases c2 : -(xs.length : Int) ≤ i
    · rw [if_pos c2] at h ⊢
      exact h
    · rw [if_neg c2] at h
      cases h
def pIdx (a b : D) (h : Hm) : Re D := match b with
  | .int i => match a with
    | .tup xs => match atD xs i with
      | some d => .ok d h
      | none => .no
    | .str s => if s.length ≤ big then match atD s i with
        | some c => .ok (.str [c]) h
        | none => .no
      else .no
    | .ref n => match itemsOf h n with
      | some xs => match atD xs i with
        | some d => .ok d h
        | none => .no
      | none => .no
    | _ => .no
  | _ => .no
section
variable {G : Gx} {X : Cx} {W : WX} {x y z : Expr} {xs : List Expr} {ma mb mc : ME} {mt mu : MT} {ms : MA} {pos : Pos} {r : List Addr} {H : Hp} {h : Hm}
theorem atD_rep {ds : List D} {vs : List V} {i : Int} {d : D} (q : Reps G r H ds vs) (e : atD ds i = some d) : ∃ v, atI vs i = some v ∧ Rep G r H d v := by
  have l := q.length
  unfold atD at e
  by_cases c : 0 ≤ i
  · rw [if_pos c] at e
    obtain ⟨v, h1, h2⟩ := q.get e
    exact ⟨v, atD_atI (by unfold atD; rw [if_pos c]; exact h1), h2⟩
  · rw [if_neg c] at e
    by_cases c2 : -(ds.length : Int) ≤ i
    · rw [if_pos c2] at e
      obtain ⟨v, h1, h2⟩ := q.get e
      exact ⟨v, atD_atI (by unfold atD; rw [if_neg c, if_pos (by rw [← l]; exact c2), ← l]; exact h1), h2⟩
    · rw [if_neg c2] at e
      cases e
theorem prim_idx : Prim2 G (rIx G.K) pIdx := by
  intro W r H h a b x y Q s ra rb p
  cases rb with
  | int i =>
    cases ra with
    | tup h1 h2 =>
      rename_i ta va da
      simp only [pIdx] at p
      split at p
      · rename_i d e
        obtain ⟨v, e1, e2⟩ := atD_rep h2 e
        exact .inr (.inl ⟨_, _, _, v, rfl, rfl, h1, e1, p v H r Gr.refl s e2⟩)
      · exact p.elim
    | str t =>
      simp only [pIdx] at p
      split at p
      · rename_i c
        split at p
        · rename_i d e
          refine .inr (.inr ⟨_, i, d, rfl, rfl, by simpa [Str.length] using big_le c, ?_, ?_⟩)
          · simpa using atD_atI e
          · exact p _ H r Gr.refl s (.str [d])
        · exact p.elim
      · exact p.elim
    | ref hn =>
      simp only [pIdx] at p
      split at p
      · rename_i xs e0
        split at p
        · rename_i d e
          obtain ⟨vs, q1, q2⟩ := items_seq s hn e0
          obtain ⟨v, e1, e2⟩ := atD_rep q2 e
          exact .inl ⟨_, _, _, v, rfl, rfl, q1, e1, p v H r Gr.refl s e2⟩
        · exact p.elim
      · exact p.elim
    | _ => exact p.elim
  | _ => exact p.elim
theorem se_ix {rr : R2} {p : D → D → Hm → Re D} (ho : IxR X rr) (hp : Prim2 G rr p) (ha : SE G X W x ma) (hb : SE G X W y mb) (hs : PlainIx y) : SE G X W (.Subscript x y pos) (mBin p ma mb) :=
  ⟨pe_imp (pe_ix ho ha.pe hb.pe hs) fun _ _ _ u => tOp_of hp u⟩

/-! ### calls of built-in functions -/
def mApp (p : List D → Hm → Re D) (a : MA) : ME := fun e h => (a e h).bind p
def PrimC (G : Gx) (rr : List V → Hp → VK → Prop) (p : List D → Hm → Re D) : Prop := ∀ (W : XK) (r : List Addr) (H : Hp) (h : Hm) (as : List D) (xs : List V) (Q : VK), Sim G r H h → Reps G r H as xs → Post G W (RD G) r H (p as h) Q → rr xs H Q
theorem tCB_of {rr : List V → Hp → VK → Prop} {p : List D → Hm → Re D} (hp : PrimC G rr p) {σ : L2.St} {H : Hp} {Q : VK} (u : uE G W (mApp p ms) σ H Q) : tCB rr (uA G W ms) σ H Q := by
  obtain ⟨r, h, e, s, en, q⟩ := u
  refine uG_weak (stepP s en q) ?_
  rintro v H1 ⟨r1, h1, a, g1, s1, en1, ra, p1⟩
  exact hp _ r1 H1 h1 a v Q s1 ra p1
section
variable {n : Str} {id T : String} {rr : List V → Hp → VK → Prop} {p : List D → Hm → Re D} {np : Pos}
theorem se_callB (hc : CallR X (.builtin id) rr) (hp : PrimC G rr p) (hm : X.mg n = none) (hv : bootBuiltins n = some (.builtin id)) (ha : SA G X W (x :: xs) ms) (hg : Gl X n := by rfl) (hn : n ≠ "__name__" := by decide) (hdb : (n == ("__debug__" : Str)) = false := by decide)
    (he : starEach (x :: xs) X.env = (false, eval x X.env) :: starEach xs X.env := by rfl) (hpl : (backTo pos (starEach xs X.env)).any (·.1) = false := by rfl) : SE G X W (.Call (.Name n np) (x :: xs) [] pos) (mApp p ms) :=
  ⟨pe_imp (pe_callB hc hg hm hv ha.pa hn hdb he hpl) fun _ _ _ u => tCB_of hp u⟩
theorem se_callTy (hc : CallR X (.type T) rr) (hp : PrimC G rr p) (hm : X.mg n = none) (hv : bootBuiltins n = some (.type T)) (ha : SA G X W (x :: xs) ms) (hg : Gl X n := by rfl) (hn : n ≠ "__name__" := by decide) (hdb : (n == ("__debug__" : Str)) = false := by decide)
    (he : starEach (x :: xs) X.env = (false, eval x X.env) :: starEach xs X.env := by rfl) (hpl : (backTo pos (starEach xs X.env)).any (·.1) = false := by rfl) : SE G X W (.Call (.Name n np) (x :: xs) [] pos) (mApp p ms) :=
  ⟨pe_imp (pe_callTy hc hg hm hv ha.pa hn hdb he hpl) fun _ _ _ u => tCB_of hp u⟩
end
def pLen (as : List D) (h : Hm) : Re D := match as with
  | [.tup xs] => .ok (.int xs.length) h
  | [.str s] => if s.length ≤ big then .ok (.int s.length) h else .no
  | [.ref n] => match itemsOf h n with
    | some xs => .ok (.int xs.length) h
    | none => .no
  | _ => .no
def rLenAll (K : PySem.W.Frag) : List V → Hp → VK → Prop := fun xs H Q => (∃ p ys, xs = [.ref p] ∧ (SqL K H p ys ∨ SqT K H p ys) ∧ Q (.int ys.length) H) ∨ ∃ z, xs = [.str z] ∧ z.length ≤ sizeLine ∧ Q (.int z.length) H
theorem call_lenAll : CallR X (.builtin "len") (rLenAll X.K) := CallR.or call_len_seq call_len_str
theorem primC_len : PrimC G (rLenAll G.K) pLen := by
  intro W r H h as xs Q s ra p
  cases ra with
  | nil => exact p.elim
  | cons q t =>
    cases t with
    | cons _ _ => unfold pLen at p; split at p <;> first | (rename_i e; cases e) | exact p.elim
    | nil =>
      cases q with
      | tup h1 h2 => exact .inl ⟨_, _, rfl, .inr h1, by rw [← h2.length]; exact p (.int _) H r Gr.refl s (.int _)⟩
      | str t =>
        simp only [pLen] at p
        split at p
        · rename_i c
          have e : (⟨t.toArray⟩ : Str).length = t.length := by simp [Str.length]
          exact .inr ⟨_, rfl, by rw [e]; exact big_le c, by rw [e]; exact p (.int _) H r Gr.refl s (.int _)⟩
        · exact p.elim
      | ref hn =>
        simp only [pLen] at p
        split at p
        · rename_i xs e
          obtain ⟨vs, q1, q2⟩ := items_seq s hn e
          exact .inl ⟨_, _, rfl, .inl q1, by rw [← q2.length]; exact p (.int _) H r Gr.refl s (.int _)⟩
        · exact p.elim
      | _ => exact p.elim
def seqOf (h : Hm) : D → Option (List D)
  | .tup xs => some xs
  | .ref n => itemsOf h n
  | _ => none
theorem seq_rep {d : D} {v : V} {xs : List D} (s : Sim G r H h) (q : Rep G r H d v) (e : seqOf h d = some xs) : ∃ p vs, v = .ref p ∧ (SqL G.K H p vs ∨ SqT G.K H p vs) ∧ Reps G r H xs vs := by
  cases q with
  | tup h1 h2 => cases e; exact ⟨_, _, rfl, .inr h1, h2⟩
  | ref hn =>
    obtain ⟨vs, q1, q2⟩ := items_seq s hn e
    exact ⟨_, vs, rfl, .inl q1, q2⟩
  | _ => cases e
def pList (as : List D) (h : Hm) : Re D := match as with
  | [d] => match seqOf h d with
    | some xs => newL xs h
    | none => .no
  | _ => .no
theorem primC_list : PrimC G (fun xs H Q => ∃ p ys, xs = [.ref p] ∧ (SqL G.K H p ys ∨ SqT G.K H p ys) ∧ ∀ l, H l = none → Q (.ref l) (upd H l (.lst ys))) pList := by
  intro W r H h as xs Q s ra p
  cases ra with
  | nil => exact p.elim
  | cons q t =>
    cases t with
    | cons _ _ => exact p.elim
    | nil =>
      simp only [pList] at p
      split at p
      · rename_i ds e
        obtain ⟨a, vs, rfl, e1, e2⟩ := seq_rep s q e
        exact ⟨a, vs, rfl, e1, (post_newL s e2 p).2⟩
      · exact p.elim
def pTuple (as : List D) (h : Hm) : Re D := match as with
  | [.tup xs] => .ok (.tup xs) h
  | [.ref n] => match itemsOf h n with
    | some xs => if xs.length ≤ big then .ok (.tup xs) h else .no
    | none => .no
  | _ => .no
theorem primC_tuple : PrimC G (fun xs H Q => ∃ p ys, xs = [.ref p] ∧ ((SqL G.K H p ys ∧ ∀ l, H l = none → Q (.ref l) (upd H l (.tup ys))) ∨ (SqT G.K H p ys ∧ Q (.ref p) H))) pTuple := by
  intro W r H h as xs Q s ra p
  cases ra with
  | nil => exact p.elim
  | cons q t =>
    cases t with
    | cons _ _ => unfold pTuple at p; split at p <;> first | (rename_i e; cases e) | exact p.elim
    | nil =>
      cases q with
      | tup h1 h2 => exact ⟨_, _, rfl, .inr ⟨h1, p _ H r Gr.refl s (.tup h1 h2)⟩⟩
      | ref hn =>
        simp only [pTuple] at p
        split at p
        · rename_i ds e
          obtain ⟨vs, q1, q2⟩ := items_seq s hn e
          exact ⟨_, _, rfl, .inl ⟨q1, (post_newT s q2 p).2⟩⟩
        · exact p.elim
      | _ => exact p.elim
/-- ints of a list -/
def intsD : List D → Option (List Int)
  | [] => some []
  | .int i :: r => match intsD r with
    | some l => some (i :: l)
    | none => none
  | _ :: _ => none
theorem ints_rep : ∀ {ds : List D} {vs : List V} {ns : List Int}, Reps G r H ds vs → intsD ds = some ns → vs = ns.map V.int
  | _, _, _, .nil, e => by cases e; rfl
  | _, _, ns, .cons (d := d) (ds := ds) a b, e => by
    cases a with
    | int i =>
      simp only [intsD] at e
      split at e
      · rename_i l el
        cases e
        rw [ints_rep b el]
        rfl
      · cases e
    | _ => cases e
def foldM (f : Int → Int → Int) : List Int → Option Int
  | [] => none
  | i :: r => some (r.foldl f i)
def pInt1 (as : List D) (h : Hm) : Re D := match as with
  | [.int i] => .ok (.int i) h
  | [.bl b] => .ok (.int (if b then 1 else 0)) h
  | _ => .no
theorem primC_int : PrimC G (fun xs H Q => (∃ i, xs = [.int i] ∧ Q (.int i) H) ∨ ∃ k, xs = [.bl k] ∧ Q (.int (if k then 1 else 0)) H) pInt1 := by
  intro W r H h as xs Q s ra p
  cases ra with
  | nil => exact p.elim
  | cons q t =>
    cases t with
    | cons _ _ => unfold pInt1 at p; split at p <;> first | (rename_i e; cases e) | exact p.elim
    | nil =>
      cases q with
      | int i => exact .inl ⟨i, rfl, p _ H r Gr.refl s (.int i)⟩
      | bl b => exact .inr ⟨b, rfl, p _ H r Gr.refl s (.int _)⟩
      | _ => exact p.elim
def pMM (f : Int → Int → Int) (as : List D) (h : Hm) : Re D := match as with
  | [.int i, .int j] => .ok (.int (f i j)) h
  | [.ref n] => match itemsOf h n with
    | some xs => match intsD xs with
      | some ns => match foldM f ns with
        | some m => .ok (.int m) h
        | none => .no
      | none => .no
    | none => .no
  | _ => .no
def maxI (i j : Int) : Int := if j > i then j else i
def minI (i j : Int) : Int := if j < i then j else i
theorem fold_max : ∀ (ns : List Int) (m : Int), (ns.foldl maxI m ∈ m :: ns ∧ ∀ y ∈ m :: ns, y ≤ ns.foldl maxI m)
  | [], m => by simp
  | n :: ns, m => by
    obtain ⟨h1, h2⟩ := fold_max ns (maxI m n)
    refine ⟨?_, fun y hy => ?_⟩
    · rw [List.foldl_cons]
      rcases List.mem_cons.mp h1 with e | e
      · rw [e]
        unfold maxI
        split
        · simp
        · simp
      · exact List.mem_cons_of_mem _ (List.mem_cons_of_mem _ e)
    · rw [List.foldl_cons]
      have hm : maxI m n ≤ ns.foldl maxI (maxI m n) := h2 _ List.mem_cons_self
      have a1 : m ≤ maxI m n := by unfold maxI; split <;> omega
      have a2 : n ≤ maxI m n := by unfold maxI; split <;> omega
      rcases List.mem_cons.mp hy with e | e
      · omega
      · rcases List.mem_cons.mp e with e | e
        · omega
        · exact h2 y (List.mem_cons_of_mem _ e)
theorem fold_min : ∀ (ns : List Int) (m : Int), (ns.foldl minI m ∈ m :: ns ∧ ∀ y ∈ m :: ns, ns.foldl minI m ≤ y)
  | [], m => by simp
  | n :: ns, m => by
    obtain ⟨h1, h2⟩ := fold_min ns (minI m n)
    refine ⟨?_, fun y hy => ?_⟩
    · rw [List.foldl_cons]
      rcases List.mem_cons.mp h1 with e | e
      · rw [e]
        unfold minI
        split
        · simp
        · simp
      · exact List.mem_cons_of_mem _ (List.mem_cons_of_mem _ e)
    · rw [List.foldl_cons]
      have hm : ns.foldl minI (minI m n) ≤ minI m n := h2 _ List.mem_cons_self
      have a1 : minI m n ≤ m := by unfold minI; split <;> omega
      have a2 : minI m n ≤ n := by unfold minI; split <;> omega
      rcases List.mem_cons.mp hy with e | e
      · omega
      · rcases List.mem_cons.mp e with e | e
        · omega
        · exact h2 y (List.mem_cons_of_mem _ e)
def rMaxAll (K : PySem.W.Frag) : List V → Hp → VK → Prop := fun xs H Q => (∃ i j, xs = [.int i, .int j] ∧ Q (.int (if j > i then j else i)) H) ∨ rMax K xs H Q
def rMinAll (K : PySem.W.Frag) : List V → Hp → VK → Prop := fun xs H Q => (∃ i j, xs = [.int i, .int j] ∧ Q (.int (if j < i then j else i)) H) ∨ rMin K xs H Q
theorem call_maxAll (hc : X.calm = true) : CallR X (.builtin "max") (rMaxAll X.K) := CallR.or (call_max2 hc) (cr_max hc)
theorem call_minAll (hc : X.calm = true) : CallR X (.builtin "min") (rMinAll X.K) := CallR.or (call_min2 hc) (cr_min hc)
theorem le_antisymm_of {m k : Int} {ns : List Int} (h1 : m ∈ ns) (h2 : ∀ y ∈ ns, y ≤ m) (g1 : k ∈ ns) (g2 : ∀ y ∈ ns, y ≤ k) : m = k := by
  have := h2 k g1
  have := g2 m h1
  omega
theorem ge_antisymm_of {m k : Int} {ns : List Int} (h1 : m ∈ ns) (h2 : ∀ y ∈ ns, m ≤ y) (g1 : k ∈ ns) (g2 : ∀ y ∈ ns, k ≤ y) : m = k := by
  have := h2 k g1
  have := g2 m h1
  omega
theorem primC_max : PrimC G (rMaxAll G.K) (pMM maxI) := by
  intro W r H h as xs Q s ra p
  unfold pMM at p
  split at p
  · rename_i i j
    cases ra with
    | cons q1 t1 =>
      cases t1 with
      | cons q2 t2 =>
        cases t2
        cases q1
        cases q2
        exact .inl ⟨i, j, rfl, p (.int _) H r Gr.refl s (.int _)⟩
  · rename_i n
    cases ra with
    | cons q1 t1 =>
      cases t1
      cases q1 with
      | ref hn =>
        split at p
        · rename_i xs e
          split at p
          · rename_i ns e2
            split at p
            · rename_i m e3
              obtain ⟨vs, q1, q2⟩ := items_seq s hn e
              have ev := ints_rep q2 e2
              subst ev
              cases ns with
              | nil => cases e3
              | cons k ns =>
                have e3 : ns.foldl maxI k = m := Option.some.inj e3
                obtain ⟨f1, f2⟩ := fold_max ns k
                refine .inr ⟨_, _, rfl, q1, Nat.succ_pos _, fun m' h1 h2 => ?_⟩
                rw [le_antisymm_of h1 h2 f1 f2, e3]
                exact p (.int _) H r Gr.refl s (.int _)
            · exact p.elim
          · exact p.elim
        · exact p.elim
  · exact p.elim
theorem primC_min : PrimC G (rMinAll G.K) (pMM minI) := by
  intro W r H h as xs Q s ra p
  unfold pMM at p
  split at p
  · rename_i i j
    cases ra with
    | cons q1 t1 =>
      cases t1 with
      | cons q2 t2 =>
        cases t2
        cases q1
        cases q2
        exact .inl ⟨i, j, rfl, p (.int _) H r Gr.refl s (.int _)⟩
  · rename_i n
    cases ra with
    | cons q1 t1 =>
      cases t1
      cases q1 with
      | ref hn =>
        split at p
        · rename_i xs e
          split at p
          · rename_i ns e2
            split at p
            · rename_i m e3
              obtain ⟨vs, q1, q2⟩ := items_seq s hn e
              have ev := ints_rep q2 e2
              subst ev
              cases ns with
              | nil => cases e3
              | cons k ns =>
                have e3 : ns.foldl minI k = m := Option.some.inj e3
                obtain ⟨f1, f2⟩ := fold_min ns k
                refine .inr ⟨_, _, rfl, q1, Nat.succ_pos _, fun m' h1 h2 => ?_⟩
                rw [ge_antisymm_of h1 h2 f1 f2, e3]
                exact p (.int _) H r Gr.refl s (.int _)
            · exact p.elim
          · exact p.elim
        · exact p.elim
  · exact p.elim
def blsD : List D → Option (List Bool)
  | [] => some []
  | .bl i :: r => match blsD r with
    | some l => some (i :: l)
    | none => none
  | _ :: _ => none
theorem bls_rep : ∀ {ds : List D} {vs : List V} {ns : List Bool}, Reps G r H ds vs → blsD ds = some ns → vs = ns.map V.bl
  | _, _, _, .nil, e => by cases e; rfl
  | _, _, ns, .cons (d := d) (ds := ds) a b, e => by
    cases a with
    | bl i =>
      simp only [blsD] at e
      split at e
      · rename_i l el
        cases e
        rw [bls_rep b el]
        rfl
      · cases e
    | _ => cases e
def pAA (f : List Bool → Bool) (as : List D) (h : Hm) : Re D := match as with
  | [.ref n] => match itemsOf h n with
    | some xs => match blsD xs with
      | some bs => .ok (.bl (f bs)) h
      | none => .no
    | none => .no
  | _ => .no
theorem primC_aa {f : List Bool → Bool} : PrimC G (fun vs H Q => ∃ (a : Addr) (bs : List Bool), vs = [V.ref a] ∧ SqL G.K H a (bs.map V.bl) ∧ Q (.bl (f bs)) H) (pAA f) := by
  intro W r H h as xs Q s ra p
  unfold pAA at p
  split at p
  · rename_i n
    cases ra with
    | cons q1 t1 =>
      cases t1
      cases q1 with
      | ref hn =>
        split at p
        · rename_i xs e
          split at p
          · rename_i ns e2
            obtain ⟨vs, q1, q2⟩ := items_seq s hn e
            have ev := bls_rep q2 e2
            subst ev
            exact ⟨_, ns, rfl, q1, p (.bl _) H r Gr.refl s (.bl _)⟩
          · exact p.elim
        · exact p.elim
  · exact p.elim

/-! ### methods of built-in kinds -/
def mMeth (p : D → List D → Hm → Re D) (o : ME) (a : MA) : ME := fun e h => (o e h).bind fun x h1 => (a e h1).bind fun xs h2 => p x xs h2
def PrimM (G : Gx) (T : String) (rr : V → List V → Hp → VK → Prop) (p : D → List D → Hm → Re D) : Prop :=
  ∀ (W : XK) (r : List Addr) (H : Hp) (h : Hm) (a : D) (as : List D) (x : V) (xs : List V) (Q : VK), Sim G r H h → Rep G r H a x → Reps G r H as xs → Post G W (RD G) r H (p a as h) Q → rr x xs H Q
def isLst (h : Hm) : D → Bool
  | .ref n => match itemsOf h n with
    | some _ => true
    | none => false
  | _ => false
def isStr : D → Bool
  | .str _ => true
  | _ => false
theorem lst_ty {d : D} {v : V} (s : Sim G r H h) (q : Rep G r H d v) (e : isLst h d = true) : tyV G.K "list" v H := by
  cases q with
  | ref hn =>
    simp only [isLst] at e
    split at e
    · rename_i xs e1
      obtain ⟨vs, q1, q2⟩ := items_seq s hn e1
      exact .inl ⟨rfl, vs, q1⟩
    · cases e
  | _ => cases e
/-- a list's method: the kind is looked at ahead of the arguments -/
def mMethL (p : D → List D → Hm → Re D) (o : ME) (a : MA) : ME := fun e h => (o e h).bind fun x h1 => if isLst h1 x = true then (a e h1).bind fun xs h2 => p x xs h2 else .no
theorem tBM_of (hK : X.K = G.K) {rr : V → List V → Hp → VK → Prop} {p : D → List D → Hm → Re D} (hp : PrimM G "list" rr p) {σ : L2.St} {H : Hp} {Q : VK} (u : uE G W (mMethL p ma ms) σ H Q) : tBM X.K "list" rr (uE G W ma) (uA G W ms) σ H Q := by
  obtain ⟨r, h, e, s, en, q⟩ := u
  refine uG_weak (stepP s en q) ?_
  rintro v H1 ⟨r1, h1, a, g1, s1, en1, ra, p1⟩
  split at p1
  · rename_i c
    refine ⟨by rw [hK]; exact lst_ty s1 ra c, ?_⟩
    refine uG_weak (stepP s1 en1 p1) ?_
    rintro vs H2 ⟨r2, h2, as, g2, s2, en2, rs, p2⟩
    exact hp _ r2 H2 h2 a as v vs Q s2 (ra.mono g2) rs p2
  · exact p1.elim
def pAppend (a : D) (as : List D) (h : Hm) : Re D := match a, as with
  | .ref n, [d] => match h[n]? with
    | some (.lst xs) => if xs.length < big then .ok .non (h.set n (.lst (xs ++ [d]))) else .no
    | _ => .no
  | _, _ => .no
theorem primM_append : PrimM G "list" rAppend pAppend := by
  intro W r H h a as x xs Q s ra rs p
  unfold pAppend at p
  split at p
  · rename_i n d
    cases rs with
    | cons q t =>
      cases t
      cases ra with
      | ref hn =>
        obtain ⟨ob, e1, o⟩ := s.get hn
        rw [e1] at p
        cases ob with
        | lst ys =>
          simp only at p
          split at p
          · rename_i c
            obtain ⟨vs, h1, h2⟩ := o
            refine ⟨_, vs, _, rfl, rfl, h1, by rw [← h2.length]; exact Nat.lt_of_lt_of_le c (big_le (Nat.le_refl _)), ?_⟩
            obtain ⟨s', g⟩ := s.put (ob := .lst (ys ++ [d])) (o := .lst (vs ++ [_])) hn fun g => ⟨_, upd_same, (h2.mono g).append (.cons (q.mono g) .nil)⟩
            exact p .non _ r g s' .non
          · exact p.elim
        | _ => exact p.elim
  · exact p.elim
def pExtend (a : D) (as : List D) (h : Hm) : Re D := match a, as with
  | .ref n, [.ref m] => match h[n]?, h[m]? with
    | some (.lst xs), some (.lst ys) => if xs.length + ys.length ≤ big then .ok .non (h.set n (.lst (xs ++ ys))) else .no
    | _, _ => .no
  | _, _ => .no
theorem primM_extend : PrimM G "list" rExtend pExtend := by
  intro W r H h a as x xs Q s ra rs p
  unfold pExtend at p
  split at p
  · rename_i n m
    cases rs with
    | cons q t =>
      cases t
      cases q with
      | ref hm =>
        cases ra with
        | ref hn =>
          obtain ⟨ob, e1, o⟩ := s.get hn
          obtain ⟨ob2, e2, o2⟩ := s.get hm
          rw [e1, e2] at p
          cases ob with
          | lst ys =>
            cases ob2 with
            | lst zs =>
              simp only at p
              split at p
              · rename_i c
                obtain ⟨vs, h1, h2⟩ := o
                obtain ⟨ws, k1, k2⟩ := o2
                refine ⟨_, _, vs, ws, rfl, rfl, h1, k1, by rw [← h2.length, ← k2.length]; exact big_le c, ?_⟩
                obtain ⟨s', g⟩ := s.put (ob := .lst (ys ++ zs)) (o := .lst (vs ++ ws)) hn fun g => ⟨_, upd_same, (h2.mono g).append (k2.mono g)⟩
                exact p .non _ r g s' .non
              · exact p.elim
            | _ => exact p.elim
          | _ => exact p.elim
  · exact p.elim
def pPop (a : D) (as : List D) (h : Hm) : Re D := match a, as with
  | .ref n, [] => match h[n]? with
    | some (.lst xs) => match xs[xs.length - 1]? with
      | some d => .ok d (h.set n (.lst xs.dropLast))
      | none => .no
    | _ => .no
  | _, _ => .no
theorem primM_pop : PrimM G "list" rPop pPop := by
  intro W r H h a as x xs Q s ra rs p
  unfold pPop at p
  split at p
  · rename_i n
    cases rs with
    | nil =>
      cases ra with
      | ref hn =>
        obtain ⟨ob, e1, o⟩ := s.get hn
        rw [e1] at p
        cases ob with
        | lst ys =>
          simp only at p
          split at p
          · rename_i d e
            obtain ⟨vs, h1, h2⟩ := o
            obtain ⟨v, e2, q⟩ := h2.get e
            refine ⟨_, vs, v, rfl, rfl, h1, by rw [← h2.length]; exact e2, ?_⟩
            obtain ⟨s', g⟩ := s.put (ob := .lst ys.dropLast) (o := .lst vs.dropLast) hn fun g => ⟨_, upd_same, (h2.mono g).dropLast⟩
            exact p v _ r g s' (q.mono g)
          · exact p.elim
        | _ => exact p.elim
  · exact p.elim
def mMethL0 (p : D → List D → Hm → Re D) (o : ME) : ME := fun e h => (o e h).bind fun x h1 => if isLst h1 x = true then p x [] h1 else .no
section
variable {name : Str} {id : String} {rr : V → List V → Hp → VK → Prop} {p : D → List D → Hm → Re D} {apos : Pos}
theorem se_methL (slot : Slot "list" name id) (hty : typeOf (.builtin id) = pure (.type "method_descriptor")) (hm : MtR X id rr) (hp : PrimM G "list" rr p) (hK : X.K = G.K) (ho : SE G X W z ma) (ha : SA G X W (x :: xs) ms)
    (hbase : attributeBase z name X.env (eval z X.env) = eval z X.env := by rfl)
    (hfew : ((backTo pos (starEach (x :: xs) X.env)).all (fun x => !x.1) && (backToKw pos (keywordEach [] X.env)).all (fun x => x.1.isSome)
      && decide ((x :: xs).length + ([] : List Keyword).length + (if ([] : List Keyword).isEmpty then 0 else 1) < 30)) = true := by rfl)
    (hline : (apos.endLine == pos.line) = true := by rfl) (hs : starEach (x :: xs) X.env = (false, eval x X.env) :: starEach xs X.env := by rfl) (hplain : (backTo pos (starEach xs X.env)).any (·.1) = false := by rfl) :
    SE G X W (.Call (.Attribute z name apos) (x :: xs) [] pos) (mMethL p ma ms) :=
  ⟨pe_imp (pe_bm PySem.F.plainAttrs_list slot hty hm ho.pe ha.pa hbase hfew hline hs hplain) fun _ _ _ u => tBM_of hK hp u⟩
theorem se_methL0 (slot : Slot "list" name id) (hty : typeOf (.builtin id) = pure (.type "method_descriptor")) (hm : MtR X id rr) (hp : PrimM G "list" rr p) (hK : X.K = G.K) (ho : SE G X W z ma)
    (hbase : attributeBase z name X.env (eval z X.env) = eval z X.env := by rfl) (hline : (apos.endLine == pos.line) = true := by rfl) :
    SE G X W (.Call (.Attribute z name apos) [] [] pos) (mMethL0 p ma) := by
  refine ⟨pe_imp (pe_bm0 PySem.F.plainAttrs_list slot hty hm ho.pe hbase hline) fun σ H Q u => ?_⟩
  obtain ⟨r, h, e, s, en, q⟩ := u
  refine uG_weak (stepP s en q) ?_
  rintro v H1 ⟨r1, h1, a, g1, s1, en1, ra, p1⟩
  split at p1
  · rename_i c
    exact ⟨by rw [hK]; exact lst_ty s1 ra c, hp _ r1 H1 h1 a [] v [] Q s1 ra .nil p1⟩
  · exact p1.elim
end
end
end L2.Lv
end
section
set_option maxRecDepth 100000
set_option maxHeartbeats 4000000
set_option autoImplicit false
namespace L2.Lv
open PySem PySem.Spec PyProof.Rows

/-! ### statements -/
def PostS (G : Gx) (W : WX) (Z : Ends) (r : List Addr) (H : Hp) (x : Rs) : Prop := match x with
  | .nx e' h' => ∀ σ' H' r', Gr G r H r' H' → Sim G r' H' h' → EnR G r' H' e' σ' → Z.nx σ' H'
  | .rt d h' => ∀ v H' r', Gr G r H r' H' → Sim G r' H' h' → Rep G r' H' d v → Z.rt v H'
  | .bk e' h' => ∀ σ' H' r', Gr G r H r' H' → Sim G r' H' h' → EnR G r' H' e' σ' → Z.bk σ' H'
  | .ct e' h' => ∀ σ' H' r', Gr G r H r' H' → Sim G r' H' h' → EnR G r' H' e' σ' → Z.ct σ' H'
  | .ex c d e' h' => ∀ v σ' H' r' dd, Gr G r H r' H' → Sim G r' H' h' → EnR G r' H' e' σ' → Rep G r' H' d v → H' dd = some (.xd [(G.xf c, v)]) → W (.ref (G.ga c)) (some dd) σ' H'
  | .no => False
theorem PostS.mono {G : Gx} {W : WX} {Z : Ends} {r r' : List Addr} {H H' : Hp} {x : Rs} (g : Gr G r H r' H') (p : PostS G W Z r H x) : PostS G W Z r' H' x := by
  cases x with
  | nx e h => exact fun σ H2 r2 g2 => p σ H2 r2 (g.trans g2)
  | rt d h => exact fun σ H2 r2 g2 => p σ H2 r2 (g.trans g2)
  | bk e h => exact fun σ H2 r2 g2 => p σ H2 r2 (g.trans g2)
  | ct e h => exact fun σ H2 r2 g2 => p σ H2 r2 (g.trans g2)
  | ex c d e h => exact fun v σ H2 r2 dd g2 => p v σ H2 r2 dd (g.trans g2)
  | no => exact p
def uS (G : Gx) (W : WX) (m : MS) : TS := fun Z σ H => ∃ r h e, Sim G r H h ∧ EnR G r H e σ ∧ PostS G W Z r H (m e h)
structure SS (G : Gx) (X : Cx) (W : WX) (x : Stmt) (m : MS) : Prop where
  ps : PS X x (uS G W m)
structure SSs (G : Gx) (X : Cx) (W : WX) (xs : List Stmt) (m : MS) : Prop where
  pss : PSs X xs (uS G W m)
def Re.bs {α : Type} (r : Re α) (e : En) (k : α → Hm → Rs) : Rs := match r with
  | .ok a h => k a h
  | .ex c v h => .ex c v e h
  | .no => .no
theorem ps_imp {X : Cx} {x : Stmt} {t t' : TS} (h : PS X x t) (w : ∀ Z σ H, t' Z σ H → t Z σ H) : PS X x t' := ⟨fun pins s σ H Z I q => h.run pins s σ H Z I (w Z σ H q)⟩
theorem pss_imp {X : Cx} {x : List Stmt} {t t' : TS} (h : PSs X x t) (w : ∀ Z σ H, t' Z σ H → t Z σ H) : PSs X x t' := ⟨fun pins s σ H Z I q => h.run pins s σ H Z I (w Z σ H q)⟩
section
variable {α β : Type} {G : Gx} {W : WX} {R : List Addr → Hp → α → β → Prop} {r : List Addr} {H : Hp} {σ : L2.St} {h : Hm} {e : En} {Z : Ends}
theorem stepS {m : En → Hm → Re α} {k : α → Hm → Rs} (s : Sim G r H h) (en : EnR G r H e σ) (p : PostS G W Z r H ((m e h).bs e k)) :
    uG G W R m σ H fun b H1 => ∃ (r1 : List Addr) (h1 : Hm) (a : α), Gr G r H r1 H1 ∧ Sim G r1 H1 h1 ∧ EnR G r1 H1 e σ ∧ R r1 H1 a b ∧ PostS G W Z r1 H1 (k a h1) := by
  refine ⟨r, h, e, s, en, ?_⟩
  cases q : m e h with
  | ok a h' =>
    rw [q] at p
    exact fun b H' r' g s' ra => ⟨r', h', a, g, s', en.mono g, ra, PostS.mono g p⟩
  | ex c d h' =>
    rw [q] at p
    exact fun v H' r' dd g s' ra hd => p v σ H' r' dd g s' (en.mono g) ra hd
  | no => rw [q] at p; exact p
end
def mSeq (a b : MS) : MS := fun e h => match a e h with
  | .nx e' h' => b e' h'
  | x => x
theorem seqP {G : Gx} {W : WX} {Z : Ends} {r : List Addr} {H : Hp} {h : Hm} {e : En} {σ : L2.St} {a b : MS} (s : Sim G r H h) (en : EnR G r H e σ) (p : PostS G W Z r H (mSeq a b e h)) : uS G W a { Z with nx := uS G W b Z } σ H := by
  refine ⟨r, h, e, s, en, ?_⟩
  unfold mSeq at p
  cases q : a e h with
  | nx e' h' =>
    simp only [q] at p
    exact fun σ' H' r' g s' en' => ⟨r', h', e', s', en', PostS.mono g p⟩
  | rt d h' => simp only [q] at p; exact p
  | bk e' h' => simp only [q] at p; exact p
  | ct e' h' => simp only [q] at p; exact p
  | ex c d e' h' => simp only [q] at p; exact p
  | no => simp only [q] at p; exact p
def mPass : MS := fun e h => .nx e h
section
variable {G : Gx} {X : Cx} {W : WX} {x y z : Expr} {xs : List Expr} {ma mb mc : ME} {mt mu : MT} {ms : MA} {pos : Pos} {st : Stmt} {sts : List Stmt} {a b : MS}
theorem sss_nil : SSs G X W [] mPass := by
  refine ⟨pss_imp pss_nil fun Z σ H u => ?_⟩
  obtain ⟨r, h, e, s, en, p⟩ := u
  exact p σ H r Gr.refl s en
theorem sss_cons (h1 : SS G X W st a) (h2 : SSs G X W sts b) : SSs G X W (st :: sts) (mSeq a b) := by
  refine ⟨pss_imp (pss_cons h1.ps h2.pss) fun Z σ H u => ?_⟩
  obtain ⟨r, h, e, s, en, p⟩ := u
  exact seqP s en p
theorem sss_one (h1 : SS G X W st a) : SSs G X W [st] a := ⟨pss_one h1.ps⟩
theorem ss_pass : SS G X W (.Pass pos) mPass := by
  refine ⟨ps_imp ps_pass fun Z σ H u => ?_⟩
  obtain ⟨r, h, e, s, en, p⟩ := u
  exact p σ H r Gr.refl s en
def mBreak : MS := fun e h => .bk e h
def mCont : MS := fun e h => .ct e h
theorem ss_break : SS G X W (.Break pos) mBreak := by
  refine ⟨ps_imp ps_break fun Z σ H u => ?_⟩
  obtain ⟨r, h, e, s, en, p⟩ := u
  exact p σ H r Gr.refl s en
theorem ss_cont : SS G X W (.Continue pos) mCont := by
  refine ⟨ps_imp ps_continue fun Z σ H u => ?_⟩
  obtain ⟨r, h, e, s, en, p⟩ := u
  exact p σ H r Gr.refl s en
def mDrop (a : ME) : MS := fun e h => (a e h).bs e fun _ h1 => .nx e h1
theorem ss_expr (ha : SE G X W x ma) (hs : swapsWith x none pos.line X.env = pure false := by rfl) : SS G X W (.Expr x pos) (mDrop ma) := by
  refine ⟨ps_imp (ps_expr ha.pe hs) fun Z σ H u => ?_⟩
  obtain ⟨r, h, e, s, en, p⟩ := u
  refine uG_weak (stepS s en p) ?_
  rintro v H1 ⟨r1, h1, a, g1, s1, en1, ra, p1⟩
  exact p1 σ H1 r1 Gr.refl s1 en1
def mRet (a : ME) : MS := fun e h => (a e h).bs e fun d h1 => .rt d h1
theorem ss_ret (ha : SE G X W x ma) : SS G X W (.Return (some x) pos) (mRet ma) := by
  refine ⟨ps_imp (ps_ret ha.pe) fun Z σ H u => ?_⟩
  obtain ⟨r, h, e, s, en, p⟩ := u
  refine uG_weak (stepS s en p) ?_
  rintro v H1 ⟨r1, h1, a, g1, s1, en1, ra, p1⟩
  exact p1 v H1 r1 Gr.refl s1 ra
def mRetN : MS := fun _ h => .rt .non h
theorem ss_retN : SS G X W (.Return none pos) mRetN := by
  refine ⟨ps_imp ps_retN fun Z σ H u => ?_⟩
  obtain ⟨r, h, e, s, en, p⟩ := u
  exact p .non H r Gr.refl s .non
def mIfS (t : MT) (a b : MS) : MS := fun e h => (t e h).bs e fun c h1 => if c = true then a e h1 else b e h1
theorem ss_if {s1 s2 : List Stmt} (ht : ST G X W x mt) (ha : SSs G X W s1 a) (hb : SSs G X W s2 b) : SS G X W (.If x s1 s2 pos) (mIfS mt a b) := by
  refine ⟨ps_imp (ps_if ht.pt ha.pss hb.pss) fun Z σ H u => ?_⟩
  obtain ⟨r, h, e, s, en, p⟩ := u
  refine uG_weak (stepS s en p) ?_
  rintro v H1 ⟨r1, h1, c, g1, s1, en1, ra, p1⟩
  have ra : c = v := ra
  subst ra
  cases c with
  | true => exact ⟨r1, h1, e, s1, en1, p1⟩
  | false => exact ⟨r1, h1, e, s1, en1, p1⟩

/-! ### targets -/
abbrev MG := D → En → Hm → Option En
/-- the slots but those are as they were -/
def Chg (vs : List Nat) (σ σ' : L2.St) : Prop := σ'.length = σ.length ∧ ∀ j, j ∉ vs → σ'[j]? = σ[j]?
theorem Chg.refl {vs : List Nat} {σ : L2.St} : Chg vs σ σ := ⟨rfl, fun _ _ => rfl⟩
theorem Chg.trans {vs : List Nat} {σ σ' σ2 : L2.St} (a : Chg vs σ σ') (b : Chg vs σ' σ2) : Chg vs σ σ2 := ⟨b.1.trans a.1, fun j h => (b.2 j h).trans (a.2 j h)⟩
theorem Chg.mono {vs ws : List Nat} {σ σ' : L2.St} (a : Chg vs σ σ') (h : ∀ i ∈ vs, i ∈ ws) : Chg ws σ σ' := ⟨a.1, fun j hj => a.2 j fun z => hj (h j z)⟩
theorem wipe_at (σ : L2.St) : ∀ (vs : List Nat) (j : Nat), (wipe σ vs)[j]? = if j ∈ vs then (if j < σ.length then some none else none) else σ[j]?
  | [], j => by simp [wipe]
  | v :: vs, j => by
    unfold wipe
    have ih := wipe_at σ vs j
    by_cases c : v = j
    · subst c
      rw [if_pos List.mem_cons_self]
      by_cases l : v < σ.length
      · rw [if_pos l, List.getElem?_set_self (by rw [wipe_length]; exact l)]
      · rw [if_neg l]
        exact List.getElem?_eq_none (by rw [List.length_set, wipe_length]; omega)
    · rw [List.getElem?_set_ne c, ih]
      by_cases m : j ∈ vs
      · rw [if_pos m, if_pos (List.mem_cons_of_mem _ m)]
      · rw [if_neg m, if_neg (by rw [List.mem_cons]; rintro (z | z); exact c z.symm; exact m z)]
theorem Chg.wipe {vs : List Nat} {σ σ' : L2.St} (a : Chg vs σ σ') : wipe σ' vs = wipe σ vs := by
  apply List.ext_getElem?
  intro j
  rw [wipe_at, wipe_at, a.1]
  split
  · rfl
  · rename_i h
    exact a.2 j h
theorem chg_set {i : Nat} {σ : L2.St} {o : Option V} : Chg [i] σ (σ.set i o) := ⟨List.length_set, fun j h => List.getElem?_set_ne fun z => h (by simp [z])⟩
def uGt (G : Gx) (m : MG) (vs : List Nat) : TG := fun v σ H Q => ∃ r h e d e', Sim G r H h ∧ EnR G r H e σ ∧ Rep G r H d v ∧ m d e h = some e' ∧ ∀ σ', EnR G r H e' σ' → Chg vs σ σ' → Q σ' H
structure SG (G : Gx) (X : Cx) (x : Expr) (m : MG) (vs : List Nat) : Prop where
  pg : PG X x (uGt G m vs)
theorem pg_imp {X : Cx} {x : Expr} {t t' : TG} (h : PG X x t) (w : ∀ v σ H Q, t' v σ H Q → t v σ H Q) : PG X x t' := ⟨fun pins s σ H v u Q I r q => h.run pins s σ H v u Q I r (w v σ H Q q)⟩
theorem pgs_imp {X : Cx} {x : List Expr} {t t' : TGs} (h : PGs X x t) (w : ∀ v σ H Q, t' v σ H Q → t v σ H Q) : PGs X x t' := ⟨fun pins s σ H v u Q I r q => h.run pins s σ H v u Q I r (w v σ H Q q)⟩
def gSet (i : Nat) : MG := fun d e _ => some (e.set i (some d))
theorem sg_name (i : Nat) {n : Str} (hN : X.N.Nodup) (hi : X.N[i]? = some n := by rfl) (hx : Loc X.env.scope n := by first | exact Or.inl rfl | exact Or.inr rfl)
    (hf : X.fn n = true ∨ X.env.scope.names.lookup n = some .local := by first | exact .inl rfl | exact .inr rfl) : SG G X (.Name n pos) (gSet i) [i] :=
  ⟨pg_imp (pg_name hN hi hx hf) fun v σ H Q ⟨r, h, e, d, e', s, en, rd, em, k⟩ => k _ (by cases em; exact en.set rd) chg_set⟩
def gSets : List MG → List D → En → Hm → Option En
  | [], [], e, _ => some e
  | g :: gs, d :: ds, e, h => match g d e h with
    | some e' => gSets gs ds e' h
    | none => none
  | _, _, _, _ => none
def uGts (G : Gx) (m : List MG) (vs : List Nat) : TGs := fun us σ H Q => ∃ r h e ds e', Sim G r H h ∧ EnR G r H e σ ∧ Reps G r H ds us ∧ gSets m ds e h = some e' ∧ ∀ σ', EnR G r H e' σ' → Chg vs σ σ' → Q σ' H
structure SGs (G : Gx) (X : Cx) (xs : List Expr) (m : List MG) (vs : List Nat) : Prop where
  pgs : PGs X xs (uGts G m vs)
theorem sgs_nil : SGs G X [] [] [] := ⟨pgs_imp pgs_nil fun us σ H Q ⟨r, h, e, ds, e', s, en, rd, em, k⟩ => by
  cases rd with
  | nil => cases em; exact ⟨rfl, k σ en Chg.refl⟩
  | cons _ _ => cases em⟩
theorem sgs_cons {g : MG} {gs : List MG} {vs ws : List Nat} (h1 : SG G X x g vs) (h2 : SGs G X xs gs ws) (hs : (assignEach (x :: xs) X.env).map (·.2) = assign x X.env :: (assignEach xs X.env).map (·.2) := by rfl) : SGs G X (x :: xs) (g :: gs) (vs ++ ws) := by
  refine ⟨pgs_imp (pgs_cons h1.pg h2.pgs hs) fun us σ H Q ⟨r, h, e, ds, e', s, en, rd, em, k⟩ => ?_⟩
  cases rd with
  | nil => cases em
  | @cons d v ds us a b =>
    simp only [gSets] at em
    cases q : g d e h with
    | none => rw [q] at em; cases em
    | some e1 =>
      rw [q] at em
      exact ⟨v, us, rfl, r, h, e, d, e1, s, en, a, q, fun σ1 en1 c1 => ⟨r, h, e1, ds, e', s, en1, b, em, fun σ2 en2 c2 => k σ2 en2 ((c1.mono fun i hi => List.mem_append_left _ hi).trans (c2.mono fun i hi => List.mem_append_right _ hi))⟩⟩
/-- a tuple, or a list, of just as many -/
def gTupM (gs : List MG) : MG := fun d e h => match seqOf h d with
  | some ds => if ds.length = gs.length then gSets gs ds e h else none
  | none => none
theorem pg_or {t t' : TG} (h : PG X x t) (h' : PG X x t') : PG X x (fun v σ H Q => t v σ H Q ∨ t' v σ H Q) := ⟨fun pins s σ H v u Q I r q => by
  rcases q with q | q
  · exact h.run pins s σ H v u Q I r q
  · exact h'.run pins s σ H v u Q I r q⟩
theorem sg_tup {gs : List MG} {vs : List Nat} {k : Nat} (hc : X.calm = true) (hK : X.K = G.K) (h : SGs G X xs gs vs) (hn : (assignEach xs X.env).length = gs.length := by rfl) (hst : (assignEach xs X.env).findIdx? (·.1) = none := by rfl) : SG G X (.Tuple xs k pos) (gTupM gs) vs := by
  refine ⟨pg_imp (pg_or (pg_tup hc h.pgs hn hst) (pg_lst hc h.pgs hn hst)) fun v σ H Q ⟨r, h, e, d, e', s, en, rd, em, k⟩ => ?_⟩
  unfold gTupM at em
  split at em
  · rename_i ds e1
    split at em
    · rename_i c
      obtain ⟨a, us, rfl, e2, e3⟩ := seq_rep s rd e1
      rcases e2 with e2 | e2
      · exact .inr ⟨a, us, rfl, by rw [hK]; exact e2, by rw [← e3.length]; exact c, r, h, e, ds, e', s, en, e3, em, k⟩
      · exact .inl ⟨a, us, rfl, by rw [hK]; exact e2, by rw [← e3.length]; exact c, r, h, e, ds, e', s, en, e3, em, k⟩
    · cases em
  · cases em

/-! ### assignments -/
def mSet (i : Nat) (a : ME) : MS := fun e h => (a e h).bs e fun d h1 => .nx (e.set i (some d)) h1
theorem ss_set (i : Nat) {n : Str} {pos' : Pos} (hN : X.N.Nodup) (ha : SE G X W x ma) (hi : X.N[i]? = some n := by rfl) (hx : Loc X.env.scope n := by first | exact Or.inl rfl | exact Or.inr rfl)
    (hs : swapsWith x (some (.Name n pos')) pos.line X.env = pure false := by rfl) (hf : X.fn n = true ∨ X.env.scope.names.lookup n = some .local := by first | exact .inl rfl | exact .inr rfl) : SS G X W (.Assign [.Name n pos'] x pos) (mSet i ma) := by
  refine ⟨ps_imp (ps_set hN hi hx ha.pe hs hf) fun Z σ H u => ?_⟩
  obtain ⟨r, h, e, s, en, p⟩ := u
  refine uG_weak (stepS s en p) ?_
  rintro v H1 ⟨r1, h1, a, g1, s1, en1, ra, p1⟩
  exact p1 _ H1 r1 Gr.refl s1 (en1.set ra)
/-- any target -/
def mAsg (g : MG) (a : ME) : MS := fun e h => (a e h).bs e fun d h1 => match g d e h1 with
  | some e' => .nx e' h1
  | none => .no
theorem ss_asg {tg : Expr} {g : MG} {vs : List Nat} (ha : SE G X W x ma) (hg : SG G X tg g vs) (hs : swapsWithSole [tg] x pos.line X.env = pure false := by rfl) (hw : swappedStores [tg] x X.env = pure none := by rfl)
    (h1 : (assignEach [tg] X.env).map (·.2) = [assign tg X.env] := by rfl) : SS G X W (.Assign [tg] x pos) (mAsg g ma) := by
  refine ⟨ps_imp (ps_asg ha.pe hg.pg hs hw h1) fun Z σ H u => ?_⟩
  obtain ⟨r, h, e, s, en, p0⟩ := u
  refine uG_weak (stepS s en p0) ?_
  rintro v H1 ⟨r1, h1, a, g1, s1, en1, ra, p1⟩
  cases em : g a e h1 with
  | none => simp only [em] at p1; exact p1.elim
  | some e' =>
    simp only [em] at p1
    exact ⟨r1, h1, e, a, e', s1, en1, ra, em, fun σ' en' _ => p1 σ' H1 r1 Gr.refl s1 en'⟩
/-- a, b = x, y: plain names -/
def mPar (i j : Nat) (a : MA) : MS := fun e h => (a e h).bs e fun ds h1 => match ds with
  | [d, d'] => .nx ((e.set i (some d)).set j (some d')) h1
  | _ => .no
theorem ss_par (i j : Nat) {n m : Str} {px py pt : Pos} {kt k2 : Nat} {pt2 : Pos} (hc : X.calm = true) (hN : X.N.Nodup) (ha : SA G X W [x, y] ms) (hi : X.N[i]? = some n := by rfl) (hj : X.N[j]? = some m := by rfl) (hij : i ≠ j := by decide)
    (hx : X.env.scope.names.lookup n = some .local := by rfl) (hy : X.env.scope.names.lookup m = some .local := by rfl)
    (hw : swappedStores [.Tuple [.Name n px, .Name m py] kt pt] (.Tuple [x, y] k2 pt2) X.env = pure (some [n, m]) := by rfl)
    (hs : swapsWithSole [.Tuple [.Name n px, .Name m py] kt pt] (.Tuple [x, y] k2 pt2) pos.line X.env = pure false := by rfl) :
    SS G X W (.Assign [.Tuple [.Name n px, .Name m py] kt pt] (.Tuple [x, y] k2 pt2) pos) (mPar i j ms) := by
  refine ⟨ps_imp (ps_par hc hN hi hj hij hx hy ha.pa hw hs) fun Z σ H u => ?_⟩
  obtain ⟨r, h, e, s, en, p⟩ := u
  refine uG_weak (stepS s en p) ?_
  rintro vs H1 ⟨r1, h1, a, g1, s1, en1, ra, p1⟩
  cases ra with
  | nil => exact p1.elim
  | cons q1 t1 =>
    cases t1 with
    | nil => exact p1.elim
    | cons q2 t2 =>
      cases t2 with
      | cons _ _ => exact p1.elim
      | nil => exact ⟨_, _, rfl, p1 _ H1 r1 Gr.refl s1 ((en1.set q1).set q2)⟩
/-- name += e -/
def mAug (i : Nat) (p : D → D → Hm → Re D) (a : ME) : MS := fun e h => match e[i]? with
  | some (some d) => (a e h).bs e fun d' h1 => (p d d' h1).bs e fun d2 h2 => .nx (e.set i (some d2)) h2
  | _ => .no
theorem ss_aug (i : Nat) {n : Str} {op : Operator} {ti : TIp} {p : D → D → Hm → Re D} {pos' : Pos} (hN : X.N.Nodup) (ha : SE G X W x ma) (ho : PIp X op ti)
    (hp : Prim2 G ti p) (hi : X.N[i]? = some n := by rfl) (hx : Loc X.env.scope n := by first | exact Or.inl rfl | exact Or.inr rfl)
    (hf : X.fn n = true ∨ X.env.scope.names.lookup n = some .local := by first | exact .inl rfl | exact .inr rfl) : SS G X W (.AugAssign (.Name n pos') op x pos) (mAug i p ma) := by
  refine ⟨ps_imp (ps_aug hN hi hx ha.pe ho hf) fun Z σ H u => ?_⟩
  obtain ⟨r, h, e, s, en, q⟩ := u
  unfold mAug at q
  split at q
  · rename_i d ed
    obtain ⟨v, e1, e2⟩ := en.at_ i d ed
    refine ⟨v, e1, ?_⟩
    refine uG_weak (stepS s en q) ?_
    rintro w H1 ⟨r1, h1, b, g1, s1, en1, rb, p1⟩
    refine hp (fun c d H' => W c d σ H') r1 H1 h1 d b v w _ s1 (e2.mono g1) rb ?_
    cases eo : p d b h1 with
    | ok d2 h2 =>
      rw [eo] at p1
      exact fun v2 H2 r2 g2 s2 q2 => p1 _ H2 r2 g2 s2 ((en1.mono g2).set q2)
    | ex c dx h2 =>
      rw [eo] at p1
      exact fun v2 H2 r2 dd g2 s2 q2 hd => p1 v2 σ H2 r2 dd g2 s2 (en1.mono g2) q2 hd
    | no => rw [eo] at p1; exact p1.elim
  · exact q.elim
theorem prim_ipadd : Prim2 G (ipI fun i j => i + j) (pInt (fun _ _ => true) fun i j => i + j) := by
  intro W r H h a b x y Q s ra rb p
  obtain ⟨i, j, h1, h2, _, h3⟩ := prim_int (G := G) (C := fun _ _ => True) (c := fun _ _ => true) (f := fun i j => i + j) (fun _ _ _ => trivial) W r H h a b x y Q s ra rb p
  exact ⟨i, j, h1, h2, h3⟩
theorem prim_ipsub : Prim2 G (ipI fun i j => i - j) (pInt (fun _ _ => true) fun i j => i - j) := by
  intro W r H h a b x y Q s ra rb p
  obtain ⟨i, j, h1, h2, _, h3⟩ := prim_int (G := G) (C := fun _ _ => True) (c := fun _ _ => true) (f := fun i j => i - j) (fun _ _ _ => trivial) W r H h a b x y Q s ra rb p
  exact ⟨i, j, h1, h2, h3⟩
/-- xs[i] = e on a list -/
def mSub (o i v : ME) : MS := fun e h => (v e h).bs e fun d h1 => (o e h1).bs e fun x h2 => (i e h2).bs e fun k h3 => match x, k with
  | .ref n, .int j => match h3[n]? with
    | some (.lst xs) => if 0 ≤ j ∧ j < xs.length then .nx e (h3.set n (.lst (xs.set j.toNat d))) else .no
    | _ => .no
  | _, _ => .no
theorem ss_sub {pt : Pos} (hv : SE G X W z mc) (ho : SE G X W x ma) (hi : SE G X W y mb)
    (has : ∀ v, assign (.Subscript x y pt) X.env v = (do
      let ov ← holding [v] (eval x X.env)
      let iv ← holding [v, ov] (eval y X.env)
      standAt pt
      holding [v, ov, iv] (setItem ov iv v)
      release [v, ov, iv] []) := by intro _; rfl)
    (hs : swapsWithSole [.Subscript x y pt] z pos.line X.env = pure false := by rfl) (hw : swappedStores [.Subscript x y pt] z X.env = pure none := by rfl)
    (h1 : (assignEach [.Subscript x y pt] X.env).map (·.2) = [assign (.Subscript x y pt) X.env] := by rfl) : SS G X W (.Assign [.Subscript x y pt] z pos) (mSub ma mb mc) := by
  refine ⟨ps_imp (ps_asg hv.pe (pg_sub ho.pe hi.pe set_list has) hs hw h1) fun Z σ H u => ?_⟩
  obtain ⟨r, h, e, s, en, p⟩ := u
  refine uG_weak (stepS s en p) ?_
  rintro v H1 ⟨r1, h1, d, g1, s1, en1, rd, p1⟩
  refine uG_weak (stepS s1 en1 p1) ?_
  rintro o H2 ⟨r2, h2, x, g2, s2, en2, rx, p2⟩
  refine uG_weak (stepS s2 en2 p2) ?_
  rintro w H3 ⟨r3, h3, k, g3, s3, en3, rk, p3⟩
  have rx3 := rx.mono g3
  split at p3
  · rename_i n j
    cases rx3 with
    | ref hn =>
      cases rk with
      | int _ =>
        obtain ⟨ob, e1, oo⟩ := s3.get hn
        rw [e1] at p3
        cases ob with
        | lst xs =>
          simp only at p3
          split at p3
          · rename_i c
            obtain ⟨vs, q1, q2⟩ := oo
            have hl := q2.length
            refine ⟨_, vs, j, j.toNat, rfl, rfl, q1, ?_, ?_⟩
            · unfold ixN
              rw [if_pos c.1, if_pos (by omega)]
            · obtain ⟨s4, g4⟩ := s3.put (ob := .lst (xs.set j.toNat d)) (o := .lst (vs.set j.toNat v)) hn fun g => ⟨_, upd_same, (q2.mono g).set (((rd.mono g2).mono g3).mono g) _⟩
              exact p3 σ _ r3 g4 s4 (en3.mono g4)
          · exact p3.elim
        | _ => exact p3.elim
  · exact p3.elim

/-! ### fields -/
theorem fs_lookup {r : List Addr} {H : Hp} (nd : G.fn.Nodup) {i : Nat} {f : Str} (hf : G.fn[i]? = some f) : ∀ {fs : List (Nat × D)} {vs : List (Str × V)} {d : D}, FsR G r H fs vs → fs.lookup i = some d → ∃ v, vs.lookup f = some v ∧ Rep G r H d v
  | _, _, _, .nil, e => by cases e
  | _, _, _, .cons (i := j) (x := x) (fs := fs) hx q t, e => by
    rw [List.lookup_cons] at e ⊢
    by_cases c : i = j
    · subst c
      rw [hf] at hx
      cases hx
      simp only [beq_self_eq_true] at e ⊢
      cases e
      exact ⟨_, rfl, q⟩
    · have c1 : (i == j) = false := beq_eq_false_iff_ne.mpr c
      have c2 : (f == x) = false := beq_eq_false_iff_ne.mpr fun z => c (nodup_ix nd hf (z ▸ hx))
      rw [c1] at e
      rw [c2]
      exact fs_lookup nd hf t e
theorem fs_none {r : List Addr} {H : Hp} {f : Str} (hf : f ∉ G.fn) : ∀ {fs : List (Nat × D)} {vs : List (Str × V)}, FsR G r H fs vs → vs.lookup f = none
  | _, _, .nil => rfl
  | _, _, .cons (x := x) hx q t => by
    rw [List.lookup_cons]
    have c2 : (f == x) = false := beq_eq_false_iff_ne.mpr fun z => hf (z ▸ List.mem_of_getElem? hx)
    rw [c2]
    exact fs_none hf t
/-- what is asked of a class whose fields are read and stored -/
structure ClsF (G : Gx) (c : Nat) (f : Str) : Prop where
  cl : Cls G.K (G.ga c)
  no : NoAttr G.K (G.ga c) f
def mFld (cs : List Nat) (i : Nat) (a : ME) : ME := fun e h => (a e h).bind fun x h1 => match x with
  | .ref n => match h1[n]? with
    | some (.ins c fs) => if cs.contains c = true then match fs.lookup i with
        | some d => .ok d h1
        | none => .no
      else .no
    | _ => .no
  | _ => .no
theorem se_fld {cs : List Nat} (i : Nat) {f : Str} (hK : X.K = G.K) (nd : G.fn.Nodup) (hf : G.fn[i]? = some f) (hc : ∀ c ∈ cs, ClsF G c f) (ha : SE G X W x ma) (hb : attributeBase x f X.env (eval x X.env) = eval x X.env := by rfl) : SE G X W (.Attribute x f pos) (mFld cs i ma) := by
  refine ⟨pe_imp (pe_fld ha.pe hb) fun σ H Q u => ?_⟩
  obtain ⟨r, h, e, s, en, p⟩ := u
  refine uG_weak (stepP s en p) ?_
  rintro v H1 ⟨r1, h1, x, g1, s1, en1, rx, p1⟩
  cases rx with
  | ref hn =>
    obtain ⟨ob, e1, oo⟩ := s1.get hn
    simp only [e1] at p1
    cases ob with
    | ins c fs =>
      simp only at p1
      split at p1
      · rename_i cc
        have hcc := hc c (List.contains_iff_mem.mp cc)
        split at p1
        · rename_i d ed
          obtain ⟨dx, vs, q1, q2⟩ := oo
          obtain ⟨w, l1, l2⟩ := fs_lookup nd hf q2 ed
          exact ⟨_, _, dx, vs, w, rfl, q1, by rw [hK]; exact hcc.cl, by rw [hK]; exact hcc.no, l1, p1 w H1 r1 Gr.refl s1 l2⟩
        · exact p1.elim
      · exact p1.elim
    | _ => exact p1.elim
  | _ => exact p1.elim
def putD (i : Nat) (d : D) : List (Nat × D) → List (Nat × D)
  | [] => [(i, d)]
  | (j, x) :: r => if j = i then (j, d) :: r else (j, x) :: putD i d r
theorem fs_put {r : List Addr} {H : Hp} (nd : G.fn.Nodup) {i : Nat} {f : Str} (hf : G.fn[i]? = some f) {d : D} {v : V} (hd : Rep G r H d v) : ∀ {fs : List (Nat × D)} {vs : List (Str × V)}, FsR G r H fs vs → FsR G r H (putD i d fs) (putF f v vs)
  | _, _, .nil => .cons hf hd .nil
  | _, _, .cons (i := j) (x := x) hx q t => by
    unfold putD putF
    by_cases c : j = i
    · subst c
      rw [hf] at hx
      cases hx
      rw [if_pos rfl, if_pos rfl]
      exact .cons hf hd t
    · have c2 : x ≠ f := fun z => c (nodup_ix nd (z ▸ hx) hf)
      rw [if_neg c, if_neg c2]
      exact .cons hx q (fs_put nd hf hd t)
theorem fs_len {r : List Addr} {H : Hp} : ∀ {fs : List (Nat × D)} {vs : List (Str × V)}, FsR G r H fs vs → fs.length = vs.length
  | _, _, .nil => rfl
  | _, _, .cons _ _ t => congrArg (· + 1) (fs_len t)
def mPutF (cs : List Nat) (i : Nat) (a v : ME) : MS := fun e h => (v e h).bs e fun d h1 => (a e h1).bs e fun x h2 => match x with
  | .ref n => match h2[n]? with
    | some (.ins c fs) => if cs.contains c = true ∧ fs.length < 900 then .nx e (h2.set n (.ins c (putD i d fs))) else .no
    | _ => .no
  | _ => .no
theorem ss_fld {cs : List Nat} (i : Nat) {f : Str} {pos' : Pos} (hK : X.K = G.K) (nd : G.fn.Nodup) (hf : G.fn[i]? = some f) (hc : ∀ c ∈ cs, ClsF G c f) (ha : SE G X W x ma) (hv : SE G X W y mb)
    (hs : swapsWith y (some (.Attribute x f pos')) pos.line X.env = pure false := by rfl) : SS G X W (.Assign [.Attribute x f pos'] y pos) (mPutF cs i ma mb) := by
  refine ⟨ps_imp (ps_fld ha.pe hv.pe hs) fun Z σ H u => ?_⟩
  obtain ⟨r, h, e, s, en, p⟩ := u
  refine uG_weak (stepS s en p) ?_
  rintro v H1 ⟨r1, h1, d, g1, s1, en1, rd, p1⟩
  refine uG_weak (stepS s1 en1 p1) ?_
  rintro o H2 ⟨r2, h2, x, g2, s2, en2, rx, p2⟩
  cases rx with
  | ref hn =>
    obtain ⟨ob, e1, oo⟩ := s2.get hn
    simp only [e1] at p2
    cases ob with
    | ins c fs =>
      simp only at p2
      split at p2
      · rename_i cc
        have hcc := hc c (List.contains_iff_mem.mp cc.1)
        obtain ⟨dx, vs, q1, q2⟩ := oo
        have hl := fs_len q2
        refine ⟨_, _, dx, vs, rfl, q1, by rw [hK]; exact hcc.cl, by rw [hK]; exact hcc.no, by omega, ?_⟩
        obtain ⟨s4, g4⟩ := s2.put (ob := .ins c (putD i d fs)) (o := .ins (G.ga c) dx (putF f v vs)) hn fun g => ⟨dx, _, upd_same, fs_put nd hf ((rd.mono g2).mono g) (q2.mono g)⟩
        exact p2 σ _ r2 g4 s4 (en2.mono g4)
      · exact p2.elim
    | _ => exact p2.elim
  | _ => exact p2.elim
end
end L2.Lv
end
section
set_option maxRecDepth 100000
set_option maxHeartbeats 4000000
set_option autoImplicit false
namespace L2.Lv
open PySem PySem.Spec PyProof.Rows

/-! ### what is walked -/
inductive Src where
  | live (n : Nat) | fix (xs : List D) | enm (n : Nat) | zp (n m : Nat)
def nxt : Src → Nat → Hm → Option (Option D)
  | .live n, i, h => match itemsOf h n with
    | some xs => some xs[i]?
    | none => none
  | .fix xs, i, _ => some xs[i]?
  | .enm n, i, h => match itemsOf h n with
    | some xs => match xs[i]? with
      | some d => some (some (.tup [.int (i : Nat), d]))
      | none => some none
    | none => none
  | .zp n m, i, h => match itemsOf h n, itemsOf h m with
    | some xs, some ys => match xs[i]?, ys[i]? with
      | some x, some y => some (some (.tup [x, y]))
      | _, _ => some none
    | _, _ => none
def JR (G : Gx) (r0 : List Addr) (H0 : Hp) (src : Src) (J : It) : Prop := ∀ (r : List Addr) (H : Hp) (h : Hm) (i : Nat), Gr G r0 H0 r H → Sim G r H h →
  (∀ d, nxt src i h = some (some d) → J.go i H ∧ ∀ x H', J.yld i H x H' → Gr G r H r H' ∧ Sim G r H' h ∧ Rep G r H' d x) ∧ (nxt src i h = some none → J.stop i H)
abbrev MI := En → Hm → Re Src
structure SI (G : Gx) (X : Cx) (W : WX) (tg iter : Expr) (m : MI) : Prop where
  pi : PI X tg iter (uG G W (JR G) m)
theorem pi_imp {X : Cx} {tg x : Expr} {t t' : TI} (h : PI X tg x t) (w : ∀ σ H Q, t' σ H Q → t σ H Q) : PI X tg x t' := ⟨fun pins s σ H R I q => h.run pins s σ H R I (w σ H R q)⟩
theorem pi_or {X : Cx} {tg x : Expr} {t t' : TI} (h : PI X tg x t) (h' : PI X tg x t') : PI X tg x (fun σ H Q => t σ H Q ∨ t' σ H Q) := ⟨fun pins s σ H R I q => by
  rcases q with q | q
  · exact h.run pins s σ H R I q
  · exact h'.run pins s σ H R I q⟩
section
variable {G : Gx} {X : Cx} {W : WX} {x y z tg : Expr} {xs : List Expr} {ma mb mc : ME} {mt mu : MT} {ms : MA} {pos : Pos} {st : Stmt} {sts : List Stmt} {a b : MS} {r : List Addr} {H : Hp} {h : Hm}
theorem jr_live {n : Nat} {p : Addr} (e : r[n]? = some p) : JR G r H (.live n) (Itl G.K p) := by
  intro r1 H1 h1 i g s
  have e1 := g.pre n p e
  refine ⟨fun d q => ?_, fun q => ?_⟩
  · simp only [nxt] at q
    split at q
    · rename_i xs e2
      obtain ⟨vs, q1, q2⟩ := items_seq s e1 e2
      obtain ⟨v, q3, q4⟩ := q2.get (Option.some.inj q)
      exact ⟨⟨vs, v, q1, q3⟩, fun x H' ⟨eh, hx⟩ => by
        subst eh
        have ex := hx vs q1
        rw [q3] at ex
        cases ex
        exact ⟨Gr.refl, s, q4⟩⟩
    · cases q
  · simp only [nxt] at q
    split at q
    · rename_i xs e2
      obtain ⟨vs, q1, q2⟩ := items_seq s e1 e2
      exact ⟨vs, q1, by rw [← q2.length]; exact List.getElem?_eq_none_iff.mp (Option.some.inj q)⟩
    · cases q
theorem jr_tup {p : Addr} {ds : List D} {vs : List V} (e : SqT G.K H p vs) (q0 : Reps G r H ds vs) : JR G r H (.fix ds) (Itt G.K p) := by
  intro r1 H1 h1 i g s
  have e1 := g.tup _ _ e
  have q2 := q0.mono g
  refine ⟨fun d q => ?_, fun q => ?_⟩
  · obtain ⟨v, q3, q4⟩ := q2.get (Option.some.inj q)
    exact ⟨⟨vs, v, e1, q3⟩, fun x H' ⟨eh, hx⟩ => by
      subst eh
      have ex := hx vs e1
      rw [q3] at ex
      cases ex
      exact ⟨Gr.refl, s, q4⟩⟩
  · exact ⟨vs, e1, by rw [← q2.length]; exact List.getElem?_eq_none_iff.mp (Option.some.inj q)⟩
def intsR (lo : Int) (n : Nat) : List D := (List.range n).map fun (i : Nat) => D.int (lo + (i : Int))
theorem jr_range {lo : Int} {n : Nat} : JR G r H (.fix (intsR lo n)) (Itr lo n) := by
  intro r1 H1 h1 i g s
  refine ⟨fun d q => ?_, fun q => ?_⟩
  · have q : (intsR lo n)[i]? = some d := Option.some.inj q
    have hl : i < n := by
      have := (List.getElem?_eq_some_iff.mp q).1
      unfold intsR at this
      rwa [List.length_map, List.length_range] at this
    have ed : d = .int (lo + (i : Int)) := by
      unfold intsR at q
      rw [List.getElem?_map, List.getElem?_range hl] at q
      exact (Option.some.inj q).symm
    subst ed
    exact ⟨hl, fun x H' ⟨eh, hx⟩ => by
      subst eh
      subst hx
      exact ⟨Gr.refl, s, .int _⟩⟩
  · have q : (intsR lo n)[i]? = none := Option.some.inj q
    have := List.getElem?_eq_none_iff.mp q
    unfold intsR at this
    rw [List.length_map, List.length_range] at this
    exact this
theorem jr_enum {n : Nat} {p : Addr} (e : r[n]? = some p) : JR G r H (.enm n) (Ite G.K p) := by
  intro r1 H1 h1 i g s
  have e1 := g.pre n p e
  refine ⟨fun d q => ?_, fun q => ?_⟩
  · simp only [nxt] at q
    split at q
    · rename_i xs e2
      obtain ⟨vs, q1, q2⟩ := items_seq s e1 e2
      split at q
      · rename_i d0 e3
        cases q
        obtain ⟨v, q3, q4⟩ := q2.get e3
        exact ⟨⟨vs, v, q1, q3⟩, fun x H' ⟨T, w, ev, hT, eh, hx⟩ => by
          subst ev
          subst eh
          have ex := hx vs q1
          rw [q3] at ex
          cases ex
          exact ⟨gr_fresh hT, s.fresh hT, .tup (SqT.of upd_same) (.cons (.int _) (.cons (q4.mono (gr_fresh hT)) .nil))⟩⟩
      · cases q
    · cases q
  · simp only [nxt] at q
    split at q
    · rename_i xs e2
      obtain ⟨vs, q1, q2⟩ := items_seq s e1 e2
      split at q
      · cases q
      · rename_i e3
        exact ⟨vs, q1, by rw [← q2.length]; exact List.getElem?_eq_none_iff.mp e3⟩
    · cases q
theorem jr_zip {n m : Nat} {p p' : Addr} (e : r[n]? = some p) (e' : r[m]? = some p') : JR G r H (.zp n m) (Itz G.K p p') := by
  intro r1 H1 h1 i g s
  have e1 := g.pre n p e
  have e1' := g.pre m p' e'
  refine ⟨fun d q => ?_, fun q => ?_⟩
  · simp only [nxt] at q
    split at q
    · rename_i xs ys e2 e2'
      obtain ⟨vs, q1, q2⟩ := items_seq s e1 e2
      obtain ⟨ws, k1, k2⟩ := items_seq s e1' e2'
      split at q
      · rename_i d0 d1 e3 e4
        cases q
        obtain ⟨v, q3, q4⟩ := q2.get e3
        obtain ⟨w, k3, k4⟩ := k2.get e4
        exact ⟨⟨vs, ws, v, w, q1, k1, q3, k3⟩, fun x H' ⟨T, u, u', ev, hT, eh, hx, hy⟩ => by
          subst ev
          subst eh
          have ex := hx vs q1
          rw [q3] at ex
          cases ex
          have ey := hy ws k1
          rw [k3] at ey
          cases ey
          exact ⟨gr_fresh hT, s.fresh hT, .tup (SqT.of upd_same) (.cons (q4.mono (gr_fresh hT)) (.cons (k4.mono (gr_fresh hT)) .nil))⟩⟩
      · cases q
    · cases q
  · simp only [nxt] at q
    split at q
    · rename_i xs ys e2 e2'
      obtain ⟨vs, q1, q2⟩ := items_seq s e1 e2
      obtain ⟨ws, k1, k2⟩ := items_seq s e1' e2'
      split at q
      · cases q
      · rename_i e3
        refine ⟨vs, ws, q1, k1, ?_⟩
        have l1 := q2.length
        have l2 := k2.length
        cases c1 : xs[i]? with
        | none => exact .inl (by rw [← l1]; exact List.getElem?_eq_none_iff.mp c1)
        | some a =>
          cases c2 : ys[i]? with
          | none => exact .inr (by rw [← l2]; exact List.getElem?_eq_none_iff.mp c2)
          | some b => exact (e3 a b c1 c2).elim
    · cases q
/-- a list or a tuple -/
def mSrc (a : ME) : MI := fun e h => (a e h).bind fun d h1 => match d with
  | .tup xs => .ok (.fix xs) h1
  | .ref n => match itemsOf h1 n with
    | some _ => .ok (.live n) h1
    | none => .no
  | _ => .no
theorem si_seq (hK : X.K = G.K) (ha : SE G X W x ma) : SI G X W tg x (mSrc ma) := by
  refine ⟨pi_imp (pi_or (pi_list ha.pe) (pi_tup ha.pe)) fun σ H R u => ?_⟩
  obtain ⟨r, h, e, s, en, p⟩ := u
  cases q : ma e h with
  | no => simp only [mSrc, q, Re.bind] at p; exact p.elim
  | ex c d h' =>
    simp only [mSrc, q, Re.bind] at p
    exact .inl ⟨r, h, e, s, en, by rw [q]; exact p⟩
  | ok d h' =>
    simp only [mSrc, q, Re.bind] at p
    cases d with
    | tup xs =>
      refine .inr ⟨r, h, e, s, en, ?_⟩
      rw [q]
      intro v H' r' g s' rv
      cases rv with
      | tup h1 h2 => exact ⟨_, rfl, ⟨_, by rw [hK]; exact h1⟩, p _ H' r' g s' (by rw [hK]; exact jr_tup h1 h2)⟩
    | ref n =>
      refine .inl ⟨r, h, e, s, en, ?_⟩
      rw [q]
      intro v H' r' g s' rv
      cases rv with
      | ref hn =>
        cases c : itemsOf h' n with
        | none => simp only [c] at p; exact p.elim
        | some xs =>
          simp only [c] at p
          obtain ⟨vs, q1, q2⟩ := items_seq s' hn c
          exact ⟨_, rfl, ⟨vs, by rw [hK]; exact q1⟩, p _ H' r' g s' (by rw [hK]; exact jr_live hn)⟩
    | _ => exact p.elim
def smallI (j : Int) : Bool := decide (-(2 ^ 62) ≤ j) && decide (j < 2 ^ 62)
theorem smallI_is {j : Int} (h : smallI j = true) : -(2 ^ 62) ≤ j ∧ j < 2 ^ 62 := by
  unfold smallI at h
  rw [Bool.and_eq_true] at h
  exact ⟨of_decide_eq_true h.1, of_decide_eq_true h.2⟩
def mRng1 (a : MA) : MI := fun e h => (a e h).bind fun ds h1 => match ds with
  | [.int j] => if smallI j = true then .ok (.fix (intsR 0 j.toNat)) h1 else .no
  | _ => .no
def mRng2 (a : MA) : MI := fun e h => (a e h).bind fun ds h1 => match ds with
  | [.int i, .int j] => if smallI i = true ∧ smallI j = true then .ok (.fix (intsR i (j - i).toNat)) h1 else .no
  | _ => .no
theorem si_range1 {np : Pos} (hm : X.mg "range" = none) (ha : SA G X W [x] ms) (hg : Gl X "range" := by rfl) (hs : starEach [x] X.env = [(false, eval x X.env)] := by rfl) : SI G X W tg (.Call (.Name "range" np) [x] [] pos) (mRng1 ms) := by
  refine ⟨pi_imp (pi_range1 hg hm ha.pa hs) fun σ H R u => ?_⟩
  obtain ⟨r, h, e, s, en, p⟩ := u
  refine uG_weak (stepP s en p) ?_
  rintro vs H1 ⟨r1, h1, as, g1, s1, en1, ra, p1⟩
  split at p1
  · rename_i j
    cases ra with
    | cons q t =>
      cases t
      cases q
      split at p1
      · rename_i c
        obtain ⟨c1, c2⟩ := smallI_is c
        exact ⟨j, rfl, c1, c2, p1 _ H1 r1 Gr.refl s1 jr_range⟩
      · exact p1.elim
  · exact p1.elim
theorem si_range2 {np : Pos} (hm : X.mg "range" = none) (ha : SA G X W [x, y] ms) (hg : Gl X "range" := by rfl) (hs : starEach [x, y] X.env = [(false, eval x X.env), (false, eval y X.env)] := by rfl) (hs2 : starEach [y] X.env = [(false, eval y X.env)] := by rfl) :
    SI G X W tg (.Call (.Name "range" np) [x, y] [] pos) (mRng2 ms) := by
  refine ⟨pi_imp (pi_range2 hg hm ha.pa hs hs2) fun σ H R u => ?_⟩
  obtain ⟨r, h, e, s, en, p⟩ := u
  refine uG_weak (stepP s en p) ?_
  rintro vs H1 ⟨r1, h1, as, g1, s1, en1, ra, p1⟩
  split at p1
  · rename_i i j
    cases ra with
    | cons q t =>
      cases t with
      | cons q2 t2 =>
        cases t2
        cases q
        cases q2
        split at p1
        · rename_i c
          obtain ⟨c1, c2⟩ := smallI_is c.1
          obtain ⟨c3, c4⟩ := smallI_is c.2
          exact ⟨i, j, rfl, ⟨c1, c2, c3, c4⟩, p1 _ H1 r1 Gr.refl s1 jr_range⟩
        · exact p1.elim
  · exact p1.elim
def mEnum (a : MA) : MI := fun e h => (a e h).bind fun ds h1 => match ds with
  | [.ref n] => match itemsOf h1 n with
    | some _ => .ok (.enm n) h1
    | none => .no
  | _ => .no
theorem si_enum {elts : List Expr} {kk : Nat} {tpos np : Pos} (hK : X.K = G.K) (hm : X.mg "enumerate" = none) (ha : SA G X W [x] ms) (hg : Gl X "enumerate" := by rfl) (hs : starEach [x] X.env = [(false, eval x X.env)] := by rfl) :
    SI G X W (.Tuple elts kk tpos) (.Call (.Name "enumerate" np) [x] [] pos) (mEnum ms) := by
  refine ⟨pi_imp (pi_enum hg hm ha.pa hs) fun σ H R u => ?_⟩
  obtain ⟨r, h, e, s, en, p⟩ := u
  refine uG_weak (stepP s en p) ?_
  rintro vs H1 ⟨r1, h1, as, g1, s1, en1, ra, p1⟩
  split at p1
  · rename_i n
    cases ra with
    | cons q t =>
      cases t
      cases q with
      | ref hn =>
        cases c : itemsOf h1 n with
        | none => simp only [c] at p1; exact p1.elim
        | some xs =>
          simp only [c] at p1
          obtain ⟨vs, q1, q2⟩ := items_seq s1 hn c
          exact ⟨_, vs, rfl, by rw [hK]; exact q1, p1 _ H1 r1 Gr.refl s1 (by rw [hK]; exact jr_enum hn)⟩
  · exact p1.elim
def mZip (a : MA) : MI := fun e h => (a e h).bind fun ds h1 => match ds with
  | [.ref n, .ref m] => match itemsOf h1 n, itemsOf h1 m with
    | some _, some _ => .ok (.zp n m) h1
    | _, _ => .no
  | _ => .no
theorem si_zip {elts : List Expr} {kk : Nat} {tpos np : Pos} (hK : X.K = G.K) (hm : X.mg "zip" = none) (ha : SA G X W [x, y] ms) (hg : Gl X "zip" := by rfl) (hs : starEach [x, y] X.env = (false, eval x X.env) :: starEach [y] X.env := by rfl)
    (hpl : (backTo pos (starEach [y] X.env)).any (·.1) = false := by rfl) : SI G X W (.Tuple elts kk tpos) (.Call (.Name "zip" np) [x, y] [] pos) (mZip ms) := by
  refine ⟨pi_imp (pi_zip hg hm ha.pa hs hpl) fun σ H R u => ?_⟩
  obtain ⟨r, h, e, s, en, p⟩ := u
  refine uG_weak (stepP s en p) ?_
  rintro vs H1 ⟨r1, h1, as, g1, s1, en1, ra, p1⟩
  split at p1
  · rename_i n m
    cases ra with
    | cons q t =>
      cases t with
      | cons q' t' =>
        cases t'
        cases q with
        | ref hn =>
          cases q' with
          | ref hm' =>
            cases c : itemsOf h1 n with
            | none => simp only [c] at p1; exact p1.elim
            | some xs =>
              cases c' : itemsOf h1 m with
              | none => simp only [c, c'] at p1; exact p1.elim
              | some ys =>
                simp only [c, c'] at p1
                obtain ⟨vs, q1, q2⟩ := items_seq s1 hn c
                obtain ⟨ws, k1, k2⟩ := items_seq s1 hm' c'
                exact ⟨_, _, vs, ws, rfl, by rw [hK]; exact q1, by rw [hK]; exact k1, p1 _ H1 r1 Gr.refl s1 (by rw [hK]; exact jr_zip hn hm')⟩
  · exact p1.elim

/-! ### loops -/
def lots : Nat := 100000
def mLoop (src : Src) (g : MG) (b : MS) : Nat → Nat → MS
  | 0, _ => fun _ _ => .no
  | f + 1, i => fun e h => match nxt src i h with
    | some (some d) => match g d e h with
      | some e1 => match b e1 h with
        | .nx e' h' => mLoop src g b f (i + 1) e' h'
        | .ct e' h' => mLoop src g b f (i + 1) e' h'
        | .bk e' h' => .nx e' h'
        | x => x
      | none => .no
    | some none => .nx e h
    | none => .no
def mFor (it : MI) (g : MG) (b : MS) : MS := fun e h => (it e h).bs e fun src h1 => mLoop src g b lots 0 e h1
theorem ss_for {g : MG} {vs : List Nat} {it : MI} (hc : X.calm = true) (hp : PassesOwn (model X.prog X.w) X.A X.env X.xe) (hi : SI G X W tg x it) (hg : SG G X tg g vs) (hb : SSs G X W sts b)
    (hs : ∀ y, foldedSetIterable x X.env y = pure y := by intro _; rfl) : SS G X W (.For tg x sts [] pos) (mFor it g b) := by
  refine ⟨ps_imp (ps_for hp hc hi.pi hg.pg hb.pss hs) fun Z σ H u => ?_⟩
  obtain ⟨r, h, e, s, en, p⟩ := u
  refine uG_weak (stepS s en p) ?_
  rintro J H1 ⟨r1, h1, src, g1, s1, en1, jr, p1⟩
  refine ⟨fun i m σ H => ∃ (r' : List Addr) (h : Hm) (e : En), Gr G r1 H1 r' H ∧ Sim G r' H h ∧ EnR G r' H e σ ∧ PostS G W Z r' H (mLoop src g b m i e h), ⟨lots, r1, h1, e, Gr.refl, s1, en1, p1⟩, ?_⟩
  rintro i m σ2 H2 ⟨r2, h2, e2, g2, s2, en2, p2⟩
  cases m with
  | zero => exact p2.elim
  | succ m =>
    simp only [mLoop] at p2
    obtain ⟨j1, j2⟩ := jr r2 H2 h2 i g2 s2
    cases q : nxt src i h2 with
    | none => simp only [q] at p2; exact p2.elim
    | some o =>
      cases o with
      | none =>
        simp only [q] at p2
        exact .inl ⟨j2 q, p2 σ2 H2 r2 Gr.refl s2 en2⟩
      | some d =>
        simp only [q] at p2
        obtain ⟨go, yld⟩ := j1 d q
        refine .inr ⟨go, _, fun σ' H' n => ⟨m, Nat.lt_succ_self m, n⟩, fun x H3 hy => ?_⟩
        obtain ⟨g3, s3, rx⟩ := yld x H3 hy
        cases em : g d e2 h2 with
        | none => simp only [em] at p2; exact p2.elim
        | some e3 =>
          simp only [em] at p2
          refine ⟨r2, h2, e2, d, e3, s3, en2.mono g3, rx, em, fun σ4 en4 _ => ⟨r2, h2, e3, s3, en4, ?_⟩⟩
          have p3 := PostS.mono g3 p2
          cases eb : b e3 h2 with
          | nx e' h' =>
            simp only [eb] at p3
            exact fun σ' H' r' g s' en' => ⟨r', h', e', ((g2.trans g3).trans g), s', en', PostS.mono g p3⟩
          | ct e' h' =>
            simp only [eb] at p3
            exact fun σ' H' r' g s' en' => ⟨r', h', e', ((g2.trans g3).trans g), s', en', PostS.mono g p3⟩
          | bk e' h' => simp only [eb] at p3; exact p3
          | rt d h' => simp only [eb] at p3; exact p3
          | ex c d e' h' => simp only [eb] at p3; exact p3
          | no => simp only [eb] at p3; exact p3
def mWhileN (t : MT) (b : MS) : Nat → MS
  | 0 => fun _ _ => .no
  | f + 1 => fun e h => (t e h).bs e fun c h1 => if c = true then match b e h1 with
      | .nx e' h' => mWhileN t b f e' h'
      | .ct e' h' => mWhileN t b f e' h'
      | .bk e' h' => .nx e' h'
      | x => x
    else .nx e h1
def mWhile (t : MT) (b : MS) : MS := mWhileN t b lots
theorem ss_while (hp : PassesOwn (model X.prog X.w) X.A X.env X.xe) (ht : ST G X W x mt) (hb : SSs G X W sts b) : SS G X W (.While x sts [] pos) (mWhile mt b) := by
  refine ⟨ps_imp (ps_while hp ht.pt hb.pss) fun Z σ H u => ?_⟩
  obtain ⟨r, h, e, s, en, p⟩ := u
  refine ⟨fun m σ H => ∃ (r' : List Addr) (h : Hm) (e : En), Sim G r' H h ∧ EnR G r' H e σ ∧ PostS G W Z r' H (mWhileN mt b m e h), ⟨lots, r, h, e, s, en, p⟩, ?_⟩
  rintro m σ2 H2 ⟨r2, h2, e2, s2, en2, p2⟩
  cases m with
  | zero => exact p2.elim
  | succ m =>
    simp only [mWhileN] at p2
    refine uG_weak (stepS s2 en2 p2) ?_
    rintro v H3 ⟨r3, h3, c, g3, s3, en3, rc, p3⟩
    have rc : c = v := rc
    subst rc
    cases c with
    | false => exact p3 σ2 H3 r3 Gr.refl s3 en3
    | true =>
      refine ⟨_, fun σ' H' n => ⟨m, Nat.lt_succ_self m, n⟩, r3, h3, e2, s3, en3, ?_⟩
      cases eb : b e2 h3 with
      | nx e' h' =>
        simp only [eb, if_true] at p3
        exact fun σ' H' r' g s' en' => ⟨r', h', e', s', en', PostS.mono g p3⟩
      | ct e' h' =>
        simp only [eb, if_true] at p3
        exact fun σ' H' r' g s' en' => ⟨r', h', e', s', en', PostS.mono g p3⟩
      | bk e' h' => simp only [eb, if_true] at p3; exact p3
      | rt d h' => simp only [eb, if_true] at p3; exact p3
      | ex c d e' h' => simp only [eb, if_true] at p3; exact p3
      | no => simp only [eb, if_true] at p3; exact p3

/-! ### list comprehensions -/
def wipeE (e : En) : List Nat → En
  | [] => e
  | v :: vs => (wipeE e vs).set v none
theorem en_wipe {e : En} {σ : L2.St} (en : EnR G r H e σ) : ∀ vs : List Nat, EnR G r H (wipeE e vs) (wipe σ vs)
  | [] => en
  | v :: vs => by
    have ih := en_wipe en vs
    refine ⟨by simp only [wipeE, wipe, List.length_set]; exact ih.len, fun j d q => ?_⟩
    simp only [wipeE, wipe] at q ⊢
    by_cases c : v = j
    · subst c
      have l := (List.getElem?_eq_some_iff.mp q).1
      rw [List.length_set] at l
      rw [List.getElem?_set_self l] at q
      cases q
    · rw [List.getElem?_set_ne c] at q ⊢
      exact ih.at_ j d q
def mTests : List MT → MT
  | [] => fun _ h => .ok true h
  | [t] => t
  | t :: ts => fun e h => (t e h).bind fun c h1 => if c = true then mTests ts e h1 else .ok false h1
def mCLoop (src : Src) (g : MG) (t : MT) (el : ME) (e0 : En) (n : Nat) : Nat → Nat → Hm → Re D
  | 0, _, _ => .no
  | f + 1, i, h => match nxt src i h with
    | some none => .ok (.ref n) h
    | some (some d) => match g d e0 h with
      | some e1 => match t e1 h with
        | .ok true h2 => match el e1 h2 with
          | .ok y h3 => match h3[n]? with
            | some (.lst acc) => if acc.length < big then mCLoop src g t el e0 n f (i + 1) (h3.set n (.lst (acc ++ [y]))) else .no
            | _ => .no
          | _ => .no
        | .ok false h2 => mCLoop src g t el e0 n f (i + 1) h2
        | _ => .no
      | none => .no
    | none => .no
def mComp (it : MI) (g : MG) (t : MT) (el : ME) (vs : List Nat) : ME := fun e h => (it e h).bind fun src h1 => mCLoop src g t el (wipeE e vs) h1.length lots 0 (h1 ++ [.lst []])
abbrev W0 : WX := fun _ _ _ _ => False
structure STs (G : Gx) (X : Cx) (W : WX) (xs : List Expr) (m : MT) : Prop where
  pts : PTs X xs (uT G W m)
def mYes : MT := fun _ h => .ok true h
theorem sts_nil : STs G X W [] mYes := ⟨⟨fun pins s σ H Q I u => by
  obtain ⟨r, h, e, s, en, p⟩ := u
  exact pts_nil.run pins _ σ H Q I (p true H r Gr.refl s rfl)⟩⟩
theorem sts_one (ht : ST G X W x mt) : STs G X W [x] mt := ⟨pts_one ht.pt⟩
theorem comp_of {it : MI} {g : MG} {vs : List Nat} {σ : L2.St} {H : Hp} {Q : VK} (u : uE G W (mComp it g mt ma vs) σ H Q) :
    tLc (uG G W (JR G) it) (uGt G g vs) (uT G W0 mt) (uE G W0 ma) vs σ H Q := by
  obtain ⟨r, h, e, s, en, p⟩ := u
  refine uG_weak (stepP s en p) ?_
  rintro J H1 ⟨r1, h1, src, g1, s1, en1, jr, p1⟩
  intro A hA
  have gA : Gr G r1 H1 (r1 ++ [A]) (upd H1 A (.lst [])) := gr_new hA
  refine ⟨fun i m H => ∃ (r' : List Addr) (h : Hm), Gr G (r1 ++ [A]) (upd H1 A (.lst [])) r' H ∧ Sim G r' H h ∧ Post G (fun c d H' => W c d σ H') (RD G) r' H (mCLoop src g mt ma (wipeE e vs) h1.length m i h) Q,
    ⟨lots, r1 ++ [A], h1 ++ [.lst []], Gr.refl, s1.new (ob := .lst []) hA ⟨[], upd_same, .nil⟩, Post.mono gA p1⟩, ?_⟩
  rintro i m H2 ⟨r2, h2, g2, s2, p2⟩
  have eA : r2[h1.length]? = some A := g2.pre _ _ (new_at s1 A)
  have enw : EnR G r2 H2 (wipeE e vs) (wipe σ vs) := (en_wipe en1 vs).mono (gA.trans g2)
  cases m with
  | zero => exact p2.elim
  | succ m =>
    simp only [mCLoop] at p2
    obtain ⟨j1, j2⟩ := jr r2 H2 h2 i (gA.trans g2) s2
    cases q : nxt src i h2 with
    | none => simp only [q] at p2; exact p2.elim
    | some o =>
      cases o with
      | none =>
        simp only [q] at p2
        exact .inl ⟨j2 q, p2 _ H2 r2 Gr.refl s2 (.ref eA)⟩
      | some d =>
        simp only [q] at p2
        obtain ⟨go, yld⟩ := j1 d q
        refine .inr ⟨go, _, fun H' n => ⟨m, Nat.lt_succ_self m, n⟩, fun x H3 hy => ?_⟩
        obtain ⟨g3, s3, rx⟩ := yld x H3 hy
        cases em : g d (wipeE e vs) h2 with
        | none => simp only [em] at p2; exact p2.elim
        | some e3 =>
          simp only [em] at p2
          refine ⟨r2, h2, wipeE e vs, d, e3, s3, enw.mono g3, rx, em, fun σ4 en4 ch => ⟨?_, r2, h2, e3, s3, en4, ?_⟩⟩
          · rw [ch.wipe]
            apply List.ext_getElem?
            intro j
            rw [wipe_at, wipe_at, wipe_length]
            split <;> rfl
          · have p3 := Post.mono g3 p2
            cases et : mt e3 h2 with
            | no => simp only [et] at p3; exact p3.elim
            | ex c d' h' => simp only [et] at p3; exact p3.elim
            | ok c h4 =>
              simp only [et] at p3
              intro b H4 r4 g4 s4 hb
              have hb : c = b := hb
              subst hb
              cases c with
              | false => exact ⟨r4, h4, (g2.trans g3).trans g4, s4, Post.mono g4 p3⟩
              | true =>
                refine ⟨r4, h4, e3, s4, en4.mono g4, ?_⟩
                have p4 := Post.mono g4 p3
                cases ee : ma e3 h4 with
                | no => simp only [ee] at p4; exact p4.elim
                | ex c d' h' => simp only [ee] at p4; exact p4.elim
                | ok y h5 =>
                  simp only [ee] at p4
                  intro v H5 r5 g5 s5 rv
                  have eA5 : r5[h1.length]? = some A := g5.pre _ _ (g4.pre _ _ eA)
                  obtain ⟨ob, eo, oo⟩ := s5.get eA5
                  simp only [eo] at p4
                  cases ob with
                  | lst acc =>
                    simp only at p4
                    split at p4
                    · rename_i cl
                      obtain ⟨as, q1, q2⟩ := oo
                      obtain ⟨s6, g6⟩ := s5.put (ob := .lst (acc ++ [y])) (o := .lst (as ++ [v])) eA5 fun g => ⟨_, upd_same, (q2.mono g).append (.cons (rv.mono g) .nil)⟩
                      exact ⟨as, q1, by rw [← q2.length]; exact Nat.lt_of_lt_of_le cl (big_le (Nat.le_refl _)), r5, _, (((g2.trans g3).trans g4).trans g5).trans g6, s6, Post.mono g6 (Post.mono g5 p4)⟩
                    · exact p4.elim
                  | _ => exact p4.elim
section
variable {it : MI} {g : MG} {vs : List Nat} {scope : Scope} {own : List (Str × Nat)} {ifs : List Expr}
theorem se_comp (own : List (Str × Nat)) (hc : X.calm = true) (hN : X.N.Nodup) (hi : SI G X W tg x it) (ok : BlkOk X.N X.env.scope scope own)
    (hg : ∀ (s : Shared) (H : Hp) (C : Addr) (cl : List (Str × Addr)) (fp : List Addr), SG G (X.blk s H scope (compEnvC scope cl C X.env) fp) tg g (own.map (·.2)))
    (ht : ∀ (s : Shared) (H : Hp) (C : Addr) (cl : List (Str × Addr)) (fp : List Addr), STs G (X.blk s H scope (compEnvC scope cl C X.env) fp) W0 ifs mt)
    (he : ∀ (s : Shared) (H : Hp) (C : Addr) (cl : List (Str × Addr)) (fp : List Addr), SE G (X.blk s H scope (compEnvC scope cl C X.env) fp) W0 y ma) (hs : ∀ z, foldedSetIterable x X.env z = pure z := by intro _; rfl) :
    SE G X W (.ListComp y [⟨tg, x, ifs, 0⟩] scope pos) (mComp it g mt ma (own.map (·.2))) :=
  ⟨pe_imp (pe_lc hc hN hi.pi ok (fun s H C cl fp => (hg s H C cl fp).pg) (fun s H C cl fp => (ht s H C cl fp).pts) (fun s H C cl fp => (he s H C cl fp).pe) hs) fun _ _ _ u => comp_of u⟩
theorem ss_setComp (i : Nat) {n : Str} {py spos : Pos} (own : List (Str × Nat)) (hc : X.calm = true) (hN : X.N.Nodup) (hi : SI G X W tg x it) (ok : BlkOk X.N X.env.scope scope own)
    (hg : ∀ (s : Shared) (H : Hp) (C : Addr) (cl : List (Str × Addr)) (fp : List Addr), SG G (X.blk s H scope (compEnvC scope cl C X.env) fp) tg g (own.map (·.2)))
    (ht : ∀ (s : Shared) (H : Hp) (C : Addr) (cl : List (Str × Addr)) (fp : List Addr), STs G (X.blk s H scope (compEnvC scope cl C X.env) fp) W0 ifs mt)
    (he : ∀ (s : Shared) (H : Hp) (C : Addr) (cl : List (Str × Addr)) (fp : List Addr), SE G (X.blk s H scope (compEnvC scope cl C X.env) fp) W0 y ma)
    (hy : X.N[i]? = some n := by rfl) (hyl : X.env.scope.names.lookup n = some .local := by rfl) (hsw : swapsWith (.ListComp y [⟨tg, x, ifs, 0⟩] scope pos) (some (.Name n py)) spos.line X.env = pure true := by exact sw_true rfl rfl rfl (by decide +kernel))
    (hs : ∀ z, foldedSetIterable x X.env z = pure z := by intro _; rfl) :
    SS G X W (.Assign [.Name n py] (.ListComp y [⟨tg, x, ifs, 0⟩] scope pos) spos) (mSet i (mComp it g mt ma (own.map (·.2)))) := by
  refine ⟨ps_imp (ps_setLc hc hN hy hyl hsw hi.pi ok (fun s H C cl fp => (hg s H C cl fp).pg) (fun s H C cl fp => (ht s H C cl fp).pts) (fun s H C cl fp => (he s H C cl fp).pe) hs) fun Z σ H u => ?_⟩
  obtain ⟨r, h, e, s, en, p⟩ := u
  have z : uE G W (mComp it g mt ma (own.map (·.2))) σ H (fun x H1 => gName i x σ H1 Z.nx) := by
    refine uG_weak (stepS s en p) ?_
    rintro v H1 ⟨r1, h1, a, g1, s1, en1, ra, p1⟩
    exact p1 _ H1 r1 Gr.refl s1 (en1.set ra)
  exact comp_of z
end
end
end L2.Lv
end
section
set_option maxRecDepth 100000
set_option maxHeartbeats 4000000
set_option autoImplicit false
namespace L2.Lv
open PySem PySem.Spec PyProof.Rows

/-! ### defs -/
def startE (n : Nat) (ds : List D) : En := ds.map some ++ List.replicate (n - ds.length) none
def mRun (n : Nat) (b : MS) (ds : List D) (h : Hm) : Re D := match b (startE n ds) h with
  | .nx _ h' => .ok .non h'
  | .rt d h' => .ok d h'
  | .ex c v _ h' => .ex c v h'
  | _ => .no
def mBody (ar n : Nat) (b : MS) : List D → Hm → Re D := fun ds h => if ds.length = ar then mRun n b ds h else .no
def spM (G : Gx) (m : List D → Hm → Re D) : Sp := fun vs H Q E => ∃ r h ds, Sim G r H h ∧ Reps G r H ds vs ∧ Post G E (RD G) r H (m ds h) Q
theorem start_en {G : Gx} {r : List Addr} {H : Hp} : ∀ {ds : List D} {vs : List V}, Reps G r H ds vs → ∀ (k : Nat), EnR G r H (ds.map some ++ List.replicate k none) (vs.map some ++ List.replicate k none)
  | _, _, .nil, k => ⟨by simp, fun i d e => by
      simp only [List.map_nil, List.nil_append] at e
      rw [List.getElem?_replicate] at e
      split at e <;> cases e⟩
  | _, _, .cons (d := d0) (v := v0) (ds := ds) (vs := vs) a b, k => by
    have ih := start_en b k
    refine ⟨by simp only [List.map_cons, List.cons_append, List.length_cons]; exact congrArg (· + 1) ih.len, fun i d e => ?_⟩
    cases i with
    | zero =>
      simp only [List.map_cons, List.cons_append, List.getElem?_cons_zero, Option.some.injEq] at e
      cases e
      exact ⟨v0, by simp, a⟩
    | succ i =>
      simp only [List.map_cons, List.cons_append, List.getElem?_cons_succ] at e ⊢
      exact ih.at_ i d e
section
variable {P : Program} {w : World} {K : PySem.W.Frag} {mg : Str → Option Value} {base : Heap} {G : Gx}
theorem fn_ok {x qual : Str} {st : Stmt} {f : Addr} {fd : FuncData} {N ps : List Str} {k : Nat} {b : MS} (F : Fun K x qual st f fd) (S : FnScope N ps (defScope st))
    (hb : ∀ (cdv : Value) (A : Around) (outer : List Env) (s : Shared) (H : Hp) (E : XK), Room k (A.deeper (envOfC qual (defScope st) s.heap.objs.size f cdv)) →
      SSs G (cxOf (L2.CX P w) P w K mg base N qual (defScope st) f cdv A outer s H E) (fun c d _ H' => E c d H') (defBody st) b) : FnOk P w K mg base (L2.CX P w) (k + 1) f fd ps (spM G (mBody ps.length N.length b)) := by
  refine F.okX S (fun vs H Q E h => ?_) fun cdv A outer s H vs Q E hr h => ⟨_, (hb cdv A outer s H E hr).pss, ?_⟩
  · obtain ⟨r, hm, ds, sm, rp, p⟩ := h
    unfold mBody at p
    split at p
    · rename_i c
      rw [← rp.length]
      exact c
    · exact p.elim
  obtain ⟨r, hm, ds, sm, rp, p⟩ := h
  refine ⟨r, hm, startE N.length ds, sm, ?_, ?_⟩
  · have l := rp.length
    unfold startE start
    rw [l]
    exact start_en rp _
  · unfold mBody at p
    split at p
    · unfold mRun at p
      cases q : b (startE N.length ds) hm with
      | nx e' h' => rw [q] at p; exact fun σ' H' r' g s' _ => p .non H' r' g s' .non
      | rt d h' => rw [q] at p; exact p
      | ex c d e' h' => rw [q] at p; exact fun v σ' H' r' dd g s' _ rv hd => p v H' r' dd g s' rv hd
      | bk e' h' => rw [q] at p; exact p.elim
      | ct e' h' => rw [q] at p; exact p.elim
      | no => rw [q] at p; exact p.elim
    · exact p.elim
theorem fn_imp {k : Nat} {f : Addr} {fd : FuncData} {ps : List Str} {m m' : List D → Hm → Re D} (F : FnOk P w K mg base (L2.CX P w) k f fd ps (spM G m)) (e : ∀ ds h, m' ds h = m ds h ∨ m' ds h = .no) : FnOk P w K mg base (L2.CX P w) k f fd ps (spM G m') :=
  F.imp fun vs H Q E ⟨r, h, ds, s, rp, p⟩ => ⟨r, h, ds, s, rp, by
    rcases e ds h with q | q
    · rw [← q]; exact p
    · rw [q] at p; exact p.elim⟩
/-- nothing is promised -/
theorem fn_no {k : Nat} {f : Addr} {fd : FuncData} {ps : List Str} : FnOk P w K mg base (L2.CX P w) k f fd ps (spM G (fun _ _ => .no)) :=
  ⟨fun vs H Q E ⟨_, _, _, _, _, p⟩ => p.elim, fun A outer s H args us vs Q E _ _ _ _ ⟨_, _, _, _, _, p⟩ => p.elim⟩
end

section
variable {G : Gx} {X : Cx} {W : WX} {x y z tg : Expr} {xs : List Expr} {ma mb mc : ME} {mt mu : MT} {ms : MA} {pos : Pos} {st : Stmt} {sts : List Stmt} {a b : MS} {r : List Addr} {H : Hp} {h : Hm}
variable {k : Nat} {f C : Addr} {fd : FuncData} {ps : List Str} {n : Str} {np apos : Pos} {m : List D → Hm → Re D}
/-! ### f(..) -/
def mCall (m : List D → Hm → Re D) (a : MA) : ME := mApp m a
theorem callS_of {σ : L2.St} {H : Hp} {Q : VK} (u : uE G W (mCall m ms) σ H Q) : tCallS (spM G m) (WE W) (uA G W ms) σ H Q := by
  obtain ⟨r, h, e, s, en, p⟩ := u
  refine uG_weak (stepP s en p) ?_
  rintro vs H1 ⟨r1, h1, as, g1, s1, en1, rs, p1⟩
  exact ⟨r1, h1, as, s1, rs, p1⟩
theorem se_call (F : FnOk X.prog X.w X.K X.mg X.base (L2.CX X.prog X.w) k f fd ps (spM G m)) (hr : Room k X.A) (tk : Takes X W) (hm : X.mg n = some (.ref f)) (hk : PySem.W.keepIn X.K (.ref f) = true) (hb : Binds X.K fd ps []) (ha : SA G X W (x :: xs) ms)
    (hg : Gl X n := by rfl) (hdb : (n == ("__debug__" : Str)) = false := by decide) (he : starEach (x :: xs) X.env = (false, eval x X.env) :: starEach xs X.env := by rfl) (hpl : (backTo pos (starEach xs X.env)).any (·.1) = false := by rfl) :
    SE G X W (.Call (.Name n np) (x :: xs) [] pos) (mCall m ms) :=
  ⟨pe_imp (pe_callS F hr hg hm hk hb (fun σ => passAt tk σ) ha.pa hdb he hpl) fun _ _ _ u => callS_of u⟩
theorem se_call0 (F : FnOk X.prog X.w X.K X.mg X.base (L2.CX X.prog X.w) k f fd ps (spM G m)) (hr : Room k X.A) (tk : Takes X W) (hm : X.mg n = some (.ref f)) (hk : PySem.W.keepIn X.K (.ref f) = true) (hb : Binds X.K fd ps [])
    (hg : Gl X n := by rfl) (hdb : (n == ("__debug__" : Str)) = false := by decide) : SE G X W (.Call (.Name n np) [] [] pos) (mCall m mNil) := by
  refine ⟨⟨fun pins s σ H Q I u => ?_⟩⟩
  refine wpAny_Call_Name_kw (ld_glob I hg hm ?_ hdb)
  refine PySem.W.callWith_K0 I.kIn hk ?_
  obtain ⟨r, h, e, sm, en, p⟩ := u
  exact run_fnS (E := WE W) F hr hb (passAt tk σ) I .nil ⟨r, h, [], sm, .nil, p⟩
/-! ### o.m(..): a method of an own class -/
structure ClsM (G : Gx) (c : Nat) (mn : Str) (f : Addr) : Prop where
  cl : Cls G.K (G.ga c)
  me : Meth G.K (G.ga c) mn f
def isIns (c : Nat) (h : Hm) : D → Bool
  | .ref n => match h[n]? with
    | some (.ins c' _) => decide (c' = c)
    | _ => false
  | _ => false
def mOwn (c : Nat) (m : List D → Hm → Re D) (o : ME) (a : MA) : ME := fun e h => (o e h).bind fun x h1 => if isIns c h1 x = true then (a e h1).bind fun ds h2 => m (x :: ds) h2 else .no
theorem ins_at {c : Nat} {d : D} {v : V} (s : Sim G r H h) (q : Rep G r H d v) (e : isIns c h d = true) : ∃ a dx vs fs, v = .ref a ∧ H a = some (.ins (G.ga c) dx vs) ∧ FsR G r H fs vs := by
  cases q with
  | ref hn =>
    obtain ⟨ob, e1, o⟩ := s.get hn
    simp only [isIns, e1] at e
    cases ob with
    | ins c' fs =>
      have e := of_decide_eq_true e
      subst e
      obtain ⟨dx, vs, q1, q2⟩ := o
      exact ⟨_, dx, vs, fs, rfl, q1, q2⟩
    | _ => cases e
  | _ => cases e
theorem se_own {c : Nat} {mn : Str} {pl : Sem Bool} (hK : X.K = G.K) (T : ClsM G c mn f) (hnf : mn ∉ G.fn) (F : FnOk X.prog X.w X.K X.mg X.base (L2.CX X.prog X.w) k f fd ps (spM G m)) (hr : Room k X.A) (tk : Takes X W) (hb : Binds X.K fd ps []) (ho : SE G X W z ma) (ha : SA G X W (x :: xs) ms)
    (hst : starEach (x :: xs) X.env = (false, eval x X.env) :: starEach xs X.env := by rfl) (hpl : (backTo pos (starEach xs X.env)).any (·.1) = false := by rfl)
    (ht : eval (.Call (.Attribute z mn apos) (x :: xs) [] pos) X.env = (do
      let ov ← eval z X.env
      standAt apos.atName
      let (f, first) ← holding [ov] (getMethod ov mn pl)
      callWith pos f first (backTo pos (starEach (x :: xs) X.env)) (backToKw pos (keywordEach [] X.env))) := by rfl) :
    SE G X W (.Call (.Attribute z mn apos) (x :: xs) [] pos) (mOwn c m ma ms) := by
  refine ⟨⟨fun pins s σ H Q I u => ?_⟩⟩
  obtain ⟨r, h, e, sm, en, p⟩ := u
  have u1 := stepP (G := G) (W := W) (R := RD G) sm en p
  refine PySem.W.methodCall_KW (pl := pl) (thn (ho.pe.run pins s σ H _ I u1) fun u s1 ⟨v, H1, I1, rx, r1, h1, d, g1, sm1, en1, rd, p1⟩ => ?_) ht
  split at p1
  · rename_i ci
    obtain ⟨a, dx, vs, fs, ev, ea, fr⟩ := ins_at sm1 rd ci
    subst ev
    obtain rfl : u = Value.ref a := rx
    refine getmeth_ok I1 ea (by rw [hK]; exact T.cl) (by rw [hK]; exact T.me) (fs_none hnf fr) ?_
    refine PySem.W.callWith_K (first := [.ref a]) (h₀ := X.base) I.ok.mod.kin (by rw [hK]; exact T.me.kp) (thn (ha.pa.run pos pins s1 σ H1 _ I1 (stepP (G := G) (W := W) (R := RL G) sm1 en1 p1)) fun us s2 ⟨vs', H2, I2, r', r2, h2, ds, g2, sm2, en2, rs, p2⟩ => ⟨I2.kIn, ?_⟩) hst hpl
    exact run_fnS (E := WE W) (us := .ref a :: us) (vs := .ref a :: vs') F hr hb (passAt tk σ) I2 (.cons rfl r') ⟨r2, h2, d :: ds, sm2, .cons (rd.mono g2) rs, p2⟩
  · exact p1.elim
theorem se_own0 {c : Nat} {mn : Str} {pl : Sem Bool} (hK : X.K = G.K) (T : ClsM G c mn f) (hnf : mn ∉ G.fn) (F : FnOk X.prog X.w X.K X.mg X.base (L2.CX X.prog X.w) k f fd ps (spM G m)) (hr : Room k X.A) (tk : Takes X W) (hb : Binds X.K fd ps []) (ho : SE G X W z ma)
    (ht : eval (.Call (.Attribute z mn apos) [] [] pos) X.env = (do
      let ov ← eval z X.env
      standAt apos.atName
      let (f, first) ← holding [ov] (getMethod ov mn pl)
      callWith pos f first (backTo pos (starEach [] X.env)) (backToKw pos (keywordEach [] X.env))) := by rfl) :
    SE G X W (.Call (.Attribute z mn apos) [] [] pos) (mOwn c m ma mNil) := by
  refine ⟨⟨fun pins s σ H Q I u => ?_⟩⟩
  obtain ⟨r, h, e, sm, en, p⟩ := u
  have u1 := stepP (G := G) (W := W) (R := RD G) sm en p
  refine PySem.W.methodCall_KW (pl := pl) (thn (ho.pe.run pins s σ H _ I u1) fun u s1 ⟨v, H1, I1, rx, r1, h1, d, g1, sm1, en1, rd, p1⟩ => ?_) ht
  split at p1
  · rename_i ci
    obtain ⟨a, dx, vs, fs, ev, ea, fr⟩ := ins_at sm1 rd ci
    subst ev
    obtain rfl : u = Value.ref a := rx
    refine getmeth_ok I1 ea (by rw [hK]; exact T.cl) (by rw [hK]; exact T.me) (fs_none hnf fr) ?_
    exact PySem.W.callWith_K0 (first := [.ref a]) I1.kIn (by rw [hK]; exact T.me.kp) (run_fnS (E := WE W) (us := [.ref a]) (vs := [.ref a]) F hr hb (passAt tk σ) I1 (.cons rfl .nil) ⟨r1, h1, [d], sm1, .cons rd .nil, p1⟩)
  · exact p1.elim
/-! ### C(..): an own class is called -/
def mMake (c : Nat) (m : List D → Hm → Re D) (a : MA) : ME := fun e h => (a e h).bind fun ds h1 => (m (.ref h1.length :: ds) (h1 ++ [.ins c []])).bind fun d h2 => match d with
  | .non => .ok (.ref h1.length) h2
  | _ => .no
theorem run_makeS {pins : List (Addr × Obj)} {σ : L2.St} {H : Hp} {s : Shared} {Q : VK} {us : List Value} {vs : List V} {CX : CXT} {sp : Sp} {E : XK} (M : Mk X.K C f) (F : FnOk X.prog X.w X.K X.mg X.base CX k f fd ps sp) (hr : Room (k + 1) X.A) (hb : Binds X.K fd ps [])
    (hx : PassesAt CX X σ E) (I : Inv X pins σ H s) (r : Vals vs us)
    (h : ∀ x dx, H x = none → H dx = none → dx ≠ x → sp (.ref x :: vs) (upd (upd H dx (.own x)) x (.ins C dx [])) (fun v H2 => v = .non ∧ Q (.ref x) H2) E) :
    wpAny (model X.prog X.w) X.A (call (.ref C) us) (EP X pins σ Q) X.xe s := by
  have hq := h (s.heap.objs.size + 1) s.heap.objs.size (I.hok.fresh (Nat.le_succ _)) (I.hok.fresh (Nat.le_refl _)) (Nat.ne_of_lt (Nat.lt_succ_self _))
  have I2 := Inv.made (C := C) I
  have r2 : Vals (V.ref (s.heap.objs.size + 1) :: vs) (Value.ref (s.heap.objs.size + 1) :: us) := .cons rfl r
  have hl : ((Value.ref (s.heap.objs.size + 1) :: us) ++ []).length = ps.length := by
    have e := r2.length
    rw [F.len _ _ _ _ hq] at e
    rw [List.append_nil]
    exact e.symm
  have hb2 := hb _ (Value.ref (s.heap.objs.size + 1) :: us) I2.kIn hl
  rw [List.append_nil] at hb2
  refine wpAny_call (make_map (f := f) I.kIn M.makes M.init (beq_iff_eq.mp M.fn) (codeAny_mono (F.run _ X.stack _ _ ⟨Value.ref (s.heap.objs.size + 1) :: us, []⟩ (Value.ref (s.heap.objs.size + 1) :: us) _ _ E (hr.make C us [])
    (I2.env0.make C us []) hb2 r2 hq) fun r s' hq' => ?_))
  cases r with
  | error e => exact hx pins _ _ e s' I2 hq'
  | ok fl =>
    cases fl with
    | ret u =>
      obtain ⟨v, H', I3, rv, ev, q3⟩ := I2.after hq'
      subst ev
      exact ⟨rv, ⟨V.ref (s.heap.objs.size + 1), H', I3, rfl, q3⟩⟩
    | next => exact False.elim hq'
    | brk => exact False.elim hq'
    | cont => exact False.elim hq'
theorem make_of {c : Nat} {W' : XK} {Q : VK} {ds : List D} {vs : List V} (hC : C = G.ga c) (s : Sim G r H h) (rs : Reps G r H ds vs) (p : Post G W' (RD G) r H ((m (.ref h.length :: ds) (h ++ [.ins c []])).bind fun d h2 => match d with
  | .non => .ok (.ref h.length) h2
  | _ => .no) Q) : ∀ x dx, H x = none → H dx = none → dx ≠ x → spM G m (.ref x :: vs) (upd (upd H dx (.own x)) x (.ins C dx [])) (fun v H2 => v = .non ∧ Q (.ref x) H2) W' := by
  intro x dx hx hdx hne
  subst hC
  have hx' : upd H dx (.own x) x = none := by rw [upd_ne (Ne.symm hne)]; exact hx
  have s1 : Sim G r (upd H dx (.own x)) h := s.fresh hdx
  have g1 : Gr G r H r (upd H dx (.own x)) := gr_fresh hdx
  have g2 : Gr G r (upd H dx (.own x)) (r ++ [x]) (upd (upd H dx (.own x)) x (.ins (G.ga c) dx [])) := gr_new hx'
  have s2 : Sim G (r ++ [x]) (upd (upd H dx (.own x)) x (.ins (G.ga c) dx [])) (h ++ [.ins c []]) := s1.new (ob := .ins c []) hx' ⟨dx, [], upd_same, .nil⟩
  refine ⟨r ++ [x], _, _, s2, .cons (.ref (new_at s1 x)) (rs.mono (g1.trans g2)), ?_⟩
  have p2 := Post.mono (g1.trans g2) p
  refine Post.weak (Post.bind (R := RD G) p2) ?_
  rintro v H' ⟨r3, h3, d, g3, s3, rd, p3⟩
  cases rd with
  | non => exact ⟨rfl, p3 (.ref x) H' r3 Gr.refl s3 (.ref (g3.pre _ _ (new_at s1 x)))⟩
  | _ => exact p3.elim
theorem se_make {c : Nat} (M : Mk X.K C f) (hC : C = G.ga c) (F : FnOk X.prog X.w X.K X.mg X.base (L2.CX X.prog X.w) k f fd ps (spM G m)) (hr : Room (k + 1) X.A) (tk : Takes X W) (hm : X.mg n = some (.ref C)) (hb : Binds X.K fd ps []) (ha : SA G X W (x :: xs) ms)
    (hg : Gl X n := by rfl) (hdb : (n == ("__debug__" : Str)) = false := by decide) (he : starEach (x :: xs) X.env = (false, eval x X.env) :: starEach xs X.env := by rfl) (hpl : (backTo pos (starEach xs X.env)).any (·.1) = false := by rfl) :
    SE G X W (.Call (.Name n np) (x :: xs) [] pos) (mMake c m ms) := by
  refine ⟨⟨fun pins s σ H Q I u => ?_⟩⟩
  obtain ⟨r, h, e, sm, en, p⟩ := u
  refine wpAny_Call_Name_kw (ld_glob I hg hm ?_ hdb)
  refine PySem.W.callWith_K (h₀ := X.base) I.ok.mod.kin M.kp (thn (ha.pa.run pos pins s σ H _ I (stepP (G := G) (W := W) (R := RL G) sm en p)) fun us s1 ⟨vs, H1, I1, r', r1, h1, ds, g1, sm1, en1, rs, p1⟩ => ⟨I1.kIn, ?_⟩) he hpl
  exact run_makeS (E := WE W σ) M F hr hb (passAt tk σ) I1 r' (make_of hC sm1 rs p1)
theorem se_make0 {c : Nat} (M : Mk X.K C f) (hC : C = G.ga c) (F : FnOk X.prog X.w X.K X.mg X.base (L2.CX X.prog X.w) k f fd ps (spM G m)) (hr : Room (k + 1) X.A) (tk : Takes X W) (hm : X.mg n = some (.ref C)) (hb : Binds X.K fd ps [])
    (hg : Gl X n := by rfl) (hdb : (n == ("__debug__" : Str)) = false := by decide) : SE G X W (.Call (.Name n np) [] [] pos) (mMake c m mNil) := by
  refine ⟨⟨fun pins s σ H Q I u => ?_⟩⟩
  obtain ⟨r, h, e, sm, en, p⟩ := u
  refine wpAny_Call_Name_kw (ld_glob I hg hm ?_ hdb)
  exact PySem.W.callWith_K0 I.kIn M.kp (run_makeS (E := WE W σ) (us := []) M F hr hb (passAt tk σ) I .nil (make_of hC sm (vs := []) .nil p))
end
end L2.Lv
end
section
set_option maxRecDepth 100000
set_option maxHeartbeats 4000000
set_option autoImplicit false
namespace L2.Lv
open PySem PySem.Spec PyProof.Rows

/-! ### own dunders -/
def noEx {α : Type} : Re α → Re α
  | .ex _ _ _ => .no
  | x => x
def never : XK := fun _ _ _ => False
theorem post_noEx {α β : Type} {G : Gx} {W W' : XK} {R : List Addr → Hp → α → β → Prop} {r : List Addr} {H : Hp} {x : Re α} {Q : β → Hp → Prop} (p : Post G W R r H (noEx x) Q) : Post G W' R r H x Q := by
  cases x with
  | ok a h => exact p
  | ex c v h => exact p.elim
  | no => exact p.elim
section
variable {G : Gx} {X : Cx} {W : WX} {x y z tg : Expr} {xs : List Expr} {ma mb mc : ME} {mt mu : MT} {ms : MA} {pos : Pos} {st : Stmt} {sts : List Stmt} {a b : MS} {r : List Addr} {H : Hp} {h : Hm}
variable {k : Nat} {f C : Addr} {fd : FuncData} {ps : List Str} {n : Str} {np apos : Pos} {m : List D → Hm → Re D}
theorem run_in {A : Around} {pins : List (Addr × Obj)} {σ : L2.St} {H : Hp} {s : Shared} {Q : VK} {us : List Value} {vs : List V} {sp : Sp} (F : FnOk X.prog X.w X.K X.mg X.base (L2.CX X.prog X.w) k f fd ps sp) (hr : Room k A) (e0 : Env0 X.prog X.w X.K X.mg X.base A X.stack s H) (hb : Binds X.K fd ps [])
    (I : Inv X pins σ H s) (r : Vals vs us) (h : sp vs H Q never) : wpAny (model X.prog X.w) A (call (.ref f) us) (EP X pins σ Q) X.xe s := by
  have hl : us.length = ps.length := by rw [← r.length]; exact F.len _ _ _ _ h
  have b := hb s us I.kIn (by rw [List.append_nil]; exact hl)
  rw [List.append_nil] at b
  refine wpAny_call (codeAny_mono (F.run A X.stack s H ⟨us, []⟩ us vs Q never hr e0 b r h) fun r s' hq => ?_)
  cases r with
  | error e => exact (let ⟨_, _, _, _, _, _, _, _, _, _, _, _, w⟩ := hq; w.elim)
  | ok fl =>
    cases fl with
    | ret u => exact I.after hq
    | next => exact False.elim hq
    | brk => exact False.elim hq
    | cont => exact False.elim hq
/-- a special method of an own class -/
structure ClsD (G : Gx) (c : Nat) (mn : Str) (f : Addr) : Prop where
  at_ : PySem.W.findIn G.K (.ref (G.ga c)) mn = some (some (.ref f))
  fn : PySem.W.isFn G.K (.ref f) = true
def pLenO (c : Nat) (m : List D → Hm → Re D) (as : List D) (h : Hm) : Re D := match as with
  | [d] => if isIns c h d = true then (noEx (m [d] h)).bind fun v h1 => match v with
    | .int i => if 0 ≤ i ∧ i < 2 ^ 63 then .ok (.int i) h1 else .no
    | _ => .no
    else .no
  | _ => .no
def rOwnC (G : Gx) (c : Nat) (m : List D → Hm → Re D) (ok : VK → VK) : List V → Hp → VK → Prop := fun xs H Q => ∃ a dx fs, xs = [.ref a] ∧ H a = some (.ins (G.ga c) dx fs) ∧ spM G m [.ref a] H (ok Q) never
theorem call_lenOwn {c : Nat} (hK : X.K = G.K) (T : ClsD G c "__len__" f) (F : FnOk X.prog X.w X.K X.mg X.base (L2.CX X.prog X.w) k f fd ps (spM G m)) (hr : Room (k + 1) X.A) (hb : Binds X.K fd ps []) :
    CallR X (.builtin "len") (rOwnC G c m fun Q v H' => ∃ i, v = .int i ∧ (0 ≤ i ∧ i < 2 ^ 63) ∧ Q (.int i) H') := by
  intro pins s σ H xs us Q I r hq
  obtain ⟨a, dx, fs, rfl, ea, q⟩ := hq
  obtain ⟨u, rfl, ru⟩ := r.one
  cases (show u = Value.ref a from ru)
  obtain ⟨mA, O, _⟩ := ins_get I.hok ea
  obtain ⟨od, J, _⟩ := O.look
  obtain ⟨mf, hF⟩ := I.fr
  refine PySem.W.len_K hF I.ok.mod.kin J (by rw [hK]; exact T.at_) (by rw [hK]; exact T.fn) (wpAny_mono (run_in (us := [.ref a]) (vs := [.ref a]) F hr.in1 I.env0.in1 hb I (.cons rfl .nil) q) (fun w s' z => ?_) fun _ _ x => x)
  obtain ⟨v, H', I', rz, i, ei, bi, qz⟩ := z
  subst ei
  obtain ⟨t, e⟩ := (show ∃ t, w = Value.int i t from rz)
  cases e
  exact ⟨bi, .int i, H', I'.tok _, ⟨_, rfl⟩, qz⟩
theorem primC_lenO {c : Nat} : PrimC G (rOwnC G c m fun Q v H' => ∃ i, v = .int i ∧ (0 ≤ i ∧ i < 2 ^ 63) ∧ Q (.int i) H') (pLenO c m) := by
  intro W r H h as xs Q s ra p
  unfold pLenO at p
  split at p
  · rename_i d
    cases ra with
    | cons q t =>
      cases t
      split at p
      · rename_i ci
        obtain ⟨a, dx, vs, fs, ev, ea, fr⟩ := ins_at s q ci
        subst ev
        refine ⟨a, dx, vs, rfl, ea, r, h, [d], s, .cons q .nil, ?_⟩
        refine post_noEx (Post.weak (Post.bind (R := RD G) p) ?_)
        rintro v H1 ⟨r1, h1, d1, g1, s1, rd1, p1⟩
        cases rd1 with
        | int i =>
          simp only at p1
          split at p1
          · rename_i bi
            exact ⟨i, rfl, bi, p1 _ H1 r1 Gr.refl s1 (.int i)⟩
          · exact p1.elim
        | _ => exact p1.elim
      · exact p.elim
  · exact p.elim

/-! ### kinds -/
def kd (h : Hm) : D → Nat
  | .non => 0
  | .bl _ => 1
  | .int _ => 2
  | .str _ => 3
  | .tup _ => 4
  | .ref i => match h[i]? with
    | some (.lst _) => 5
    | some (.frz _) => 5
    | some (.dk _) => 6
    | some (.ins c _) => 7 + c
    | none => 0
def kdV (G : Gx) : Nat → Value
  | 0 => .type "NoneType"
  | 1 => .type "bool"
  | 2 => .type "int"
  | 3 => .type "str"
  | 4 => .type "tuple"
  | 5 => .type "list"
  | 6 => .type "dict"
  | n + 7 => .ref (G.ga n)
structure ClsI (G : Gx) (c : Nat) : Prop where
  cl : Cls G.K (G.ga c)
  ca : PySem.W.findIn G.K (.ref (G.ga c)) "__class__" = some (some (.builtin "object.__class__"))
  ob : PySem.W.mroIn G.K (G.ga c) (.type "object") = some true
structure Kinds (G : Gx) (n : Nat) : Prop where
  cn : PySem.W.specialIn G.K (.builtin "object.__class__") "__get__" = some (some (.builtin "getset_descriptor.__get__"))
  ct : PySem.W.takesIn G.K (.builtin "object.__class__") = some true
  ci : ∀ c, c < n → ClsI G c
theorem tyx_tup {K : PySem.W.Frag} {H : Hp} {a : Addr} {vs : List V} (q : SqT K H a vs) : TyX K H (.ref a) (.type "tuple") := by
  rcases q with (q | ⟨o, q⟩) | ⟨o, its, n, q, q2, _⟩
  · exact .base (.tup q)
  · exact .fTuple q
  · exact .kTuple q q2
theorem tyx_of {nc : Nat} (N : Kinds G nc) {d : D} {v : V} (s : Sim G r H h) (q : Rep G r H d v) (e : kd h d < 7 + nc) : TyX G.K H v (kdV G (kd h d)) := by
  cases q with
  | non => exact .base .non
  | bl b => exact .base (.bl b)
  | int i => exact .base (.int i)
  | str t => exact .base (.str _)
  | tup h1 h2 => exact tyx_tup h1
  | ref hn =>
    obtain ⟨ob, e1, o⟩ := s.get hn
    simp only [kd, e1] at e ⊢
    cases ob with
    | lst xs => obtain ⟨vs, q1, _⟩ := o; exact .base (.lst q1)
    | frz xs => obtain ⟨p, vs, q1, _⟩ := o; exact .base (.frz q1)
    | dk kvs => obtain ⟨vs, q1, _⟩ := o; exact .base (.dK q1)
    | ins c fs =>
      obtain ⟨dx, vs, q1, _⟩ := o
      have hc : c < nc := by
        have e : 7 + c < 7 + nc := e
        omega
      have z := N.ci c hc
      show TyX G.K H _ (kdV G (7 + c))
      rw [Nat.add_comm]
      exact .base (.ins q1 z.cl z.ca N.cn N.ct z.ob)
def pIsi (nc : Nat) (ks : List Nat) (d : D) (h : Hm) : Re D := if kd h d < 7 + nc then .ok (.bl (ks.contains (kd h d))) h else .no
def mUn (p : D → Hm → Re D) (a : ME) : ME := fun e h => (a e h).bind p
/-- isinstance(x, T) -/
theorem se_isi {nc : Nat} {ks : List Nat} {cv : V} {cu : Value} {ip : Pos} (N : Kinds G nc) (hK : X.K = G.K) (ho : PE X y (tC cv)) (hv : ClsV cv cu) (hks : ∀ j, j < 7 + nc → PySem.W.kitOne G.K (kdV G j) cu = some (ks.contains j)) (ha : SE G X W x ma)
    (hg : Gl X "isinstance") (hm : X.mg "isinstance" = none)
    (he : starEach [x, y] X.env = (false, eval x X.env) :: starEach [y] X.env := by rfl) (he2 : starEach [y] X.env = (false, eval y X.env) :: starEach [] X.env := by rfl) (hpl : (backTo pos (starEach [y] X.env)).any (·.1) = false := by rfl) :
    SE G X W (.Call (.Name "isinstance" ip) [x, y] [] pos) (mUn (pIsi nc ks) ma) := by
  refine ⟨pe_imp (pe_callB call_isi hg hm (by decide +kernel) (pa_cons ha.pe (pa_cons ho pa_nil he2) he) (by decide) (by decide) he hpl) fun σ H Q u => ?_⟩
  obtain ⟨r, h, e, s, en, p⟩ := u
  refine uG_weak (stepP s en p) ?_
  rintro v H1 ⟨r1, h1, a, g1, s1, en1, ra, p1⟩
  unfold pIsi at p1
  split at p1
  · rename_i c
    exact ⟨v, cv, _, cu, _, rfl, hv, by rw [hK]; exact tyx_of N s1 ra c, by rw [hK]; exact hks _ c, p1 _ H1 r1 Gr.refl s1 (.bl _)⟩
  · exact p1.elim
/-- written classes -/
structure CA (X : Cx) (es : List Expr) (cs : List V) (us : List Value) : Prop where
  pa : PA X es (fun _ H Q => Q cs H)
  ok : Paired ClsV cs us
theorem ca_nil : CA X [] [] [] := ⟨pa_nil, .nil⟩
theorem ca_cons {cv : V} {cu : Value} {cs : List V} {us : List Value} (ho : PE X y (tC cv)) (hv : ClsV cv cu) (h : CA X xs cs us) (he2 : starEach (y :: xs) X.env = (false, eval y X.env) :: starEach xs X.env := by rfl) : CA X (y :: xs) (cv :: cs) (cu :: us) :=
  ⟨pa_imp (pa_cons ho h.pa he2) fun _ _ _ q => q, .cons hv h.ok⟩
/-- isinstance(x, (T, ..)) -/
theorem se_isiT {nc : Nat} {ks : List Nat} {cs : List V} {us : List Value} {ip tp : Pos} {kt : Nat} (N : Kinds G nc) (hK : X.K = G.K) (ho : CA X xs cs us) (hl : cs.length ≤ 100) (hks : ∀ j, j < 7 + nc → PySem.W.kitAny G.K (kdV G j) us = some (ks.contains j)) (ha : SE G X W x ma)
    (hg : Gl X "isinstance") (hm : X.mg "isinstance" = none)
    (he : starEach [x, .Tuple xs kt tp] X.env = (false, eval x X.env) :: starEach [.Tuple xs kt tp] X.env := by rfl) (he2 : starEach [.Tuple xs kt tp] X.env = (false, eval (.Tuple xs kt tp) X.env) :: starEach [] X.env := by rfl) (hpl : (backTo pos (starEach [.Tuple xs kt tp] X.env)).any (·.1) = false := by rfl) :
    SE G X W (.Call (.Name "isinstance" ip) [x, .Tuple xs kt tp] [] pos) (mUn (pIsi nc ks) ma) := by
  refine ⟨pe_imp (pe_callB call_isiT hg hm (by decide +kernel) (pa_cons ha.pe (pa_cons (pe_tup ho.pa) pa_nil he2) he) (by decide) (by decide) he hpl) fun σ H Q u => ?_⟩
  obtain ⟨r, h, e, s, en, p⟩ := u
  refine uG_weak (stepP s en p) ?_
  rintro v H1 ⟨r1, h1, a, g1, s1, en1, ra, p1⟩
  refine ⟨by rw [sizeLine_eq]; omega, fun q hq => ?_⟩
  unfold pIsi at p1
  split at p1
  · rename_i c
    have s2 : Sim G r1 (upd H1 q (.tup cs)) h1 := s1.fresh hq
    exact ⟨v, q, cs, _, us, _, rfl, upd_same, ho.ok, by rw [hK]; exact tyx_of N s2 (ra.mono (gr_fresh hq)) c, by rw [hK]; exact hks _ c, p1 _ _ r1 (gr_fresh hq) s2 (.bl _)⟩
  · exact p1.elim
/-! ### ==, in, [..] of an own class -/
def pEqO (c nc : Nat) (m : List D → Hm → Re D) (a b : D) (h : Hm) : Re D := if isIns c h a = true ∧ kd h b < 7 + nc then noEx (m [a, b] h) else .no
def rOwn2 (G : Gx) (c nc : Nat) (m : List D → Hm → Re D) : R2 := fun x y H Q => ∃ a dx fs j, x = .ref a ∧ H a = some (.ins (G.ga c) dx fs) ∧ TyX G.K H y (kdV G j) ∧ j < 7 + nc ∧ spM G m [x, y] H Q never
theorem op_eqOwn {c nc : Nat} (hK : X.K = G.K) (T : ClsD G c "__eq__" f) (hn : ∀ j, j < 7 + nc → PySem.W.notFirst G.K (G.ga c) (kdV G j) = true) (F : FnOk X.prog X.w X.K X.mg X.base (L2.CX X.prog X.w) k f fd ps (spM G m)) (hr : Room k X.A) (hb : Binds X.K fd ps []) : OpR X (compareOp .Eq) (rOwn2 G c nc m) := by
  intro pins s σ H x y v u Q I rx ry h
  obtain ⟨a, dx, fs, j, rfl, ea, ty, hj, q⟩ := h
  cases (show v = Value.ref a from rx)
  obtain ⟨mA, O, _⟩ := ins_get I.hok ea
  obtain ⟨od, J, _⟩ := O.look
  obtain ⟨mf, hF⟩ := I.fr
  rw [← hK] at ty
  obtain ⟨P, Z, p, hx⟩ := kit_of I ry ty
  show wpAny _ _ (richCompare .Eq _ _) _ _ _
  refine PySem.W.cmp_K (op := .Eq) hr.units0 hF I.ok.mod.kin J (Z.ty _ _ I.kIn p) (by rw [hK]; exact hn j hj) (by rw [hK]; exact T.at_) (by rw [hK]; exact T.fn) ?_
  refine wpAny_mono (run_in (us := [.ref a, u]) (vs := [.ref a, y]) F hr I.env0 hb I (.cons rfl (.cons ry .nil)) q) (fun w s' z => ?_) fun _ _ x => x
  obtain ⟨z', H', I', rz, qz⟩ := z
  exact SlX.cmpback rz ⟨z', H', I', rz, qz⟩
theorem prim_eqO {c nc : Nat} (N : Kinds G nc) : Prim2 G (rOwn2 G c nc m) (pEqO c nc m) := by
  intro W r H h a b x y Q s ra rb p
  unfold pEqO at p
  split at p
  · rename_i ci
    obtain ⟨ad, dx, vs, fs, ev, ea, fr⟩ := ins_at s ra ci.1
    subst ev
    exact ⟨ad, dx, vs, kd h b, rfl, ea, tyx_of N s rb ci.2, ci.2, r, h, [a, b], s, .cons ra (.cons rb .nil), post_noEx p⟩
  · exact p.elim
/-- x in o -/
def pInO (neg : Bool) (c : Nat) (m : List D → Hm → Re D) (a b : D) (h : Hm) : Re D := if isIns c h b = true then (noEx (m [b, a] h)).bind fun v h1 => match v with
  | .bl t => .ok (.bl (if neg then !t else t)) h1
  | _ => .no
  else .no
def rInO (G : Gx) (c : Nat) (neg : Bool) (m : List D → Hm → Re D) : R2 := fun x y H Q => ∃ a dx fs, y = .ref a ∧ H a = some (.ins (G.ga c) dx fs) ∧ spM G m [y, x] H (fun v H' => ∃ t, v = .bl t ∧ Q (.bl (if neg then !t else t)) H') never
theorem op_inOwn {c : Nat} (hK : X.K = G.K) (T : ClsD G c "__contains__" f) (F : FnOk X.prog X.w X.K X.mg X.base (L2.CX X.prog X.w) k f fd ps (spM G m)) (hr : Room k X.A) (hb : Binds X.K fd ps []) : OpR X (compareOp .In) (rInO G c false m) := by
  intro pins s σ H x y v u Q I rx ry h
  obtain ⟨a, dx, fs, rfl, ea, q⟩ := h
  cases (show u = Value.ref a from ry)
  obtain ⟨mA, O, _⟩ := ins_get I.hok ea
  obtain ⟨od, J, _⟩ := O.look
  obtain ⟨mf, hF⟩ := I.fr
  refine PySem.W.in_K hF I.ok.mod.kin J (by rw [hK]; exact T.at_) (by rw [hK]; exact T.fn) ?_
  refine wpAny_mono (run_in (us := [.ref a, v]) (vs := [.ref a, x]) F hr I.env0 hb I (.cons rfl (.cons rx .nil)) q) (fun w s' z => ?_) fun _ _ x => x
  obtain ⟨z', H', I', rz, t, et, qz⟩ := z
  subst et
  cases (show w = Value.bool t from rz)
  exact wpAny_truthy_bool ⟨.bl t, H', I', rfl, qz⟩
theorem op_notInOwn {c : Nat} (hK : X.K = G.K) (T : ClsD G c "__contains__" f) (F : FnOk X.prog X.w X.K X.mg X.base (L2.CX X.prog X.w) k f fd ps (spM G m)) (hr : Room k X.A) (hb : Binds X.K fd ps []) : OpR X (compareOp .NotIn) (rInO G c true m) := by
  intro pins s σ H x y v u Q I rx ry h
  obtain ⟨a, dx, fs, rfl, ea, q⟩ := h
  cases (show u = Value.ref a from ry)
  obtain ⟨mA, O, _⟩ := ins_get I.hok ea
  obtain ⟨od, J, _⟩ := O.look
  obtain ⟨mf, hF⟩ := I.fr
  refine PySem.W.notIn_K hF I.ok.mod.kin J (by rw [hK]; exact T.at_) (by rw [hK]; exact T.fn) ?_
  refine wpAny_mono (run_in (us := [.ref a, v]) (vs := [.ref a, x]) F hr I.env0 hb I (.cons rfl (.cons rx .nil)) q) (fun w s' z => ?_) fun _ _ x => x
  obtain ⟨z', H', I', rz, t, et, qz⟩ := z
  subst et
  cases (show w = Value.bool t from rz)
  exact wpAny_truthy_bool ⟨.bl (!t), H', I', rfl, qz⟩
theorem prim_inO {c : Nat} {neg : Bool} : Prim2 G (rInO G c neg m) (pInO neg c m) := by
  intro W r H h a b x y Q s ra rb p
  unfold pInO at p
  split at p
  · rename_i ci
    obtain ⟨ad, dx, vs, fs, ev, ea, fr⟩ := ins_at s rb ci
    subst ev
    refine ⟨ad, dx, vs, rfl, ea, r, h, [b, a], s, .cons rb (.cons ra .nil), ?_⟩
    refine post_noEx (Post.weak (Post.bind (R := RD G) p) ?_)
    rintro v H1 ⟨r1, h1, d1, g1, s1, rd1, p1⟩
    cases rd1 with
    | bl t => exact ⟨t, rfl, p1 _ H1 r1 Gr.refl s1 (.bl _)⟩
    | _ => exact p1.elim
  · exact p.elim
/-- o[i]: may raise -/
def pGetO (c : Nat) (m : List D → Hm → Re D) (a b : D) (h : Hm) : Re D := if isIns c h a = true then m [a, b] h else .no
def mGetO (c : Nat) (m : List D → Hm → Re D) (a b : ME) : ME := mBin (pGetO c m) a b
theorem run_inS {A : Around} {pins : List (Addr × Obj)} {σ : L2.St} {H : Hp} {s : Shared} {Q : VK} {us : List Value} {vs : List V} {sp : Sp} (F : FnOk X.prog X.w X.K X.mg X.base (L2.CX X.prog X.w) k f fd ps sp) (hr : Room k A) (e0 : Env0 X.prog X.w X.K X.mg X.base A X.stack s H) (hb : Binds X.K fd ps [])
    (tk : Takes X W) (I : Inv X pins σ H s) (r : Vals vs us) (h : sp vs H Q (WE W σ)) : wpAny (model X.prog X.w) A (call (.ref f) us) (EP X pins σ Q) X.xe s := by
  have hl : us.length = ps.length := by rw [← r.length]; exact F.len _ _ _ _ h
  have b := hb s us I.kIn (by rw [List.append_nil]; exact hl)
  rw [List.append_nil] at b
  refine wpAny_call (codeAny_mono (F.run A X.stack s H ⟨us, []⟩ us vs Q (WE W σ) hr e0 b r h) fun r s' hq => ?_)
  cases r with
  | error e => exact passAt tk σ pins H s e s' I hq
  | ok fl =>
    cases fl with
    | ret u => exact I.after hq
    | next => exact False.elim hq
    | brk => exact False.elim hq
    | cont => exact False.elim hq
theorem se_getO {c : Nat} (hK : X.K = G.K) (T : ClsD G c "__getitem__" f) (hfn : PySem.W.fnIn G.K f = true) (F : FnOk X.prog X.w X.K X.mg X.base (L2.CX X.prog X.w) k f fd ps (spM G m)) (hr : Room (k + 1) X.A) (tk : Takes X W) (hb : Binds X.K fd ps []) (ha : SE G X W x ma) (hb2 : SE G X W y mb)
    (hsl : ∀ o i, subscripted y true o i = runValue (.builtin "lifetime.subscript" ⟨[o, i], []⟩) := by intro _ _; with_unfolding_all rfl) :
    SE G X W (.Subscript x y pos) (mGetO c m ma mb) := by
  refine ⟨⟨fun pins s σ H Q I u => ?_⟩⟩
  obtain ⟨r, h, e, sm, en, p⟩ := u
  refine Subscript_ (thn (ha.pe.run pins s σ H _ I (stepP (G := G) (W := W) (R := RD G) sm en p)) fun u s1 ⟨v, H1, I1, rx, r1, h1, d, g1, sm1, en1, rd, p1⟩ => ?_)
  refine thn (hb2.pe.run pins s1 σ H1 _ I1 (stepP (G := G) (W := W) (R := RD G) sm1 en1 p1)) fun u2 s2 ⟨v2, H2, I2, rx2, r2, h2, d2, g2, sm2, en2, rd2, p2⟩ => ?_
  unfold pGetO at p2
  split at p2
  · rename_i ci
    obtain ⟨a, dx, vs, fs, ev, ea, fr⟩ := ins_at sm2 (rd.mono g2) ci
    subst ev
    cases (show u = Value.ref a from rx)
    obtain ⟨mA, O, _⟩ := ins_get I2.hok ea
    obtain ⟨od, J, _⟩ := O.look
    obtain ⟨mf, hF⟩ := I2.fr
    exact PySem.W.sub_K hF I2.ok.mod.kin J (by rw [hK]; exact T.at_) (by rw [hK]; exact hfn) (by rw [hK]; exact T.fn) (run_inS (us := [.ref a, u2]) (vs := [.ref a, v2]) F hr.in1 I2.env0.in1 hb tk I2 (.cons rfl (.cons rx2 .nil)) ⟨r2, h2, [d, d2], sm2, .cons (rd.mono g2) (.cons rd2 .nil), p2⟩) (hsl _ _)
  · exact p2.elim
/-! ### (*xs, ..) -/
def mStar (a : ME) (r : MA) : MA := fun e h => (a e h).bind fun x h1 => match seqOf h1 x with
  | some xs => (r e h1).bind fun ys h2 => .ok (xs ++ ys) h2
  | none => .no
theorem sa_star {sp : Pos} (hK : X.K = G.K) (ha : SE G X W x ma) (hr : SA G X W xs ms) (hs : starEach (.Starred x sp :: xs) X.env = (true, eval x X.env) :: starEach xs X.env := by rfl) : SA G X W (.Starred x sp :: xs) (mStar ma ms) := by
  refine ⟨pa_imp (StX.pa_star ha.pe hr.pa hs) fun σ H Q u => ?_⟩
  obtain ⟨r, h, e, s, en, p⟩ := u
  refine uG_weak (stepP s en p) ?_
  rintro v H1 ⟨r1, h1, a, g1, s1, en1, ra, p1⟩
  split at p1
  · rename_i ds ed
    obtain ⟨ad, us, rfl, e2, e3⟩ := seq_rep s1 ra ed
    refine ⟨ad, us, rfl, by rw [hK]; exact e2.symm, ?_⟩
    refine uG_weak (stepP s1 en1 p1) ?_
    rintro vs H2 ⟨r2, h2, as, g2, s2, en2, rs, p2⟩
    exact p2 _ H2 r2 Gr.refl s2 ((e3.mono g2).append rs)
  · exact p1.elim
end
end L2.Lv
end
section
set_option maxRecDepth 100000
set_option maxHeartbeats 4000000
set_option autoImplicit false
namespace L2.Lv
open PySem PySem.Spec PyProof.Rows

/-! ### t[::-1] -/
section
variable {prog : Program} {w : World} {A : Around} {E : Value → Shared → Prop} {s : Shared}
theorem fm_congr {α β : Type} {f g : α → Option β} : ∀ {l : List α}, (∀ x ∈ l, f x = g x) → l.filterMap f = l.filterMap g
  | [], _ => rfl
  | a :: l, h => by
    have h1 := h a List.mem_cons_self
    have h2 := fm_congr (l := l) fun x hx => h x (List.mem_cons_of_mem _ hx)
    rw [List.filterMap_cons, List.filterMap_cons, h1, h2]
theorem rev_pick (xs : Array Value) : ((List.range xs.size).filterMap fun (k : Nat) => xs[(((xs.size : Int) - 1) + (k : Int) * (-1)).toNat]?).toArray = xs.toList.reverse.toArray := by
  have h := PySem.W.krv_pick xs
  unfold slicePick at h
  rw [PySem.W.krv_bounds] at h
  dsimp only at h
  rw [PySem.W.krv_sliceRange, List.filterMap_map] at h
  rw [← h]
  congr 1
  apply fm_congr
  intro k hk
  have hk := List.mem_range.mp hk
  show xs[(((xs.size : Int) - 1) + (k : Int) * (-1)).toNat]? = xs[xs.size - 1 - k]?
  congr 1
  omega
theorem places_rev (n : Nat) : Builtin.Slice.slicePlaces ((n : Int) - 1) (-1) (-1) = n := by
  unfold Builtin.Slice.slicePlaces
  have h1 : ¬ ((-1 : Int) > 0) := by decide
  simp only [h1, if_false]
  split
  · rw [show (- -1 : Int) = 1 by decide, Int.ediv_one]
    omega
  · omega
theorem sliceApplied_rev {sl : Addr} {vs : Value} {n : Nat} {Q : Int × Int × Nat → Shared → Prop} (hs : s.heap.IsSliceOf sl .none .none vs) (ps : IsPart vs (some (-1)))
    (h : Q ((n : Int) - 1, -1, n) s) : wpAny (model prog w) A (Builtin.Slice.sliceApplied (.ref sl) (pure (n : Int))) Q E s := by
  obtain ⟨os, hos, hcs, hds⟩ := id hs
  unfold Builtin.Slice.sliceApplied Builtin.Slice.sliceFields
  refine wpAny_bind (wpAny_bind (wpAny_field hos hds (x := .none) rfl (wpAny_bind (wpAny_field hos hds (x := .none) rfl (wpAny_bind (wpAny_field hos hds (x := vs) rfl (wpAny_pure ?_)))))))
  refine wpAny_bind (HT.slicePart_ ps ?_)
  show wpAny _ _ (if ((-1 : Int) == 0) = true then _ else _) _ _ s
  rw [if_neg (by decide)]
  refine wpAny_bind (HT.slicePart_ .none (wpAny_bind (HT.slicePart_ .none (wpAny_bind (wpAny_pure ?_)))))
  show wpAny _ _ (match Builtin.Slice.sliceAdjust none none (-1) (n : Int) with | (lo, hi) => pure (lo, (-1 : Int), Builtin.Slice.slicePlaces lo hi (-1))) _ _ s
  show wpAny _ _ (pure ((n : Int) - 1, (-1 : Int), Builtin.Slice.slicePlaces ((n : Int) - 1) (-1) (-1))) _ _ s
  rw [places_rev]
  exact wpAny_pure h
theorem getItem_tuple_rev {t sl : Addr} {items : Array Value} {vs : Value} {Q : Value → Shared → Prop} (ht : IsTup s.heap t items) (hs : s.heap.IsSliceOf sl .none .none vs) (ps : IsPart vs (some (-1)))
    (h : Q (.ref s.heap.objs.size) { s with heap := s.heap.push { cls := .type "tuple", data := .seq items.toList.reverse.toArray } })
    (hsz : items.size ≤ sizeLine) : wpAny (model prog w) A (getItem (.ref t) (.ref sl)) Q E s := by
  have htake : sizeOk (.seq items.toList.reverse.toArray) := by
    show items.toList.reverse.toArray.size ≤ sizeLine
    rw [List.size_toArray, List.length_reverse, Array.length_toList]
    exact hsz
  obtain ⟨os, hos, hcs, hds⟩ := id hs
  have hTs : s.TypeIs (.ref sl) "slice" := ⟨os, hos, hcs⟩
  unfold getItem
  try with_reducible refine wpAny_holding ?_
  first | refine wpAny_bind (wpAny_pure ?_) | skip
  refine wpAny_bind (wpAny_sequenceKey ht.typeIs (by decide) ?_)
  refine wpAny_bind (wpAny_callSpecial?_slot (name := Str.ofString "__getitem__") ht.typeIs PyProof.Rows.slot_tuple_getitem
    (wpAny_call_entry PyProof.Rows.slot_tuple_getitem ht.typeIs entry_tuple_getitem ?_ (args_tuple_getitem _ _)))
  show wpAny _ _ (Builtin.Tuple.tupleItemsOf (.ref t) >>= _) _ _ s
  refine wpAny_bind (PyProof.Rows.tupleItemsOf_ ht ?_)
  refine wpAny_bind (wpAny_typeOf hTs ?_)
  rw [if_pos (by decide)]
  refine wpAny_bind (sliceApplied_rev hs ps ?_)
  have hno : ¬ ((((items.size : Int) - 1) == 0 && (-1 : Int) == 1 && items.size == items.size) = true) := by
    intro q
    rw [Bool.and_eq_true, Bool.and_eq_true] at q
    exact absurd q.1.2 (by decide)
  show wpAny _ _ (if (((items.size : Int) - 1) == 0 && (-1 : Int) == 1 && items.size == items.size) = true then _ else _) _ _ s
  rw [if_neg hno, rev_pick]
  first
    | exact wpAny_bind (m := Builtin.Tuple.tupleExact _) (wpAny_newObj_type (wpAny_pure ⟨_, rfl, wpAny_pure h⟩) htake)
    | exact wpAny_bind (m := Builtin.Tuple.tupleExact _) (wpAny_newObj_type (wpAny_bind (wpAny_pure (wpAny_pure ⟨_, rfl, wpAny_pure h⟩))) htake)
    | exact wpAny_bind (wpAny_bind (m := Builtin.Tuple.tupleExact _) (wpAny_newObj_type (wpAny_pure (wpAny_pure ⟨_, rfl, wpAny_pure h⟩)) htake))
    | exact wpAny_bind (wpAny_bind (m := Builtin.Tuple.tupleExact _) (wpAny_newObj_type (wpAny_pure ⟨_, rfl, wpAny_pure h⟩) htake))
end
def tRevT (K : PySem.W.Frag) (te : TE) : TE := fun σ H Q => te σ H fun x H1 => ∃ a xs, x = .ref a ∧ SqT K H1 a xs ∧ ∀ p, H1 p = none → Q (.ref p) (upd H1 p (.tup xs.reverse))
theorem pe_revT {X : Cx} {e : Expr} {te : TE} {k : Nat} {p1 p2 p3 pos : Pos} (he : PE X e te) : PE X (.Subscript e (.Slice none none (some (.UnaryOp .USub (.Constant (.int 1) k p1) p2)) p3) pos) (tRevT X.K te) := by
  refine ⟨fun pins s σ H Q I h => ?_⟩
  refine Subscript_ (thn (he.run pins s σ H _ I h) fun v s1 ⟨x, H1, I1, r1, q1⟩ => ?_)
  obtain ⟨a, xs, ex, hx, q⟩ := q1
  subst ex
  cases r1
  have hst : PO X (some (.UnaryOp .USub (.Constant (.int 1) k p1) p2)) (tPart (tUn (rU fun i => .int (-i)) (tC (.int 1)))) := po_some (pe_un un_neg pe_int)
  refine wpAny_Slice (thn (po_none.run pins s1 σ H1 (fun o H2 => o = none ∧ H2 = H1) I1 ⟨rfl, rfl⟩) fun vl s2 ⟨l, H2, I2, pl, el, e2⟩ => ?_)
  subst el e2
  refine thn (po_none.run pins s2 σ H2 (fun o H3 => o = none ∧ H3 = H2) I2 ⟨rfl, rfl⟩) fun vu s3 ⟨u, H3, I3, pu, eu, e3⟩ => ?_
  subst eu e3
  refine thn (hst.run pins s3 σ H3 (fun o H4 => o = some (-1) ∧ H4 = H3) I3 ⟨1, rfl, -1, rfl, rfl, rfl⟩) fun vs s4 ⟨o, H4, I4, ps, eo, e4⟩ => ?_
  subst eo e4
  cases pl
  cases pu
  have I5 : Inv X pins σ H4 { s4 with heap := s4.heap.push { cls := .type "slice", data := .fields #[.none, .none, vs] } } := I4.kept (t' := s4.toks) fun b ob q => Heap.get?_push_of_some _ q
  obtain ⟨its, r, ht, hz⟩ := I5.tuple hx
  have hlen := r.length
  show wpAny (model X.prog X.w) X.A (subscriptTail e (.Slice none none (some (.UnaryOp .USub (.Constant (.int 1) k p1) p2)) p3) (.ref a) (.ref s4.heap.objs.size)) (EP X pins σ Q) X.xe { s4 with heap := s4.heap.push { cls := .type "slice", data := .fields #[.none, .none, vs] } }
  refine tail_any (ops := [.ref a, .ref s4.heap.objs.size]) ht.typeIs (PyProof.Rows.slot_tuple_getitem.lookup) ?_ (by with_unfolding_all rfl)
  refine getItem_tuple_rev ht (Heap.IsSliceOf.new _ .none .none vs) ps ?_ (by rw [List.size_toArray]; omega)
  refine ⟨.ref _, _, I5.laid (t' := s4.toks) (o := .tup xs.reverse) (fun b ob q => Heap.get?_push_of_some _ q) (Nat.le_refl _) ?_, rfl, q _ (I5.hok.fresh (Nat.le_refl _))⟩
  exact ⟨by rw [List.length_reverse]; exact hz, _, r.reverse, IsTup.new _ _⟩
section
variable {G : Gx} {X : Cx} {W : WX} {x y z tg : Expr} {xs : List Expr} {ma mb mc : ME} {mt mu : MT} {ms : MA} {pos : Pos} {r : List Addr} {H : Hp} {h : Hm}
/-- x[::-1] of a tuple or a list -/
def pRev (d : D) (h : Hm) : Re D := match d with
  | .tup xs => .ok (.tup xs.reverse) h
  | .ref n => match itemsOf h n with
    | some xs => newL xs.reverse h
    | none => .no
  | _ => .no
theorem pe_or2 {t t' : TE} (h : PE X x t) (h' : PE X x t') : PE X x (fun σ H Q => t σ H Q ∨ t' σ H Q) := ⟨fun pins s σ H Q I q => by
  rcases q with q | q
  · exact h.run pins s σ H Q I q
  · exact h'.run pins s σ H Q I q⟩
/-- known to be a tuple, known to be a list -/
def pRevT (d : D) (h : Hm) : Re D := match d with
  | .tup xs => .ok (.tup xs.reverse) h
  | _ => .no
def pRevL (d : D) (h : Hm) : Re D := match d with
  | .ref n => match itemsOf h n with
    | some xs => newL xs.reverse h
    | none => .no
  | _ => .no
theorem se_revT {k : Nat} {p1 p2 p3 : Pos} (hK : X.K = G.K) (ha : SE G X W x ma) : SE G X W (.Subscript x (.Slice none none (some (.UnaryOp .USub (.Constant (.int 1) k p1) p2)) p3) pos) (mUn pRevT ma) := by
  refine ⟨pe_imp (pe_revT ha.pe) fun σ H Q u => ?_⟩
  obtain ⟨r, h, e, s, en, p⟩ := u
  refine uG_weak (stepP s en p) ?_
  rintro v H1 ⟨r1, h1, a, g1, s1, en1, ra, p1⟩
  cases ra with
  | tup q1 q2 => exact ⟨_, _, rfl, by rw [hK]; exact q1, fun q hq => p1 _ _ r1 (gr_fresh hq) (s1.fresh hq) (.tup (SqT.of upd_same) (q2.reverse.mono (gr_fresh hq)))⟩
  | _ => exact p1.elim
theorem se_revL {k : Nat} {p1 p2 p3 : Pos} (hK : X.K = G.K) (ha : SE G X W x ma) : SE G X W (.Subscript x (.Slice none none (some (.UnaryOp .USub (.Constant (.int 1) k p1) p2)) p3) pos) (mUn pRevL ma) := by
  refine ⟨pe_imp (pe_revL ha.pe) fun σ H Q u => ?_⟩
  obtain ⟨r, h, e, s, en, p⟩ := u
  refine uG_weak (stepP s en p) ?_
  rintro v H1 ⟨r1, h1, a, g1, s1, en1, ra, p1⟩
  cases ra with
  | ref hn =>
    simp only [pRevL] at p1
    split at p1
    · rename_i xs e1
      obtain ⟨vs, q1, q2⟩ := items_seq s1 hn e1
      exact ⟨_, vs, rfl, by rw [hK]; exact q1, (post_newL s1 q2.reverse p1).2⟩
    · exact p1.elim
  | _ => exact p1.elim
end
/-! ### l.extend(t) -/
open Builtin in
set_option maxRecDepth 8000 in
theorem extend_tup (l : Addr) (items : Array Value) (n : Nat) (b : Addr) (items2 : Array Value) (n2 : Nat) (dd : Option Addr) (sl : Array (Option Value)) (hs0 : ¬(!items.isEmpty && Builtin.List.listTooLong (items.size + items2.size)) = true) (hs1 : items.size ≤ sizeLine) (hs2 : items.size + items2.size ≤ sizeLine + 1) :
    Meets (Builtin.«list.extend» ⟨[.ref l, .ref b], []⟩) (fun _ R s => s.heap.get? l = some { cls := .type "list", dict := none, data := .seq items n, slots := #[] } ∧ s.heap.get? b = some { cls := .type "tuple", dict := dd, data := .seq items2 n2, slots := sl } ∧ R (.ok (.ret Value.none)) { s with heap := s.heap.update l (Obj.mapSeq fun x => x ++ items2), toks := s.toks }) :=
  .of_wp fun prog w A R s h => by
    obtain ⟨hp, g, d, tk, os⟩ := s
    obtain ⟨hl, hb, h⟩ := h
    have z1 := AutoSeq1.idx_int
    have z2 := AutoSeq1.sub_tuple_tuple
    have z3 := AutoSeq1.sub_list_list
    have z4 := AutoSeq1.sub_tuple_list
    have z5 := AutoSeq1.sub_list_tuple
    have hz' : (items ++ items2).size ≤ sizeLine + 1 := by rw [Array.size_append]; exact hs2
    wp_walk using (wpAny_updateSeq hl rfl (hz := hs1) (_hz' := hz')), AutoSeq1.wpAny_loadPart' hl, AutoSeq1.wpAny_loadPart' hb; exact ⟨_, rfl, h⟩
def rExtendT (K : PySem.W.Frag) : V → List V → Hp → VK → Prop := fun x vs H Q => ∃ l b xs zs, x = .ref l ∧ vs = [.ref b] ∧ H l = some (.lst xs) ∧ SqT K H b zs ∧ xs.length + zs.length ≤ sizeLine ∧ Q .non (upd H l (.lst (xs ++ zs)))
theorem mt_extendT {X : Cx} : MtR X "list.extend" (rExtendT X.K) := by
  intro pins s σ H x vs v us Q I rx rv h
  obtain ⟨l, b, xs, zs, rfl, rfl, hH, hB, hz, q⟩ := h
  cases rx
  obtain ⟨u, rfl, ru⟩ := rv.one
  cases ru
  obtain ⟨z, its, n, r, hl, e⟩ := I.lstM hH
  obtain ⟨its2, r2, ht, hz2⟩ := I.tuple hB
  obtain ⟨o, e2, hc, n2, hd⟩ := ht
  obtain ⟨c0, dd, da, sl⟩ := o
  dsimp only at hc hd
  subst hc hd
  have hl1 := r.length
  have hl2 := r2.length
  have hsz : its.toArray.size + its2.toArray.size ≤ sizeLine := by rw [List.size_toArray, List.size_toArray]; omega
  have hlong : ¬ (!its.toArray.isEmpty && Builtin.List.listTooLong (its.toArray.size + its2.toArray.size)) = true := by
    rw [notLongL hsz, Bool.and_false]
    exact Bool.false_ne_true
  refine call_meets PySem.F.slot_list_extend ⟨_, e, rfl⟩ PySem.F.entry_list_extend (PySem.F.args_list_extend_2 _ _)
    (extend_tup l its.toArray n b its2.toArray n2 dd sl hlong (by rw [List.size_toArray]; omega) (by omega)) ⟨e, e2, ?_⟩
  refine ⟨.non, _, I.lset (its' := its ++ its2) hH e (by simp) (r.append r2) ?_, rfl, q⟩
  rw [List.length_append]
  omega
end L2.Lv
end
section
set_option maxRecDepth 100000
set_option maxHeartbeats 4000000
set_option autoImplicit false
namespace L2.Lv
open PySem PySem.Spec PyProof.Rows

/-! ### [e for .. in .. for .. in ..] -/
def mCIn (src : Src) (g : MG) (t : MT) (el : ME) (e0 : En) (n : Nat) : Nat → Nat → Hm → Re Unit
  | 0, _, _ => .no
  | f + 1, i, h => match nxt src i h with
    | some none => .ok () h
    | some (some d) => match g d e0 h with
      | some e1 => match t e1 h with
        | .ok true h2 => match el e1 h2 with
          | .ok y h3 => match h3[n]? with
            | some (.lst acc) => if acc.length < big then mCIn src g t el e0 n f (i + 1) (h3.set n (.lst (acc ++ [y]))) else .no
            | _ => .no
          | _ => .no
        | .ok false h2 => mCIn src g t el e0 n f (i + 1) h2
        | _ => .no
      | none => .no
    | none => .no
def mCLoop2 (src : Src) (g : MG) (t : MT) (it1 : MI) (g1 : MG) (t1 : MT) (el : ME) (e0 : En) (vs1 : List Nat) (n : Nat) : Nat → Nat → Hm → Re D
  | 0, _, _ => .no
  | f + 1, i, h => match nxt src i h with
    | some none => .ok (.ref n) h
    | some (some d) => match g d e0 h with
      | some e1 => match t e1 h with
        | .ok true h2 => match it1 e1 h2 with
          | .ok src1 h3 => (mCIn src1 g1 t1 el (wipeE e1 vs1) n lots 0 h3).bind fun _ h4 => mCLoop2 src g t it1 g1 t1 el e0 vs1 n f (i + 1) h4
          | _ => .no
        | .ok false h2 => mCLoop2 src g t it1 g1 t1 el e0 vs1 n f (i + 1) h2
        | _ => .no
      | none => .no
    | none => .no
def mComp2 (it : MI) (g : MG) (t : MT) (it1 : MI) (g1 : MG) (t1 : MT) (el : ME) (vs vs1 : List Nat) : ME :=
  fun e h => (it e h).bind fun src h1 => mCLoop2 src g t it1 g1 t1 el (wipeE e vs) vs1 h1.length lots 0 (h1 ++ [.lst []])
section
variable {G : Gx} {X : Cx} {W : WX} {x y z tg : Expr} {xs : List Expr} {ma mb mc : ME} {mt mu : MT} {ms : MA} {pos : Pos} {st : Stmt} {sts : List Stmt} {a b : MS} {r : List Addr} {H : Hp} {h : Hm}
theorem wipe_idem (σ : L2.St) (vs : List Nat) : wipe (wipe σ vs) vs = wipe σ vs := by
  apply List.ext_getElem?
  intro j
  rw [wipe_at, wipe_at, wipe_length]
  split <;> rfl
theorem comp2_of {it it1 : MI} {g g1 : MG} {vs vs1 : List Nat} {σ : L2.St} {H : Hp} {Q : VK} (hv : ∀ i ∈ vs1, i ∈ vs) (u : uE G W (mComp2 it g mt it1 g1 mu ma vs vs1) σ H Q) :
    tLc2 (uG G W (JR G) it) (uGt G g vs) (uT G W0 mt) (uG G W0 (JR G) it1) (uGt G g1 vs1) (uT G W0 mu) (uE G W0 ma) vs vs1 σ H Q := by
  obtain ⟨r, h, e, s, en, p⟩ := u
  refine uG_weak (stepP s en p) ?_
  rintro J H1 ⟨r1, h1, src, gg1, s1, en1, jr, p1⟩
  intro A hA
  have gA : Gr G r1 H1 (r1 ++ [A]) (upd H1 A (.lst [])) := gr_new hA
  refine ⟨fun i m H => ∃ (r' : List Addr) (h : Hm), Gr G (r1 ++ [A]) (upd H1 A (.lst [])) r' H ∧ Sim G r' H h ∧ Post G (fun c d H' => W c d σ H') (RD G) r' H (mCLoop2 src g mt it1 g1 mu ma (wipeE e vs) vs1 h1.length m i h) Q,
    ⟨lots, r1 ++ [A], h1 ++ [.lst []], Gr.refl, s1.new (ob := .lst []) hA ⟨[], upd_same, .nil⟩, Post.mono gA p1⟩, ?_⟩
  rintro i m H2 ⟨r2, h2, g2, s2, p2⟩
  have eA : r2[h1.length]? = some A := g2.pre _ _ (new_at s1 A)
  have enw : EnR G r2 H2 (wipeE e vs) (wipe σ vs) := (en_wipe en1 vs).mono (gA.trans g2)
  cases m with
  | zero => exact p2.elim
  | succ m =>
    simp only [mCLoop2] at p2
    obtain ⟨j1, j2⟩ := jr r2 H2 h2 i (gA.trans g2) s2
    cases q : nxt src i h2 with
    | none => simp only [q] at p2; exact p2.elim
    | some o =>
      cases o with
      | none =>
        simp only [q] at p2
        exact .inl ⟨j2 q, p2 _ H2 r2 Gr.refl s2 (.ref eA)⟩
      | some d =>
        simp only [q] at p2
        obtain ⟨go, yld⟩ := j1 d q
        refine .inr ⟨go, fun H' => ∃ (r' : List Addr) (h : Hm), Gr G (r1 ++ [A]) (upd H1 A (.lst [])) r' H' ∧ Sim G r' H' h ∧ Post G (fun c d H' => W c d σ H') (RD G) r' H' (mCLoop2 src g mt it1 g1 mu ma (wipeE e vs) vs1 h1.length m (i + 1) h) Q, fun H' n => ⟨m, Nat.lt_succ_self m, n⟩, fun x H3 hy => ?_⟩
        obtain ⟨g3, s3, rx⟩ := yld x H3 hy
        cases em : g d (wipeE e vs) h2 with
        | none => simp only [em] at p2; exact p2.elim
        | some e3 =>
          simp only [em] at p2
          refine ⟨r2, h2, wipeE e vs, d, e3, s3, enw.mono g3, rx, em, fun σ4 en4 ch => ⟨?_, r2, h2, e3, s3, en4, ?_⟩⟩
          · rw [ch.wipe]
            exact wipe_idem σ vs
          · have p3 := Post.mono g3 p2
            cases et : mt e3 h2 with
            | no => simp only [et] at p3; exact p3.elim
            | ex c d' h' => simp only [et] at p3; exact p3.elim
            | ok c h4 =>
              simp only [et] at p3
              intro b H4 r4 g4 s4 hb
              have hb : c = b := hb
              subst hb
              cases c with
              | false => exact ⟨r4, h4, (g2.trans g3).trans g4, s4, Post.mono g4 p3⟩
              | true =>
                refine ⟨r4, h4, e3, s4, en4.mono g4, ?_⟩
                have p4 := Post.mono g4 p3
                cases ei : it1 e3 h4 with
                | no => simp only [ei] at p4; exact p4.elim
                | ex c d' h' => simp only [ei] at p4; exact p4.elim
                | ok src1 h5 =>
                  simp only [ei] at p4
                  intro J1 H5 r5 g5 s5 jr1
                  refine ⟨fun j k H => ∃ (r' : List Addr) (h : Hm), Gr G r5 H5 r' H ∧ Sim G r' H h ∧ Post G (fun c d H' => W c d σ H') (RD G) r' H ((mCIn src1 g1 mu ma (wipeE e3 vs1) h1.length k j h).bind fun _ h4 => mCLoop2 src g mt it1 g1 mu ma (wipeE e vs) vs1 h1.length m (i + 1) h4) Q,
                    ⟨lots, r5, h5, Gr.refl, s5, Post.mono g5 p4⟩, ?_⟩
                  rintro j k H6 ⟨r6, h6, g6, s6, p6⟩
                  have gAll := (((g2.trans g3).trans g4).trans g5).trans g6
                  have eA6 : r6[h1.length]? = some A := ((((g3.trans g4).trans g5).trans g6)).pre _ _ eA
                  have enw6 : EnR G r6 H6 (wipeE e3 vs1) (wipe σ4 vs1) := (en_wipe en4 vs1).mono ((g4.trans g5).trans g6)
                  cases k with
                  | zero => exact p6.elim
                  | succ k =>
                    simp only [mCIn] at p6
                    obtain ⟨l1, l2⟩ := jr1 r6 H6 h6 j g6 s6
                    cases q6 : nxt src1 j h6 with
                    | none => simp only [q6] at p6; exact p6.elim
                    | some o6 =>
                      cases o6 with
                      | none =>
                        simp only [q6] at p6
                        exact .inl ⟨l2 q6, r6, h6, gAll, s6, p6⟩
                      | some d6 =>
                        simp only [q6] at p6
                        obtain ⟨go6, yld6⟩ := l1 d6 q6
                        refine .inr ⟨go6, _, fun H' n => ⟨k, Nat.lt_succ_self k, n⟩, fun x7 H7 hy7 => ?_⟩
                        obtain ⟨g7, s7, rx7⟩ := yld6 x7 H7 hy7
                        cases em7 : g1 d6 (wipeE e3 vs1) h6 with
                        | none => simp only [em7] at p6; exact p6.elim
                        | some e7 =>
                          simp only [em7] at p6
                          refine ⟨r6, h6, wipeE e3 vs1, d6, e7, s7, enw6.mono g7, rx7, em7, fun σ8 en8 ch8 => ⟨?_, r6, h6, e7, s7, en8, ?_⟩⟩
                          · rw [ch8.wipe]
                            exact wipe_idem σ4 vs1
                          · have p8 := Post.mono g7 p6
                            cases et8 : mu e7 h6 with
                            | no => simp only [et8] at p8; exact p8.elim
                            | ex c d' h' => simp only [et8] at p8; exact p8.elim
                            | ok c h9 =>
                              simp only [et8] at p8
                              intro b9 H9 r9 g9 s9 hb9
                              have hb9 : c = b9 := hb9
                              subst hb9
                              cases c with
                              | false => exact ⟨r9, h9, (g6.trans g7).trans g9, s9, Post.mono g9 p8⟩
                              | true =>
                                refine ⟨r9, h9, e7, s9, en8.mono g9, ?_⟩
                                have p9 := Post.mono g9 p8
                                cases ee : ma e7 h9 with
                                | no => simp only [ee] at p9; exact p9.elim
                                | ex c d' h' => simp only [ee] at p9; exact p9.elim
                                | ok y h10 =>
                                  simp only [ee] at p9
                                  intro v H10 r10 g10 s10 rv
                                  have eA10 : r10[h1.length]? = some A := g10.pre _ _ (g9.pre _ _ (g7.pre _ _ eA6))
                                  obtain ⟨ob, eo, oo⟩ := s10.get eA10
                                  simp only [eo] at p9
                                  cases ob with
                                  | lst acc =>
                                    simp only at p9
                                    split at p9
                                    · rename_i cl
                                      obtain ⟨as, q1, q2⟩ := oo
                                      obtain ⟨s11, g11⟩ := s10.put (ob := .lst (acc ++ [y])) (o := .lst (as ++ [v])) eA10 fun g => ⟨_, upd_same, (q2.mono g).append (.cons (rv.mono g) .nil)⟩
                                      exact ⟨as, q1, by rw [← q2.length]; exact Nat.lt_of_lt_of_le cl (big_le (Nat.le_refl _)), r10, _, (((g6.trans g7).trans g9).trans g10).trans g11, s11, Post.mono g11 (Post.mono g10 p9)⟩
                                    · exact p9.elim
                                  | _ => exact p9.elim
section
variable {it it1 : MI} {g g1 : MG} {vs vs1 : List Nat} {scope : Scope} {own : List (Str × Nat)} {ifs ifs1 : List Expr} {tg1 x1 : Expr}
theorem se_comp2 (own : List (Str × Nat)) (vs1 : List Nat) (hc : X.calm = true) (hN : X.N.Nodup) (hi : SI G X W tg x it) (ok : BlkOk X.N X.env.scope scope own) (hv : ∀ i ∈ vs1, i ∈ own.map (·.2))
    (hg : ∀ (s : Shared) (H : Hp) (C : Addr) (cl : List (Str × Addr)) (fp : List Addr), SG G (X.blk s H scope (compEnvC scope cl C X.env) fp) tg g (own.map (·.2)))
    (ht : ∀ (s : Shared) (H : Hp) (C : Addr) (cl : List (Str × Addr)) (fp : List Addr), STs G (X.blk s H scope (compEnvC scope cl C X.env) fp) W0 ifs mt)
    (hi1 : ∀ (s : Shared) (H : Hp) (C : Addr) (cl : List (Str × Addr)) (fp : List Addr), SI G (X.blk s H scope (compEnvC scope cl C X.env) fp) W0 tg1 x1 it1)
    (hg1 : ∀ (s : Shared) (H : Hp) (C : Addr) (cl : List (Str × Addr)) (fp : List Addr), SG G (X.blk s H scope (compEnvC scope cl C X.env) fp) tg1 g1 vs1)
    (ht1 : ∀ (s : Shared) (H : Hp) (C : Addr) (cl : List (Str × Addr)) (fp : List Addr), STs G (X.blk s H scope (compEnvC scope cl C X.env) fp) W0 ifs1 mu)
    (he : ∀ (s : Shared) (H : Hp) (C : Addr) (cl : List (Str × Addr)) (fp : List Addr), SE G (X.blk s H scope (compEnvC scope cl C X.env) fp) W0 y ma)
    (hs : ∀ z, foldedSetIterable x X.env z = pure z := by intro _; rfl) (hs1 : ∀ env z, foldedSetIterable x1 env z = pure z := by intro _ _; rfl) :
    SE G X W (.ListComp y [⟨tg, x, ifs, 0⟩, ⟨tg1, x1, ifs1, 0⟩] scope pos) (mComp2 it g mt it1 g1 mu ma (own.map (·.2)) vs1) :=
  ⟨pe_imp (pe_lc2 hc hN hi.pi ok hv (fun s H C cl fp => (hg s H C cl fp).pg) (fun s H C cl fp => (ht s H C cl fp).pts) (fun s H C cl fp => (hi1 s H C cl fp).pi) (fun s H C cl fp => (hg1 s H C cl fp).pg) (fun s H C cl fp => (ht1 s H C cl fp).pts) (fun s H C cl fp => (he s H C cl fp).pe) hs hs1) fun _ _ _ u => comp2_of hv u⟩
end
end
end L2.Lv
end
section
set_option maxRecDepth 100000
set_option maxHeartbeats 4000000
set_option autoImplicit false
namespace L2.Lv
open PySem PySem.Spec PyProof.Rows

/-! ### a written dict: d.get(key) -/
def litV : Value → Option D
  | .none => some .non
  | .bool b => some (.bl b)
  | .int i _ => some (.int i)
  | .str s _ => some (.str s.cps.toList)
  | _ => none
def litE (e : DictEntry) : Option (List Nat × D) := match e.key, litV e.val with
  | .str s _, some d => some (s.cps.toList, d)
  | _, _ => none
def findD : List (List Nat × D) → List Nat → Option D
  | [], _ => none
  | (k, d) :: r, s => if k = s then some d else findD r s
section
variable {G : Gx} {X : Cx} {W : WX} {x y z tg : Expr} {xs : List Expr} {ma mb mc : ME} {mt mu : MT} {ms : MA} {pos : Pos} {r : List Addr} {H : Hp} {h : Hm}
theorem str_eta (s : Str) : (⟨s.cps.toList.toArray⟩ : Str) = s := by
  cases s with
  | mk c => simp
theorem litV_rel {u : Value} {d : D} (e : litV u = some d) : ∃ v, RelV v u ∧ ∀ r H, Rep G r H d v := by
  unfold litV at e
  split at e <;> cases e
  · exact ⟨.non, rfl, fun _ _ => .non⟩
  · exact ⟨.bl _, rfl, fun _ _ => .bl _⟩
  · exact ⟨.int _, ⟨_, rfl⟩, fun _ _ => .int _⟩
  · refine ⟨.str _, ⟨_, rfl⟩, fun r H => ?_⟩
    have z := Rep.str (G := G) (r := r) (H := H) (Str.cps ‹_›).toList
    rw [str_eta] at z
    exact z
theorem find_lit : ∀ {es : List DictEntry} {kvs : List (List Nat × D)} (s : List Nat), es.map litE = kvs.map some →
    match findD kvs s with
    | some d => ∃ e, es.find? (fun e => Value.isStrOf ⟨s.toArray⟩ e.key) = some e ∧ litV e.val = some d
    | none => es.find? (fun e => Value.isStrOf ⟨s.toArray⟩ e.key) = none
  | [], [], _, _ => rfl
  | [], _ :: _, _, q => by cases q
  | _ :: _, [], _, q => by cases q
  | e :: es, (k, d) :: kvs, s, q => by
    simp only [List.map_cons, List.cons.injEq] at q
    obtain ⟨q1, q2⟩ := q
    have ih := find_lit s q2
    unfold litE at q1
    split at q1
    · rename_i st tk d' ek ev
      cases q1
      unfold findD
      by_cases c : st.cps.toList = s
      · rw [if_pos c]
        refine ⟨e, ?_, ev⟩
        rw [List.find?_cons]
        have : Value.isStrOf ⟨s.toArray⟩ e.key = true := by
          rw [ek]
          show (st == (⟨s.toArray⟩ : Str)) = true
          rw [← c, str_eta]
          simp
        rw [this]
      · rw [if_neg c, List.find?_cons]
        have : Value.isStrOf ⟨s.toArray⟩ e.key = false := by
          rw [ek]
          show (st == (⟨s.toArray⟩ : Str)) = false
          rw [beq_eq_false_iff_ne]
          intro z
          apply c
          rw [z]
        rw [this]
        exact ih
    · cases q1
def pGetK (kvs : List (List Nat × D)) (d : D) (h : Hm) : Re D := match d with
  | .str s => match findD kvs s with
    | some d => .ok d h
    | none => .ok .non h
  | _ => .no
structure LitD (K : PySem.W.Frag) (w : World) (d : Addr) (kvs : List (List Nat × D)) : Prop where
  mk :: (ex : ∃ es n, KDict K w d es n ∧ es.toList.map litE = kvs.map some)
theorem se_getK {n : Str} {np apos : Pos} {d : Addr} {kvs : List (List Nat × D)} (L : LitD X.K X.w d kvs) (hm : X.mg n = some (.ref d)) (ha : SE G X W y ma) (m : M1 X (.Name n np) "get" apos y pos) (hg : Gl X n := by rfl) (hdb : (n == ("__debug__" : Str)) = false := by decide) :
    SE G X W (.Call (.Attribute (.Name n np) "get" apos) [y] [] pos) (mUn (pGetK kvs) ma) := by
  refine ⟨⟨fun pins s σ H Q I u => ?_⟩⟩
  obtain ⟨r, h, e, sm, en, p⟩ := u
  obtain ⟨es, n0, KD, hes⟩ := L.ex
  have ho : PE X (.Name n np) (tC (.ref d)) := pe_glob hg hm (show RelV (.ref d) (.ref d) from rfl) hdb
  refine wpAny_Call_method m.base m.few m.line PySem.F.plainAttrs_dict PySem.F.slot_dict_get PySem.F.type_dict_get (thn (ho.run pins s σ H (fun x H' => x = .ref d ∧ H' = H) I ⟨rfl, rfl⟩) fun u s1 ⟨x, H1, I1, rx, ex, eH⟩ => ?_)
  subst ex eH
  cases (show u = Value.ref d from rx)
  refine ⟨kd_type KD I1, fun b q => ?_, ?_⟩
  · cases q
    exact ⟨_, I1.kIn _ _ KD.at_, rfl⟩
  rw [m.trees]
  refine Calls.callWith_builtin rfl (Calls.evalArgs_plain (Calls.spliced_cons (thn (ha.pe.run pins s1 σ H1 _ I1 (stepP (G := G) (W := W) (R := RD G) sm en p)) fun iv s2 ⟨y, H2, I2, ry, r2, h2, dd, g2, sm2, en2, rd, p2⟩ => Calls.spliced_nil ?_)))
  cases rd with
  | str t =>
    obtain ⟨tk, rfl⟩ := (show ∃ t', iv = Value.str _ t' from ry)
    simp only [pGetK] at p2
    have hf := find_lit t hes
    refine call_meetsIn PySem.F.slot_dict_get (kd_type KD I2) PySem.F.entry_dict_get (PySem.F.args_dict_get_2 _ _) (meets_dict_get (PySem.strKind X.prog X.w) d (PySem.strKind_is X.prog X.w ⟨t.toArray⟩ tk) KD.low) ⟨_, PySem.W.mapOf_K (prog := X.prog) I2.kIn KD.at_ KD.lit, ?_⟩
    show wants _ _ _ _
    have fb : findBy Value.isStrOf es ⟨t.toArray⟩ = (es.toList.find? (fun e => Value.isStrOf ⟨t.toArray⟩ e.key)).map (·.val) := by
      obtain ⟨l⟩ := es
      unfold findBy
      rw [List.find?_toArray]
    rw [fb]
    cases q : findD kvs t with
    | some dv =>
      rw [q] at hf p2
      obtain ⟨e1, f1, f2⟩ := hf
      obtain ⟨v, rv, rp⟩ := litV_rel (G := G) f2
      rw [f1]
      exact ⟨v, H2, I2.tok _, rv, p2 v H2 r2 Gr.refl sm2 (rp _ _)⟩
    | none =>
      rw [q] at hf p2
      rw [hf]
      exact ⟨.non, H2, I2.tok _, rfl, p2 .non H2 r2 Gr.refl sm2 .non⟩
  | _ => exact p2.elim

/-! ### a text's method -/
def pStrT (f : Str → Bool) (d : D) (h : Hm) : Re D := match d with
  | .str s => .ok (.bl (f ⟨s.toArray⟩)) h
  | _ => .no
theorem se_strT {name : Str} {id : String} {apos : Pos} {f : Str → Bool} (slot : Slot "str" name id) (hty : typeOf (.builtin id) = pure (.type "method_descriptor")) (hm : MtR X id (fun x xs H Q => ∃ a, x = .str a ∧ xs = [] ∧ True ∧ Q (.bl (f a)) H)) (ho : SE G X W z ma)
    (hbase : attributeBase z name X.env (eval z X.env) = eval z X.env := by rfl) (hline : (apos.endLine == pos.line) = true := by rfl) :
    SE G X W (.Call (.Attribute z name apos) [] [] pos) (mUn (pStrT f) ma) := by
  refine ⟨pe_imp (pe_bm0 PySem.F.plainAttrs_str slot hty hm ho.pe hbase hline) fun σ H Q u => ?_⟩
  obtain ⟨r, h, e, s, en, p⟩ := u
  refine uG_weak (stepP s en p) ?_
  rintro v H1 ⟨r1, h1, a, g1, s1, en1, ra, p1⟩
  cases ra with
  | str t => exact ⟨rfl, _, rfl, rfl, trivial, p1 _ H1 r1 Gr.refl s1 (.bl _)⟩
  | _ => exact p1.elim

/-! ### {} and lists times numbers -/
def mDict0 : ME := fun _ h => .ok (.ref h.length) (h ++ [.dk []])
theorem se_dict0 : SE G X W (.Dict [] [] pos) mDict0 := by
  refine ⟨pe_imp pe_dnewK fun σ H Q u => ?_⟩
  obtain ⟨r, h, e, s, en, p⟩ := u
  intro q hq
  exact p (.ref q) _ (r ++ [q]) (gr_new hq) (s.new (ob := .dk []) hq ⟨[], upd_same, .nil⟩) (.ref (new_at s q))
theorem reps_rep {ds : List D} {vs : List V} (q : Reps G r H ds vs) : ∀ n : Nat, Reps G r H (List.replicate n ds).flatten (List.replicate n vs).flatten
  | 0 => .nil
  | n + 1 => by
    rw [List.replicate_succ, List.replicate_succ, List.flatten_cons, List.flatten_cons]
    exact q.append (reps_rep q n)
def pRepL (a b : D) (h : Hm) : Re D := match a, b with
  | .ref i, .int k => match h[i]? with
    | some (.lst xs) => if (0 ≤ k ∧ k ≤ 100000) ∧ xs.length * k.toNat ≤ big then .ok (.ref h.length) (h ++ [.lst (List.replicate k.toNat xs).flatten]) else .no
    | _ => .no
  | _, _ => .no
theorem prim_repL : Prim2 G rRep pRepL := by
  intro W r H h a b x y Q s ra rb p
  unfold pRepL at p
  split at p
  · rename_i i k
    cases ra with
    | ref hn =>
      cases rb with
      | int k =>
        obtain ⟨ob, e1, o⟩ := s.get hn
        rw [e1] at p
        cases ob with
        | lst ys =>
          simp only at p
          split at p
          · rename_i c
            obtain ⟨vs, h1, h2⟩ := o
            refine ⟨_, k, vs, rfl, rfl, h1, by omega, by omega, by rw [← h2.length]; exact big_le c.2, fun q hq => ?_⟩
            exact p (.ref q) _ (r ++ [q]) (gr_new hq) (s.new (ob := .lst (List.replicate k.toNat ys).flatten) hq ⟨_, upd_same, (reps_rep h2 k.toNat).mono (gr_new hq)⟩) (.ref (new_at s q))
          · exact p.elim
        | _ => exact p.elim
  · exact p.elim
/-- [..] * n, n * n -/
def pMulA (a b : D) (h : Hm) : Re D := match a with
  | .ref _ => pRepL a b h
  | _ => pMulI a b h
theorem prim_mulA : Prim2 G rMulAll pMulA := by
  intro W r H h a b x y Q s ra rb p
  unfold pMulA at p
  split at p
  · exact .inr (prim_repL W r H h _ b x y Q s ra rb p)
  · exact .inl (prim_mulI W r H h a b x y Q s ra rb p)
/-- l.extend of a list or a tuple -/
def pExtendA (a : D) (as : List D) (h : Hm) : Re D := match a, as with
  | .ref n, [.tup ys] => match h[n]? with
    | some (.lst xs) => if xs.length + ys.length ≤ big then .ok .non (h.set n (.lst (xs ++ ys))) else .no
    | _ => .no
  | a, as => pExtend a as h
def rExtendA (K : PySem.W.Frag) : V → List V → Hp → VK → Prop := fun x vs H Q => rExtendT K x vs H Q ∨ rExtend x vs H Q
theorem mt_extendA : MtR X "list.extend" (rExtendA X.K) := by
  intro pins s σ H x vs v us Q I rx rv h
  rcases h with h | h
  · exact mt_extendT pins s σ H x vs v us Q I rx rv h
  · exact mt_extend pins s σ H x vs v us Q I rx rv h
theorem primM_extendA : PrimM G "list" (rExtendA G.K) pExtendA := by
  intro W r H h a as x xs Q s ra rs p
  unfold pExtendA at p
  split at p
  · rename_i n ys
    cases rs with
    | cons q t =>
      cases t
      cases q with
      | tup q1 q2 =>
        cases ra with
        | ref hn =>
          obtain ⟨ob, e1, o⟩ := s.get hn
          rw [e1] at p
          cases ob with
          | lst zs =>
            simp only at p
            split at p
            · rename_i c
              obtain ⟨vs, h1, h2⟩ := o
              refine .inl ⟨_, _, vs, _, rfl, rfl, h1, q1, by rw [← h2.length, ← q2.length]; exact big_le c, ?_⟩
              obtain ⟨s', g⟩ := s.put (ob := .lst (zs ++ ys)) (o := .lst (vs ++ _)) hn fun g => ⟨_, upd_same, (h2.mono g).append (q2.mono g)⟩
              exact p .non _ r g s' .non
            · exact p.elim
          | _ => exact p.elim
  · exact .inr (primM_extend W r H h a as x xs Q s ra rs p)
end
end L2.Lv
end
section
set_option maxRecDepth 100000
set_option maxHeartbeats 4000000
set_option autoImplicit false
namespace L2.Lv
open PySem PySem.Spec PyProof.Rows

/-! ### repr of data -/
def rRepr (K : PySem.W.Frag) : List V → Hp → VK → Prop := fun xs H Q => ∃ x d, xs = [x] ∧ Dp K H x d ∧ d.canLay0 = true ∧ d.showable = true ∧ d.depth ≤ deep ∧ d.shown.length ≤ sizeLine ∧ Q (.str d.shown) H
def reprD (h : Hm) (d : D) : Option (List Nat) := if okD deep h d = true ∧ (toP deep h d).showable = true ∧ (toP deep h d).shown.length ≤ big then some (toP deep h d).shown.cps.toList else none
def pRepr (as : List D) (h : Hm) : Re D := match as with
  | [d] => match reprD h d with
    | some t => .ok (.str t) h
    | none => .no
  | _ => .no
section
variable {G : Gx} {X : Cx} {W : WX} {x y z tg : Expr} {xs : List Expr} {ma mb mc : ME} {mt mu : MT} {ms : MA} {pos : Pos} {st : Stmt} {sts : List Stmt} {a b : MS} {r : List Addr} {H : Hp} {h : Hm}
theorem call_repr (hg : X.A.guards = some []) (hu : X.A.units + 200 < cLine) : CallR X (.builtin "repr") (rRepr X.K) := by
  intro pins s σ H xs us Q I r q0
  obtain ⟨x, d, rfl, hd, hl, hs, hp, hz, q⟩ := q0
  obtain ⟨u, rfl, ru⟩ := r.one
  obtain ⟨as, rd⟩ := Dp.reads I d x u hd ru
  have hdp : X.A.units + (d.depth + 1) < cLine := by
    have e : deep = 110 := rfl
    omega
  have big_ : ∀ {v : Value}, v = u → (∃ a, v = .ref a) → wpAny (model X.prog X.w) X.A (call (.builtin "repr") [u]) (EP X pins σ Q) X.xe s := by
    rintro _ rfl ⟨a, rfl⟩
    exact repr_of_reads' rd hs (PyData.noDict_hsm (PyData.hasDict_of_canLay d hl)) hg hdp (fun _ _ e => e) (fun h' u tk hk => ⟨.str d.shown, H, I.kept hk, ⟨u, rfl⟩, q⟩) hz
  cases hd with
  | non =>
    cases (show u = Value.none from ru)
    exact P.repr_of_none ⟨.str _, H, I.tok _, ⟨_, rfl⟩, q⟩
  | bl b =>
    cases (show u = Value.bool b from ru)
    refine P.repr_of_bool ⟨.str _, H, I.tok _, ⟨_, rfl⟩, ?_⟩
    cases b <;> exact q
  | int i =>
    obtain ⟨t, e⟩ := (show ∃ t, u = Value.int i t from ru)
    cases e
    refine P.repr_of_int (by simpa [PyData.showable] using hs) ⟨.str _, H, I.tok _, ⟨_, rfl⟩, ?_⟩
    have e : PyData.shown (.int i) = toString i := by simp [PyData.shown]
    rw [← e]
    exact q
  | str t =>
    obtain ⟨tk, e⟩ := (show ∃ tk, u = Value.str t tk from ru)
    cases e
    have e : PyData.shown (.str t) = reprText t := by simp [PyData.shown]
    rw [e] at q hz
    exact P.repr_of_str ⟨.str _, H, I.tok _, ⟨_, rfl⟩, q⟩ hz
  | @lst a vs ds h1 h2 =>
    exact big_ rfl ⟨a, ru⟩
  | @tup a vs ds h1 h2 =>
    exact big_ rfl ⟨a, ru⟩
theorem repr_rep {d : D} {v : V} {t : List Nat} (s : Sim G r H h) (q : Rep G r H d v) (e : reprD h d = some t) : ∃ dd, Dp G.K H v dd ∧ dd.canLay0 = true ∧ dd.showable = true ∧ dd.depth ≤ deep ∧ dd.shown.length ≤ sizeLine ∧ dd.shown = ⟨t.toArray⟩ := by
  unfold reprD at e
  split at e
  · rename_i c
    cases e
    exact ⟨_, dp_of s deep d v c.1 q, lay_of deep d c.1, c.2.1, depth_of deep d, big_le c.2.2, (str_eta _).symm⟩
  · cases e
theorem primC_repr : PrimC G (rRepr G.K) pRepr := by
  intro W r H h as xs Q s ra p
  unfold pRepr at p
  split at p
  · rename_i d
    cases ra with
    | cons q t =>
      cases t
      cases e : reprD h d with
      | none => rw [e] at p; exact p.elim
      | some t =>
        rw [e] at p
        obtain ⟨dd, h1, h2, h3, h4, h5, h6⟩ := repr_rep s q e
        exact ⟨_, dd, rfl, h1, h2, h3, h4, h5, by rw [h6]; exact p (.str ⟨t.toArray⟩) H r Gr.refl s (.str t)⟩
  · exact p.elim

/-! ### never reached -/
def mNo : MS := fun _ _ => .no
theorem ss_no : SS G X W st mNo := ⟨⟨fun pins s σ H Z I u => by
  obtain ⟨r, h, e, sm, en, p⟩ := u
  exact p.elim⟩⟩
def mNoE : ME := fun _ _ => .no
theorem se_no : SE G X W x mNoE := ⟨⟨fun pins s σ H Z I u => by
  obtain ⟨r, h, e, sm, en, p⟩ := u
  exact p.elim⟩⟩
end

/-! ### defs that know of no guard -/
structure FnG (P : Program) (w : World) (K : PySem.W.Frag) (mg : Str → Option Value) (base : Heap) (CX : CXT) (k : Nat) (f : Addr) (fd : FuncData) (ps : List Str) (sp : Sp) : Prop where
  len : ∀ vs H Q E, sp vs H Q E → vs.length = ps.length
  run : ∀ (A : Around) (outer : List Env) (s : Shared) (H : Hp) (args : Args) (us : List Value) (vs : List V) (Q : VK) (E : XK), Room k A → A.guards = some [] → Env0 P w K mg base A outer s H → BindsTo s fd args (ps.zip us) → Vals vs us → sp vs H Q E →
    codeAny (model P w) A (.call (.ref f) args) (CR CX outer P w H s Q E) s
section
variable {P : Program} {w : World} {K : PySem.W.Frag} {mg : Str → Option Value} {base : Heap} {G : Gx}
theorem FnG.of {CX : CXT} {k : Nat} {f : Addr} {fd : FuncData} {ps : List Str} {sp : Sp} (F : FnOk P w K mg base CX k f fd ps sp) : FnG P w K mg base CX k f fd ps sp :=
  ⟨F.len, fun A outer s H args us vs Q E hr _ => F.run A outer s H args us vs Q E hr⟩
theorem FnG.mono {CX : CXT} {j k : Nat} {f : Addr} {fd : FuncData} {ps : List Str} {sp : Sp} (F : FnG P w K mg base CX j f fd ps sp) (h : j ≤ k) : FnG P w K mg base CX k f fd ps sp :=
  ⟨F.len, fun A outer s H args us vs Q E hr => F.run A outer s H args us vs Q E (hr.mono h)⟩
theorem deeper_guards {A : Around} {env : Env} (h : A.guards = some []) : (A.deeper env).guards = some [] := h
theorem fn_okG {x qual : Str} {st : Stmt} {f : Addr} {fd : FuncData} {N ps : List Str} {k : Nat} {b : MS} (F : Fun K x qual st f fd) (S : FnScope N ps (defScope st))
    (hb : ∀ (cdv : Value) (A : Around) (outer : List Env) (s : Shared) (H : Hp) (E : XK), A.guards = some [] → Room k (A.deeper (envOfC qual (defScope st) s.heap.objs.size f cdv)) →
      SSs G (cxOf (L2.CX P w) P w K mg base N qual (defScope st) f cdv A outer s H E) (fun c d _ H' => E c d H') (defBody st) b) : FnG P w K mg base (L2.CX P w) (k + 1) f fd ps (spM G (mBody ps.length N.length b)) := by
  obtain ⟨oc, od, kV, doc, pm, an, cdv, ct, osl, rfl, lk, hcd⟩ := F.ex
  refine ⟨fun vs H Q E h => ?_, fun A outer s H args us vs Q E hr hg e0 hbd rv h => ?_⟩
  · obtain ⟨r, hm, ds, sm, rp, p⟩ := h
    unfold mBody at p
    split at p
    · rename_i c
      rw [← rp.length]
      exact c
    · exact p.elim
  have hl : vs.length = ps.length := by
    obtain ⟨r, hm, ds, sm, rp, p⟩ := h
    unfold mBody at p
    split at p
    · rename_i c
      rw [← rp.length]
      exact c
    · exact p.elim
  refine LamX.run_ofS lk hcd S hr e0 hbd rv hl fun hr' => ⟨_, (hb cdv A outer s H E hg hr').pss, ?_⟩
  obtain ⟨r, hm, ds, sm, rp, p⟩ := h
  refine ⟨r, hm, startE N.length ds, sm, ?_, ?_⟩
  · have l := rp.length
    unfold startE start
    rw [l]
    exact start_en rp _
  · unfold mBody at p
    split at p
    · unfold mRun at p
      cases q : b (startE N.length ds) hm with
      | nx e' h' => rw [q] at p; exact fun σ' H' r' g s' _ => p .non H' r' g s' .non
      | rt d h' => rw [q] at p; exact p
      | ex c d e' h' => rw [q] at p; exact fun v σ' H' r' dd g s' _ rv hd => p v H' r' dd g s' rv hd
      | bk e' h' => rw [q] at p; exact p.elim
      | ct e' h' => rw [q] at p; exact p.elim
      | no => rw [q] at p; exact p.elim
    · exact p.elim
end
section
variable {G : Gx} {X : Cx} {W : WX} {x y z tg : Expr} {xs : List Expr} {ma mb mc : ME} {mt mu : MT} {ms : MA} {pos : Pos} {st : Stmt} {sts : List Stmt} {a b : MS} {r : List Addr} {H : Hp} {h : Hm}
variable {k : Nat} {f C : Addr} {fd : FuncData} {ps : List Str} {n : Str} {np apos : Pos} {m : List D → Hm → Re D}
theorem run_fnG {pins : List (Addr × Obj)} {σ : L2.St} {H : Hp} {s : Shared} {Q : VK} {us : List Value} {vs : List V} {sp : Sp} (F : FnG X.prog X.w X.K X.mg X.base (L2.CX X.prog X.w) k f fd ps sp) (hr : Room k X.A) (hgd : X.A.guards = some []) (hb : Binds X.K fd ps [])
    (tk : Takes X W) (I : Inv X pins σ H s) (r : Vals vs us) (h : sp vs H Q (WE W σ)) : wpAny (model X.prog X.w) X.A (call (.ref f) us) (EP X pins σ Q) X.xe s := by
  have hl : us.length = ps.length := by rw [← r.length]; exact F.len _ _ _ _ h
  have b := hb s us I.kIn (by rw [List.append_nil]; exact hl)
  rw [List.append_nil] at b
  refine wpAny_call (codeAny_mono (F.run X.A X.stack s H ⟨us, []⟩ us vs Q (WE W σ) hr hgd I.env0 b r h) fun r s' hq => ?_)
  cases r with
  | error e => exact passAt tk σ pins H s e s' I hq
  | ok fl =>
    cases fl with
    | ret u => exact I.after hq
    | next => exact False.elim hq
    | brk => exact False.elim hq
    | cont => exact False.elim hq
theorem se_callG (F : FnG X.prog X.w X.K X.mg X.base (L2.CX X.prog X.w) k f fd ps (spM G m)) (hr : Room k X.A) (hgd : X.A.guards = some []) (tk : Takes X W) (hm : X.mg n = some (.ref f)) (hk : PySem.W.keepIn X.K (.ref f) = true) (hb : Binds X.K fd ps []) (ha : SA G X W (x :: xs) ms)
    (hg : Gl X n := by rfl) (hdb : (n == ("__debug__" : Str)) = false := by decide) (he : starEach (x :: xs) X.env = (false, eval x X.env) :: starEach xs X.env := by rfl) (hpl : (backTo pos (starEach xs X.env)).any (·.1) = false := by rfl) :
    SE G X W (.Call (.Name n np) (x :: xs) [] pos) (mCall m ms) := by
  refine ⟨⟨fun pins s σ H Q I u => ?_⟩⟩
  obtain ⟨r, h, e, sm, en, p⟩ := u
  refine wpAny_Call_Name_kw (ld_glob I hg hm ?_ hdb)
  refine PySem.W.callWith_K (h₀ := X.base) I.ok.mod.kin hk (thn (ha.pa.run pos pins s σ H _ I (stepP (G := G) (W := W) (R := RL G) sm en p)) fun us s1 ⟨vs, H1, I1, r', r1, h1, ds, g1, sm1, en1, rs, p1⟩ => ⟨I1.kIn, ?_⟩) he hpl
  exact run_fnG F hr hgd hb tk I1 r' ⟨r1, h1, ds, sm1, rs, p1⟩
theorem se_callG0 (F : FnG X.prog X.w X.K X.mg X.base (L2.CX X.prog X.w) k f fd ps (spM G m)) (hr : Room k X.A) (hgd : X.A.guards = some []) (tk : Takes X W) (hm : X.mg n = some (.ref f)) (hk : PySem.W.keepIn X.K (.ref f) = true) (hb : Binds X.K fd ps [])
    (hg : Gl X n := by rfl) (hdb : (n == ("__debug__" : Str)) = false := by decide) : SE G X W (.Call (.Name n np) [] [] pos) (mCall m mNil) := by
  refine ⟨⟨fun pins s σ H Q I u => ?_⟩⟩
  refine wpAny_Call_Name_kw (ld_glob I hg hm ?_ hdb)
  refine PySem.W.callWith_K0 I.kIn hk ?_
  obtain ⟨r, h, e, sm, en, p⟩ := u
  exact run_fnG F hr hgd hb tk I .nil ⟨r, h, [], sm, .nil, p⟩
end
end L2.Lv
end
section
set_option maxRecDepth 100000
set_option maxHeartbeats 4000000
set_option autoImplicit false
namespace L2.Lv
open PySem PySem.Spec PyProof.Rows

/-! ### own errors: def __init__(self, v): self.f = v -/
def spI (C : Addr) (fl : Str) : Sp := fun vs H Q _ => ∃ a y, vs = [.ref a, y] ∧ H a = some (exo a C none) ∧ ∀ dx, H dx = none → dx ≠ a → Q .non (upd (upd H dx (exd dx [(fl, y)])) a (exo a C (some dx)))
section
variable {P : Program} {w : World} {K : PySem.W.Frag} {mg : Str → Option Value} {base : Heap}
theorem oex_init {x qual fl sn vn : Str} {st : Stmt} {fI C : Addr} {fd : FuncData} {k : Nat} {p1 p2 p3 p4 : Pos} (T : OexC K C) (hno : PySem.W.findIn K (.ref C) fl = some none) (F : Fun K x qual st fI fd) (S : FnScope [sn, vn] [sn, vn] (defScope st))
    (hbody : defBody st = [.Assign [.Attribute (.Name sn p1) fl p2] (.Name vn p3) p4]) (h0 : Vis (defScope st) sn) (h1 : Vis (defScope st) vn) (d0 : (sn == ("__debug__" : Str)) = false) (d1 : (vn == ("__debug__" : Str)) = false) (c0 : (sn == ("__classdict__" : Str)) = false) (c1 : (vn == ("__classdict__" : Str)) = false)
    (hs : ∀ env : Env, swapsWith (.Name vn p3) (some (.Attribute (.Name sn p1) fl p2)) p4.line env = pure false) : FnOk P w K mg base (L2.CX P w) (k + 1) fI fd [sn, vn] (spI C fl) := by
  refine F.okX S (fun vs H Q E h => by obtain ⟨a, y, rfl, _⟩ := h; rfl) fun cdv A outer s H vs Q E hr h => ?_
  rw [hbody]
  refine ⟨_, pss_one (ps_ost (pe_var (i := 0) rfl h0 d0 c0) (pe_var (i := 1) rfl h1 d1 c1) (hs _)), ?_⟩
  obtain ⟨a, y, rfl, ha, q⟩ := h
  refine ⟨y, rfl, .ref a, rfl, a, C, rfl, T, hno, .inl ⟨ha, q⟩⟩
end
/-- what the written part says of an own error class -/
structure Oex (G : Gx) (c : Nat) (fI : Addr) : Prop where
  T : OexC G.K (G.ga c)
  iC : PySem.W.findIn G.K (.ref (G.ga c)) "__init__" = some (some (.ref fI))
  tI : PySem.W.typeIn G.K (.ref fI) = some (.type "function")
def mRaise (c : Nat) (a : ME) : MS := fun e h => (a e h).bs e fun d h1 => .ex c d e h1
section
variable {G : Gx} {X : Cx} {W : WX} {x y z tg : Expr} {xs : List Expr} {ma mb mc : ME} {mt mu : MT} {ms : MA} {pos : Pos} {st : Stmt} {sts : List Stmt} {a b : MS} {r : List Addr} {H : Hp} {h : Hm}
theorem del_upd {H1 : Hp} {a dx : Addr} {o1 o2 o3 : HO} (h1 : H1 a = none) (hd : dx ≠ a) : upd (del (upd (upd H1 dx o1) a o2) a) dx o3 = upd H1 dx o3 := by
  funext b
  by_cases e : b = dx
  · rw [e, upd_same, upd_same]
  · rw [upd_ne e, upd_ne e]
    by_cases e2 : b = a
    · rw [e2, del_same, h1]
    · rw [del_ne e2, upd_ne e2, upd_ne e]
theorem ss_raise {c k : Nat} {fI : Addr} {fd : FuncData} {ps : List Str} {n : Str} {np pos2 : Pos} (hK : X.K = G.K) (hc : X.calm = true) (tk : Takes X W) (O : Oex G c fI) (F : FnOk X.prog X.w X.K X.mg X.base (L2.CX X.prog X.w) k fI fd ps (spI (G.ga c) (G.xf c))) (hr : Room (k + 1) X.A) (hb : Binds X.K fd ps [])
    (hm : X.mg n = some (.ref (G.ga c))) (ha : SE G X W x ma) (hg : Gl X n := by rfl) (hdb : (n == ("__debug__" : Str)) = false := by decide)
    (he : starEach [x] X.env = (false, eval x X.env) :: starEach [] X.env := by rfl) (hpl : (backTo pos (starEach [] X.env)).any (·.1) = false := by rfl) :
    SS G X W (.Raise (some (.Call (.Name n np) [x] [] pos)) none pos2) (mRaise c ma) := by
  have pm := pmk_oex (X := X) (CX := L2.CX X.prog X.w) (x := n) (p := np) (pos := pos) (e := x) (es := []) (ds := []) (dvs := []) (by rw [hK]; exact O.T) (by rw [hK]; exact O.iC) (by rw [hK]; exact O.tI) F hr hb .nil (fun pins σ H s e s' I q => by obtain ⟨_, _, _, _, _, _, _, _, _, _, _, _, w⟩ := q; exact w.elim) hg hm (pa_cons ha.pe pa_nil he) hdb he hpl
  refine ⟨ps_imp (ps_raise (pos := pos2) hc tk pm) fun Z σ H u => ?_⟩
  obtain ⟨r, h, e, s, en, p⟩ := u
  refine uG_weak (stepS s en p) ?_
  rintro v H1 ⟨r1, h1, d, g1, s1, en1, ra, p1⟩
  refine ⟨by simp, fun a0 ha0 => ⟨a0, v, rfl, upd_same, fun dx hdx hne => ⟨rfl, dx, [(G.xf c, v)], upd_same, ?_, ?_, ?_⟩⟩⟩
  · rw [upd_ne hne, upd_same]
  · rwa [upd_ne hne] at hdx
  · have hd1 : H1 dx = none := by rwa [upd_ne hne] at hdx
    have ee : upd (del (upd (upd (upd H1 a0 (exo a0 (G.ga c) none)) dx (exd dx [(G.xf c, v)])) a0 (exo a0 (G.ga c) (some dx))) a0) dx (.xd [(G.xf c, v)]) = upd H1 dx (.xd [(G.xf c, v)]) := by
      funext b
      by_cases e : b = dx
      · rw [e, upd_same, upd_same]
      · rw [upd_ne e, upd_ne e]
        by_cases e2 : b = a0
        · rw [e2, del_same, ha0]
        · rw [del_ne e2, upd_ne e2, upd_ne e, upd_ne e2]
    rw [ee]
    exact p1 v σ _ r1 dx (gr_fresh hd1) (s1.fresh hd1) (en1.mono (gr_fresh hd1)) (ra.mono (gr_fresh hd1)) upd_same
end

/-! ### what stands behind except C as e -/
/-- the caught exception's field stands at hand; heaps are not written -/
def tX (G : Gx) (a dd : Addr) (fl : Str) (i : Nat) (m : Hm → D → Option D) : TE := fun σ H Q => ∃ r h d v w', σ[i]? = some (some (V.ref a)) ∧ H dd = some (.xd [(fl, v)]) ∧ Sim G r H h ∧ Rep G r H d v ∧ m h d = some w' ∧ ∀ w, Rep G r H w' w → Q w H
def tXs (G : Gx) (a dd : Addr) (fl : Str) (i : Nat) (m : Hm → D → Option (List D)) : TA := fun σ H Q => ∃ r h d v w', σ[i]? = some (some (V.ref a)) ∧ H dd = some (.xd [(fl, v)]) ∧ Sim G r H h ∧ Rep G r H d v ∧ m h d = some w' ∧ ∀ w, Reps G r H w' w → Q w H
/-- the context of the suite of: except the class c as the name in slot i -/
structure SX (G : Gx) (X : Cx) (c i : Nat) (x : Expr) (m : Hm → D → Option D) : Prop where
  pe : ∀ (a dd : Addr) (oe : Obj) (pn : List (Addr × Obj)), Zc (.ref (G.ga c)) (some dd) oe → (∃ vs, oe.data = .fields vs) → PE (X.suite a ((a, oe) :: pn)) x (tX G a dd (G.xf c) i m)
structure SXs (G : Gx) (X : Cx) (c i : Nat) (xs : List Expr) (m : Hm → D → Option (List D)) : Prop where
  pa : ∀ (a dd : Addr) (oe : Obj) (pn : List (Addr × Obj)), Zc (.ref (G.ga c)) (some dd) oe → (∃ vs, oe.data = .fields vs) → PA (X.suite a ((a, oe) :: pn)) xs (tXs G a dd (G.xf c) i m)
structure SXb (G : Gx) (X : Cx) (c i : Nat) (st : List Stmt) (m : Hm → D → Re D) : Prop where
  pss : ∀ (a dd : Addr) (oe : Obj) (pn : List (Addr × Obj)), Zc (.ref (G.ga c)) (some dd) oe → (∃ vs, oe.data = .fields vs) →
    PSs (X.suite a ((a, oe) :: pn)) st (fun Z σ H => ∃ r h d v, σ[i]? = some (some (V.ref a)) ∧ H dd = some (.xd [(G.xf c, v)]) ∧ Sim G r H h ∧ Rep G r H d v ∧ Post G never (RD G) r H (m h d) Z.rt)
/-- what the written part says of an error class whose field is read -/
structure ExF (G : Gx) (c : Nat) : Prop where
  ga : PySem.W.findIn G.K (.ref (G.ga c)) "__getattribute__" = some (some (.builtin "BaseException.__getattribute__"))
  gg : PySem.W.findIn G.K (.ref (G.ga c)) "__getattr__" = some none
  exC : PySem.W.subIn G.K (.ref (G.ga c)) (.type "BaseException") = some true
  hdC : PySem.W.hasDictIn G.K (G.ga c) = true
  noN : PySem.W.findIn G.K (.ref (G.ga c)) (G.xf c) = some none
section
variable {G : Gx} {X : Cx} {W : WX} {x y z tg : Expr} {xs : List Expr} {ma mb mc : ME} {mt mu : MT} {ms : MA} {pos : Pos} {st : Stmt} {sts : List Stmt} {a b : MS} {r : List Addr} {H : Hp} {h : Hm}
variable {c i : Nat} {m : Hm → D → Option D} {mm : Hm → D → Option (List D)}
def xC (w : D) : Hm → D → Option D := fun _ _ => some w
theorem sx_c {w : D} {v : V} (hp : ∀ (a : Addr) (oe : Obj) (pn : List (Addr × Obj)), PE (X.suite a ((a, oe) :: pn)) x (tC v)) (hr : ∀ r H, Rep G r H w v) : SX G X c i x (xC w) :=
  ⟨fun a dd oe pn _ _ => pe_imp (hp a oe pn) fun σ H Q ⟨r, h, d, v', w', _, _, s, rd, e, k⟩ => by cases e; exact k v (hr r H)⟩
theorem sx_int {j : Int} {t : Nat} : SX G X c i (.Constant (.int j) t pos) (xC (.int j)) := sx_c (fun _ _ _ => pe_int) fun _ _ => .int j
theorem sx_bl {j : Bool} {t : Nat} : SX G X c i (.Constant (.bool j) t pos) (xC (.bl j)) := sx_c (fun _ _ _ => pe_bl) fun _ _ => .bl j
theorem sx_non {t : Nat} : SX G X c i (.Constant .none t pos) (xC .non) := sx_c (fun _ _ _ => pe_non) fun _ _ => .non
theorem sx_str (l : List Nat) {s : Str} {t : Nat} (hs : s = ⟨l.toArray⟩ := by decide +kernel) : SX G X c i (.Constant (.str s) t pos) (xC (.str l)) := by
  subst hs
  exact sx_c (fun _ _ _ => pe_str) fun _ _ => .str l
def xF : Hm → D → Option D := fun _ d => some d
theorem sx_fld {n fl : Str} {p1 : Pos} (hK : X.K = G.K) (E : ExF G c) (hf : G.xf c = fl) (hN : X.N[i]? = some n := by rfl) (hv : Vis X.env.scope n := by first | exact Or.inl rfl | exact Or.inr (Or.inl rfl) | exact Or.inr (Or.inr rfl)) (hd : (n == ("__debug__" : Str)) = false := by decide)
    (hcd : (n == ("__classdict__" : Str)) = false := by decide) (hb : attributeBase (.Name n p1) fl X.env (eval (.Name n p1) X.env) = eval (.Name n p1) X.env := by rfl) : SX G X c i (.Attribute (.Name n p1) fl pos) xF := by
  subst hf
  refine ⟨fun a dd oe pn hz hf => ⟨fun pins s σ H Q I q => ?_⟩⟩
  obtain ⟨r, h, d, v, w', e1, e2, sm, rd, e3, k⟩ := q
  refine attr_of hb (thn ((pe_var (X := X.suite a ((a, oe) :: pn)) (i := i) hN hv hd hcd).run pins s σ H (fun x H' => x = .ref a ∧ H' = H) I ⟨.ref a, e1, rfl, rfl⟩) fun u s1 ⟨x, H1, I1, rx, ex, eH⟩ => ?_)
  subst ex eH
  obtain rfl : u = Value.ref a := rx
  obtain ⟨ha, _⟩ := I1.pin (a, oe) (List.mem_append_left _ List.mem_cons_self)
  obtain ⟨vs, hd⟩ := hf
  have hx : ObjOk X.prog X.w H1 s1.heap dd (.xd [(G.xf c, v)]) := I1.hok dd _ e2
  obtain ⟨mA, hns, hr⟩ := hx
  obtain ⟨od, ho, hl⟩ := lookIn_ns hns
  have l : List.lookup (G.xf c) [(G.xf c, v)] = some v := by simp [List.lookup]
  obtain ⟨u, hu, ru⟩ := RelO.some_of (v := v) (o := mA (G.xf c)) (by rw [← l]; exact hr (G.xf c))
  have J : PySem.W.InstAt s1.heap a oe (G.ga c) (some od) := ⟨ha, hz.1, by unfold PySem.W.notCls; rw [hd] <;> rfl, by rw [hz.2]; exact ho⟩
  refine HandSPX.exc_get I1.kIn J (by show PySem.W.findIn X.K _ _ = _; rw [hK]; exact E.ga) (by show PySem.W.findIn X.K _ _ = _; rw [hK]; exact E.gg) (by show PySem.W.subIn X.K _ _ = _; rw [hK]; exact E.exC)
    (PySem.W.findObj_own (by show PySem.W.hasDictIn X.K _ = _; rw [hK]; exact E.hdC) (by show PySem.W.findIn X.K _ _ = _; rw [hK]; exact E.noN) rfl (by rw [hl, hu])) (handed_of ru) ⟨v, H1, I1.tok _, ru, ?_⟩
  cases e3
  exact k v rd
def xRepr (m : Hm → D → Option D) : Hm → D → Option D := fun h d => match m h d with
  | some w => match reprD h w with
    | some t => some (.str t)
    | none => none
  | none => none
theorem sx_repr {np : Pos} (hK : X.K = G.K) (hgd : X.A.guards = some []) (hu : X.A.units + 200 < cLine) (ha : SX G X c i x m) (hm : X.mg "repr" = none) (hg : Gl X "repr" := by rfl) (he : starEach [x] X.env = (false, eval x X.env) :: starEach [] X.env := by rfl) (hpl : (backTo pos (starEach [] X.env)).any (·.1) = false := by rfl) :
    SX G X c i (.Call (.Name "repr" np) [x] [] pos) (xRepr m) := by
  refine ⟨fun a dd oe pn hz hf => pe_imp (pe_callB (X := X.suite a ((a, oe) :: pn)) (call_repr (X := X.suite a ((a, oe) :: pn)) hgd hu) hg hm (by decide +kernel) (pa_cons (ha.pe a dd oe pn hz hf) pa_nil he) (by decide) (by decide) he hpl) fun σ H Q q => ?_⟩
  obtain ⟨r, h, d, v, w', e1, e2, sm, rd, e3, k⟩ := q
  unfold xRepr at e3
  split at e3
  · rename_i w em
    split at e3
    · rename_i t et
      cases e3
      refine ⟨r, h, d, v, w, e1, e2, sm, rd, em, fun u ru => ?_⟩
      obtain ⟨d2, h1, h2, h3, h4, h5, h6⟩ := repr_rep sm ru et
      exact ⟨u, d2, rfl, by show Dp X.K _ _ _; rw [hK]; exact h1, h2, h3, h4, h5, by rw [h6]; exact k _ (.str t)⟩
    · cases e3
  · cases e3
def xNil : Hm → D → Option (List D) := fun _ _ => some []
def xCons (m : Hm → D → Option D) (mm : Hm → D → Option (List D)) : Hm → D → Option (List D) := fun h d => match m h d, mm h d with
  | some w, some ws => some (w :: ws)
  | _, _ => none
theorem sxs_nil : SXs G X c i [] xNil := ⟨fun a dd oe pn hz hf => pa_imp pa_nil fun σ H Q ⟨r, h, d, v, w', _, _, _, _, e, k⟩ => by cases e; exact k [] .nil⟩
theorem sxs_cons (ha : SX G X c i x m) (hr : SXs G X c i xs mm) (hs : starEach (x :: xs) X.env = (false, eval x X.env) :: starEach xs X.env := by rfl) : SXs G X c i (x :: xs) (xCons m mm) := by
  refine ⟨fun a dd oe pn hz hf => pa_imp (pa_cons (ha.pe a dd oe pn hz hf) (hr.pa a dd oe pn hz hf) hs) fun σ H Q q => ?_⟩
  obtain ⟨r, h, d, v, w', e1, e2, sm, rd, e3, k⟩ := q
  unfold xCons at e3
  split at e3
  · rename_i w ws h1 h2
    cases e3
    exact ⟨r, h, d, v, w, e1, e2, sm, rd, h1, fun u ru => ⟨r, h, d, v, ws, e1, e2, sm, rd, h2, fun us rs => k _ (.cons ru rs)⟩⟩
  · cases e3
/-- return [..] -/
def xLst (mm : Hm → D → Option (List D)) : Hm → D → Re D := fun h d => match mm h d with
  | some ws => newL ws h
  | none => .no
theorem sxb_lst {p2 : Pos} (ha : SXs G X c i xs mm) : SXb G X c i [.Return (some (.List xs pos)) p2] (xLst mm) := by
  refine ⟨fun a dd oe pn hz hf => pss_imp (pss_one (ps_ret (pe_lst (ha.pa a dd oe pn hz hf)))) fun Z σ H q => ?_⟩
  obtain ⟨r, h, d, v, e1, e2, sm, rd, p⟩ := q
  unfold xLst at p
  cases e : mm h d with
  | none => rw [e] at p; exact p.elim
  | some ws =>
    rw [e] at p
    exact ⟨r, h, d, v, ws, e1, e2, sm, rd, e, fun us rs => post_newL sm rs p⟩
def xOne (m : Hm → D → Option D) : Hm → D → Re D := fun h d => match m h d with
  | some w => .ok w h
  | none => .no
theorem sxb_one {p2 : Pos} (ha : SX G X c i x m) : SXb G X c i [.Return (some x) p2] (xOne m) := by
  refine ⟨fun a dd oe pn hz hf => pss_imp (pss_one (ps_ret (ha.pe a dd oe pn hz hf))) fun Z σ H q => ?_⟩
  obtain ⟨r, h, d, v, e1, e2, sm, rd, p⟩ := q
  unfold xOne at p
  cases e : m h d with
  | none => rw [e] at p; exact p.elim
  | some w =>
    rw [e] at p
    exact ⟨r, h, d, v, w, e1, e2, sm, rd, e, fun u ru => p u H r Gr.refl sm ru⟩

/-! ### f(lambda: x), f: try: return its argument() / except C as e: .. -/
def TTx (G : Gx) (c : Nat) (M : Hm → D → Re D) : (XK → Hp → VK → Prop) → Hp → VK → Prop := fun tl H Q =>
  tl (fun cls d H' => cls = .ref (G.ga c) ∧ ∃ dd r h dv v, d = some dd ∧ H' dd = some (.xd [(G.xf c, v)]) ∧ Sim G r H' h ∧ Rep G r H' dv v ∧ Post G never (RD G) r H' (M h dv) Q) H Q
theorem told_x {Ng : List Str} {nf an en q cn : Str} {sg : Scope} {g : Addr} {cdg : Value} {M : Hm → D → Re D} {st : Stmt} {sts : List Stmt} {p1 p2 p3 p4 p6 p8 : Pos} (hK : X.K = G.K) (hge : sg.names.lookup cn = some .globalImplicit) (hme : X.mg cn = some (.ref (G.ga c))) (hde : (cn == ("__debug__" : Str)) = false)
    (hN : Ng.Nodup) (h1 : Ng[1]? = some en) (h2 : Ng.length = 2) (hln : sg.kind = .function ∧ sg.names.lookup en = some .local) (hln' : ∀ (a : Addr) (cd : Value), (envOfC nf sg a g cd).kindOf en = some .local)
    (te : PySem.W.exmOne G.K (.ref (G.ga c)) (.ref (G.ga c)) = some true)
    (hsu : ∀ (s : Shared) (H : Hp), SXb G (cxOf C8.CX0 X.prog X.w X.K X.mg X.base Ng nf sg g cdg X.A X.stack s H C8.E0).nox c 1 (st :: sts) M) :
    LamX.GivesTo X Ng nf sg g cdg [.Try [.Return (some (.Call (.Name an p1) [] [] p2)) p3] [.ExceptHandler (some (.Name cn p4)) (some en) (st :: sts) p6] [] [] p8] an q (TTx G c M) := by
  intro f c' s H Q tl act hc hq
  have hgl : Gl (cxOf C8.CX0 X.prog X.w X.K X.mg X.base Ng nf sg g cdg X.A X.stack s H C8.E0).nox cn := hge
  have s0 : (L2.start Ng [V.ref f])[0]? = some (some (V.ref f)) := by
    unfold L2.start
    rfl
  refine ⟨_, pss_one (ps_try_as (X := (cxOf C8.CX0 X.prog X.w X.K X.mg X.base Ng nf sg g cdg X.A X.stack s H C8.E0).nox) (c := .ref (G.ga c)) (i := 1) (n := en)
      (tb := fun W D σ H => ∃ Ech : XK, (∀ cls d σ' H', Ech cls d H' → W cls d σ' H') ∧ σ[0]? = some (some (.ref f)) ∧ H c' = some (LamX.CodeO c' q) ∧ tl Ech H D.rt)
      (ts := fun a cls d => fun Z σ H => cls = .ref (G.ga c) ∧ ∃ dd, d = some dd ∧ ∃ r h dv v, (∃ σ0 : L2.St, σ = σ0.set 1 (some (V.ref a))) ∧ H dd = some (.xd [(G.xf c, v)]) ∧ Sim G r H h ∧ Rep G r H dv v ∧ Post G never (RD G) r H (M h dv) Z.rt)
      rfl rfl hN h1 (hln' _ _) ⟨hgl, hde, .inl hme⟩ LamX.takes0 (fun W pn xe tk _ => ?_) (fun a oe cls d pn hz hf => ?_)), ?_⟩
  · refine ⟨fun pins s' σ H' D I h' => ?_⟩
    obtain ⟨Ech, hW, k1, k2, k3⟩ := h'
    have hp := act W pn xe Ech p1 p2 tk hW
    exact (pss_one (ps_ret (pos := p3) hp)).run pins s' σ H' D I ⟨k1, k2, k3⟩
  · refine ⟨fun pins s' σ H' D I h' => ?_⟩
    obtain ⟨rfl, dd, rfl, r, h, dv, v, ⟨σ0, rfl⟩, rest⟩ := h'
    have l := I.len
    rw [List.length_set] at l
    have l2 : σ0.length = 2 := l.trans h2
    exact ((hsu s H).pss a dd oe pn hz hf).run pins s' _ H' D I ⟨r, h, dv, v, List.getElem?_set_self (by omega), rest⟩
  · refine ⟨_, fun cls d σ' H' hE => ?_, s0, hc, hq⟩
    obtain ⟨rfl, dd, r, h, dv, v, rfl, rest⟩ := hE
    exact ⟨true, by show PySem.W.exmOne X.K _ _ = _; rw [hK]; exact te, fun _ a _ => ⟨rfl, dd, rfl, r, h, dv, v, ⟨σ', rfl⟩, rest⟩, fun z => by cases z⟩
def mTold (c : Nat) (M : Hm → D → Re D) (lam : ME) : ME := fun e h => match lam e h with
  | .ok d h' => .ok d h'
  | .ex c' d h' => if c' = c then noEx (M h' d) else .no
  | .no => .no
theorem sim_ext {H1 : Hp} (s : Sim G r H h) (eN : LamX.ExtN H H1) (t : LamX.Tabs G.T H1) : Sim G r H1 h ∧ Gr G r H r H1 := by
  have g : Gr G r H r H1 := by
    refine ⟨fun _ _ q => q, fun b xs q => ?_⟩
    rcases q with (q | ⟨u, q⟩) | q
    · exact .inl (.inl (eN b _ q fun ps z => by cases z))
    · exact .inl (.inr ⟨u, eN b _ q fun ps z => by cases z⟩)
    · exact .inr q
  refine ⟨⟨s.len, s.nd, fun n ob b e1 e2 => ?_, t⟩, g⟩
  have q := s.at_ n ob b e1 e2
  obtain ⟨o, ho, _, _, _, nb, _⟩ := q.there
  exact q.keep g ((eN b o ho nb).trans ho.symm)
theorem se_lam {Ng : List Str} {nf an : Str} {sg : Scope} {g cc P : Addr} {k : Nat} {pg : Arguments} {bg : List Stmt} {dV kV doc pm cdv ct oc : Value} {ano od : Option Addr} {osl : Array (Option Value)} {M : Hm → D → Re D} {lm : ME}
    {params : Arguments} {body : Expr} {scope : Scope} {np lpos : Pos} (hK : X.K = G.K) (hg : Gl X nf) (hm : X.mg nf = some (.ref g)) (hk : PySem.W.keepIn X.K (.ref g) = true)
    (lk : X.K.lookup g = some ⟨oc, od, .func (PySem.W.fnOf nf nf pg bg sg dV kV doc pm ano cdv ct), osl⟩) (hcg : PySem.W.codeIn X.K cdv nf = true) (hb : L2.Binds X.K (PySem.W.fnOf nf nf pg bg sg dV kV doc pm ano cdv ct) [an] []) (Sg : FnScope Ng [an] sg) (hNg : Ng[0]? = some an) (hva : Vis sg an)
    (hG : LamX.GivesTo X Ng nf sg g cdv bg an (X.env.qual ++ "<lambda>") (TTx G c M))
    (TB : LamX.TabB X.base X.mg cc P) (hcode : X.env.code = .ref cc) (hmT : (P, X.env.qual ++ "<lambda>") ∈ G.T) (hu : ∀ p ∈ G.T, p.1 = P → p.2 = X.env.qual ++ "<lambda>") (hr : Room (k + 2) X.A) (L : LamX.LamS X.env.scope scope) (hdef : defaultsOf params X.env = ([], []))
    (hbind : ∀ (q : Str) (cl : List (Str × Addr)) (pm cv ctv : Value), bindArgs (PySem.W.kla_fn "<lambda>" q params body scope cl pm cv ctv) ⟨[], []⟩ = pure [])
    (hbody : ∀ (A : Around) (outer : List Env) (s : Shared) (H : Hp) (E : XK) (f c' : Addr), Room k (A.deeper (LamX.lamEnv X scope s.heap.objs.size f c')) → SE G (LamX.lamCx X A outer s H E scope f c') (fun c d _ H' => E c d H') body lm)
    (hdb : (nf == ("__debug__" : Str)) = false := by decide) (hd : (an == ("__debug__" : Str)) = false := by decide) (hcd : (an == ("__classdict__" : Str)) = false := by decide) :
    SE G X W (.Call (.Name nf np) [.Lambda params body scope lpos] [] pos) (mTold c M lm) := by
  refine ⟨pe_imp (LamX.pe_lamcall (t := fun E => uE G (fun c d _ H' => E c d H') lm) hg hm hk lk hcg hb Sg hNg hva hG TB hcode hmT hu hr L hdef hbind (fun A outer s H E f c' hr' => (hbody A outer s H E f c' hr').pe) hdb hd hcd) fun σ H Q u => ?_⟩
  obtain ⟨r, h, e, s, en, p⟩ := u
  refine ⟨s.tb, fun H1 eN t1 => ?_⟩
  obtain ⟨s1, g1⟩ := sim_ext s eN t1
  refine ⟨r, h, e, s1, en.mono g1, ?_⟩
  have p1 := Post.mono g1 p
  unfold mTold at p1
  cases q : lm e h with
  | ok d h' => rw [q] at p1; exact p1
  | ex c' d h' =>
    rw [q] at p1
    simp only at p1
    split at p1
    · rename_i ec
      subst ec
      exact fun v H' r' dd g2 s2 rv hd => ⟨rfl, dd, r', h', d, v, rfl, hd, s2, rv, post_noEx (Post.mono g2 p1)⟩
    · exact p1.elim
  | no => rw [q] at p1; exact p1.elim
end
end L2.Lv
end
section
set_option maxRecDepth 100000
set_option maxHeartbeats 4000000
set_option autoImplicit false
namespace L2.Lv
open PySem PySem.Spec PyProof.Rows

/-! ### the rules in short -/
theorem hu200 {k : Nat} {A : Around} (hr : Room k A) : A.units + 200 < cLine := by have := hr.un; omega
section
variable {G : Gx} {X : Cx} {W : WX} {x y z tg : Expr} {xs : List Expr} {ma mb mc : ME} {mt mu : MT} {ms : MA} {pos : Pos} {st : Stmt} {sts : List Stmt} {a b : MS} {k : Nat}
def mNeg (a : ME) : ME := fun e h => (a e h).bind fun d h1 => match d with
  | .int i => .ok (.int (-i)) h1
  | _ => .no
theorem e_neg (ha : SE G X W x ma) : SE G X W (.UnaryOp .USub x pos) (mNeg ma) := by
  refine ⟨pe_imp (pe_un un_neg ha.pe) fun σ H Q u => ?_⟩
  obtain ⟨r, h, e, s, en, p⟩ := u
  refine uG_weak (stepP s en p) ?_
  rintro v H1 ⟨r1, h1, a, g1, s1, en1, ra, p1⟩
  cases ra with
  | int i => exact ⟨i, rfl, p1 _ H1 r1 Gr.refl s1 (.int _)⟩
  | _ => exact p1.elim
theorem e_eq (hK : X.K = G.K) (hr : Room k X.A) (ha : SE G X W x ma) (hb : SE G X W y mb) : SE G X W (.Compare x [.Eq] [y] pos) (mBin pEq ma mb) := se_cmp (hK ▸ op_eqP (hu200 hr)) prim_eq ha hb (nomark _)
theorem e_ne (hK : X.K = G.K) (hr : Room k X.A) (ha : SE G X W x ma) (hb : SE G X W y mb) : SE G X W (.Compare x [.NotEq] [y] pos) (mBin pNe ma mb) := se_cmp (hK ▸ op_neP (hu200 hr)) prim_ne ha hb (nomark _)
theorem e_in (hK : X.K = G.K) (hr : Room k X.A) (ha : SE G X W x ma) (hb : SE G X W y mb) (hm : behindInMarks .In y = false := by rfl) : SE G X W (.Compare x [.In] [y] pos) (mBin (pIn false) ma mb) :=
  se_cmp (hK ▸ op_inD (by have := hu200 hr; omega)) prim_in ha hb hm
theorem e_nin (hK : X.K = G.K) (hr : Room k X.A) (ha : SE G X W x ma) (hb : SE G X W y mb) (hm : behindInMarks .NotIn y = false := by rfl) : SE G X W (.Compare x [.NotIn] [y] pos) (mBin (pIn true) ma mb) :=
  se_cmp (hK ▸ op_notInD (by have := hu200 hr; omega)) prim_notIn ha hb hm
theorem e_lt (ha : SE G X W x ma) (hb : SE G X W y mb) : SE G X W (.Compare x [.Lt] [y] pos) (mBin pLt ma mb) := se_cmp op_lt prim_cmp ha hb (nomark _)
theorem e_le (ha : SE G X W x ma) (hb : SE G X W y mb) : SE G X W (.Compare x [.LtE] [y] pos) (mBin pLe ma mb) := se_cmp op_le prim_cmp ha hb (nomark _)
theorem e_gt (ha : SE G X W x ma) (hb : SE G X W y mb) : SE G X W (.Compare x [.Gt] [y] pos) (mBin pGt ma mb) := se_cmp op_gt prim_cmp ha hb (nomark _)
theorem e_ge (ha : SE G X W x ma) (hb : SE G X W y mb) : SE G X W (.Compare x [.GtE] [y] pos) (mBin pGe ma mb) := se_cmp op_ge prim_cmp ha hb (nomark _)
theorem e_is (ha : SE G X W x ma) (hb : SE G X W y mb) : SE G X W (.Compare x [.Is] [y] pos) (mBin (pIs false) ma mb) := se_cmp op_isAll prim_is ha hb (nomark _)
theorem e_isnt (ha : SE G X W x ma) (hb : SE G X W y mb) : SE G X W (.Compare x [.IsNot] [y] pos) (mBin (pIs true) ma mb) := se_cmp op_isNotAll prim_is ha hb (nomark _)
theorem t_eq (hK : X.K = G.K) (hr : Room k X.A) (ha : SE G X W x ma) (hb : SE G X W y mb) : ST G X W (.Compare x [.Eq] [y] pos) (mTb (mBin pEq ma mb)) := st_cmp (hK ▸ op_eqP (hu200 hr)) prim_eq ha hb (nomark _)
theorem t_ne (hK : X.K = G.K) (hr : Room k X.A) (ha : SE G X W x ma) (hb : SE G X W y mb) : ST G X W (.Compare x [.NotEq] [y] pos) (mTb (mBin pNe ma mb)) := st_cmp (hK ▸ op_neP (hu200 hr)) prim_ne ha hb (nomark _)
theorem t_in (hK : X.K = G.K) (hr : Room k X.A) (ha : SE G X W x ma) (hb : SE G X W y mb) (hm : behindInMarks .In y = false := by rfl) : ST G X W (.Compare x [.In] [y] pos) (mTb (mBin (pIn false) ma mb)) :=
  st_cmp (hK ▸ op_inD (by have := hu200 hr; omega)) prim_in ha hb hm
theorem t_nin (hK : X.K = G.K) (hr : Room k X.A) (ha : SE G X W x ma) (hb : SE G X W y mb) (hm : behindInMarks .NotIn y = false := by rfl) : ST G X W (.Compare x [.NotIn] [y] pos) (mTb (mBin (pIn true) ma mb)) :=
  st_cmp (hK ▸ op_notInD (by have := hu200 hr; omega)) prim_notIn ha hb hm
theorem t_lt (ha : SE G X W x ma) (hb : SE G X W y mb) : ST G X W (.Compare x [.Lt] [y] pos) (mTb (mBin pLt ma mb)) := st_cmp op_lt prim_cmp ha hb (nomark _)
theorem t_le (ha : SE G X W x ma) (hb : SE G X W y mb) : ST G X W (.Compare x [.LtE] [y] pos) (mTb (mBin pLe ma mb)) := st_cmp op_le prim_cmp ha hb (nomark _)
theorem t_gt (ha : SE G X W x ma) (hb : SE G X W y mb) : ST G X W (.Compare x [.Gt] [y] pos) (mTb (mBin pGt ma mb)) := st_cmp op_gt prim_cmp ha hb (nomark _)
theorem t_ge (ha : SE G X W x ma) (hb : SE G X W y mb) : ST G X W (.Compare x [.GtE] [y] pos) (mTb (mBin pGe ma mb)) := st_cmp op_ge prim_cmp ha hb (nomark _)
theorem t_is (ha : SE G X W x ma) (hb : SE G X W y mb) : ST G X W (.Compare x [.Is] [y] pos) (mTb (mBin (pIs false) ma mb)) := st_cmp op_isAll prim_is ha hb (nomark _)
theorem t_isnt (ha : SE G X W x ma) (hb : SE G X W y mb) : ST G X W (.Compare x [.IsNot] [y] pos) (mTb (mBin (pIs true) ma mb)) := st_cmp op_isNotAll prim_is ha hb (nomark _)
theorem e_add (hK : X.K = G.K) (ha : SE G X W x ma) (hb : SE G X W y mb) : SE G X W (.BinOp x .Add y pos) (mBin pAdd ma mb) := se_op (hK ▸ op_addAll) prim_add ha hb
theorem e_sub (ha : SE G X W x ma) (hb : SE G X W y mb) : SE G X W (.BinOp x .Sub y pos) (mBin pSub ma mb) := se_op op_sub' prim_sub ha hb
theorem e_mul (ha : SE G X W x ma) (hb : SE G X W y mb) : SE G X W (.BinOp x .Mult y pos) (mBin pMulA ma mb) := se_op op_mulAll prim_mulA ha hb
theorem e_fd (ha : SE G X W x ma) (hb : SE G X W y mb) : SE G X W (.BinOp x .FloorDiv y pos) (mBin pFd ma mb) := se_op op_fdivW prim_fd ha hb
theorem e_md (ha : SE G X W x ma) (hb : SE G X W y mb) : SE G X W (.BinOp x .Mod y pos) (mBin pMd ma mb) := se_op op_mod prim_md ha hb
theorem e_pw (ha : SE G X W x ma) (hb : SE G X W y mb) : SE G X W (.BinOp x .Pow y pos) (mBin pPw ma mb) := se_op op_pow prim_pw ha hb
theorem e_ix (hK : X.K = G.K) (ha : SE G X W x ma) (hb : SE G X W y mb) (hs : PlainIx y := by intro _ _; rfl) : SE G X W (.Subscript x y pos) (mBin pIdx ma mb) := se_ix (hK ▸ ix_seq) prim_idx ha hb hs
section
variable {np apos : Pos}
theorem e_len (hK : X.K = G.K) (hm : X.mg "len" = none) (ha : SE G X W x ma) (hg : Gl X "len" := by rfl) (he : starEach [x] X.env = (false, eval x X.env) :: starEach [] X.env := by rfl) (hpl : (backTo pos (starEach [] X.env)).any (·.1) = false := by rfl) : SE G X W (.Call (.Name "len" np) [x] [] pos) (mApp pLen (mCons ma mNil)) :=
  se_callB (hK ▸ call_lenAll) primC_len hm (by decide +kernel) (sa_cons ha sa_nil he) hg (by decide) (by decide) he hpl
theorem e_list (hK : X.K = G.K) (hm : X.mg "list" = none) (ha : SE G X W x ma) (hg : Gl X "list" := by rfl) (he : starEach [x] X.env = (false, eval x X.env) :: starEach [] X.env := by rfl) (hpl : (backTo pos (starEach [] X.env)).any (·.1) = false := by rfl) : SE G X W (.Call (.Name "list" np) [x] [] pos) (mApp pList (mCons ma mNil)) :=
  se_callTy (hK ▸ call_list_of) primC_list hm (by decide +kernel) (sa_cons ha sa_nil he) hg (by decide) (by decide) he hpl
theorem e_tuple (hK : X.K = G.K) (hm : X.mg "tuple" = none) (ha : SE G X W x ma) (hg : Gl X "tuple" := by rfl) (he : starEach [x] X.env = (false, eval x X.env) :: starEach [] X.env := by rfl) (hpl : (backTo pos (starEach [] X.env)).any (·.1) = false := by rfl) : SE G X W (.Call (.Name "tuple" np) [x] [] pos) (mApp pTuple (mCons ma mNil)) :=
  se_callTy (hK ▸ call_tuple_of) primC_tuple hm (by decide +kernel) (sa_cons ha sa_nil he) hg (by decide) (by decide) he hpl
theorem e_int (hm : X.mg "int" = none) (ha : SE G X W x ma) (hg : Gl X "int" := by rfl) (he : starEach [x] X.env = (false, eval x X.env) :: starEach [] X.env := by rfl) (hpl : (backTo pos (starEach [] X.env)).any (·.1) = false := by rfl) : SE G X W (.Call (.Name "int" np) [x] [] pos) (mApp pInt1 (mCons ma mNil)) :=
  se_callTy call_int1 primC_int hm (by decide +kernel) (sa_cons ha sa_nil he) hg (by decide) (by decide) he hpl
theorem e_max (hK : X.K = G.K) (hc : X.calm = true) (hm : X.mg "max" = none) (ha : SA G X W (x :: xs) ms) (hg : Gl X "max" := by rfl) (he : starEach (x :: xs) X.env = (false, eval x X.env) :: starEach xs X.env := by rfl) (hpl : (backTo pos (starEach xs X.env)).any (·.1) = false := by rfl) : SE G X W (.Call (.Name "max" np) (x :: xs) [] pos) (mApp (pMM maxI) ms) :=
  se_callB (hK ▸ call_maxAll hc) primC_max hm (by decide +kernel) ha hg (by decide) (by decide) he hpl
theorem e_min (hK : X.K = G.K) (hc : X.calm = true) (hm : X.mg "min" = none) (ha : SA G X W (x :: xs) ms) (hg : Gl X "min" := by rfl) (he : starEach (x :: xs) X.env = (false, eval x X.env) :: starEach xs X.env := by rfl) (hpl : (backTo pos (starEach xs X.env)).any (·.1) = false := by rfl) : SE G X W (.Call (.Name "min" np) (x :: xs) [] pos) (mApp (pMM minI) ms) :=
  se_callB (hK ▸ call_minAll hc) primC_min hm (by decide +kernel) ha hg (by decide) (by decide) he hpl
theorem e_all (hK : X.K = G.K) (hc : X.calm = true) (hm : X.mg "all" = none) (ha : SE G X W x ma) (hg : Gl X "all" := by rfl) (he : starEach [x] X.env = (false, eval x X.env) :: starEach [] X.env := by rfl) (hpl : (backTo pos (starEach [] X.env)).any (·.1) = false := by rfl) : SE G X W (.Call (.Name "all" np) [x] [] pos) (mApp (pAA fun bs => bs.all id) (mCons ma mNil)) :=
  se_callB (hK ▸ cr_all hc) primC_aa hm (by decide +kernel) (sa_cons ha sa_nil he) hg (by decide) (by decide) he hpl
theorem e_any (hK : X.K = G.K) (hc : X.calm = true) (hm : X.mg "any" = none) (ha : SE G X W x ma) (hg : Gl X "any" := by rfl) (he : starEach [x] X.env = (false, eval x X.env) :: starEach [] X.env := by rfl) (hpl : (backTo pos (starEach [] X.env)).any (·.1) = false := by rfl) : SE G X W (.Call (.Name "any" np) [x] [] pos) (mApp (pAA fun bs => bs.any id) (mCons ma mNil)) :=
  se_callB (hK ▸ cr_any hc) primC_aa hm (by decide +kernel) (sa_cons ha sa_nil he) hg (by decide) (by decide) he hpl
theorem e_repr (hK : X.K = G.K) (hgd : X.A.guards = some []) (hr : Room k X.A) (hm : X.mg "repr" = none) (ha : SE G X W x ma) (hg : Gl X "repr" := by rfl) (he : starEach [x] X.env = (false, eval x X.env) :: starEach [] X.env := by rfl) (hpl : (backTo pos (starEach [] X.env)).any (·.1) = false := by rfl) : SE G X W (.Call (.Name "repr" np) [x] [] pos) (mApp pRepr (mCons ma mNil)) :=
  se_callB (hK ▸ call_repr hgd (hu200 hr)) primC_repr hm (by decide +kernel) (sa_cons ha sa_nil he) hg (by decide) (by decide) he hpl
theorem e_append (hK : X.K = G.K) (ho : SE G X W z ma) (ha : SE G X W x mb)
    (hbase : attributeBase z "append" X.env (eval z X.env) = eval z X.env := by rfl)
    (hfew : ((backTo pos (starEach [x] X.env)).all (fun x => !x.1) && (backToKw pos (keywordEach [] X.env)).all (fun x => x.1.isSome)
      && decide (([x] : List Expr).length + ([] : List Keyword).length + (if ([] : List Keyword).isEmpty then 0 else 1) < 30)) = true := by rfl)
    (hline : (apos.endLine == pos.line) = true := by rfl) (hs : starEach [x] X.env = (false, eval x X.env) :: starEach [] X.env := by rfl) (hplain : (backTo pos (starEach [] X.env)).any (·.1) = false := by rfl) : SE G X W (.Call (.Attribute z "append" apos) [x] [] pos) (mMethL pAppend ma (mCons mb mNil)) :=
  se_methL PySem.F.slot_list_append PySem.F.type_list_append mt_append primM_append hK ho (sa_cons ha sa_nil hs) hbase hfew hline hs hplain
theorem e_extend (hK : X.K = G.K) (ho : SE G X W z ma) (ha : SE G X W x mb)
    (hbase : attributeBase z "extend" X.env (eval z X.env) = eval z X.env := by rfl)
    (hfew : ((backTo pos (starEach [x] X.env)).all (fun x => !x.1) && (backToKw pos (keywordEach [] X.env)).all (fun x => x.1.isSome)
      && decide (([x] : List Expr).length + ([] : List Keyword).length + (if ([] : List Keyword).isEmpty then 0 else 1) < 30)) = true := by rfl)
    (hline : (apos.endLine == pos.line) = true := by rfl) (hs : starEach [x] X.env = (false, eval x X.env) :: starEach [] X.env := by rfl) (hplain : (backTo pos (starEach [] X.env)).any (·.1) = false := by rfl) : SE G X W (.Call (.Attribute z "extend" apos) [x] [] pos) (mMethL pExtendA ma (mCons mb mNil)) :=
  se_methL PySem.F.slot_list_extend PySem.F.type_list_extend (hK ▸ mt_extendA) primM_extendA hK ho (sa_cons ha sa_nil hs) hbase hfew hline hs hplain
theorem e_pop (hK : X.K = G.K) (ho : SE G X W z ma) (hbase : attributeBase z "pop" X.env (eval z X.env) = eval z X.env := by rfl) (hline : (apos.endLine == pos.line) = true := by rfl) : SE G X W (.Call (.Attribute z "pop" apos) [] [] pos) (mMethL0 pPop ma) :=
  se_methL0 PySem.F.slot_list_pop PySem.F.type_list_pop mt_pop primM_pop hK ho hbase hline
theorem e_isascii (ho : SE G X W z ma) (hbase : attributeBase z "isascii" X.env (eval z X.env) = eval z X.env := by rfl) (hline : (apos.endLine == pos.line) = true := by rfl) : SE G X W (.Call (.Attribute z "isascii" apos) [] [] pos) (mUn (pStrT Txt.isascii) ma) :=
  se_strT PySem.F.slot_str_isascii PySem.F.type_str_isascii mt_isascii ho hbase hline
theorem e_isalpha (ho : SE G X W z ma) (hbase : attributeBase z "isalpha" X.env (eval z X.env) = eval z X.env := by rfl) (hline : (apos.endLine == pos.line) = true := by rfl) : SE G X W (.Call (.Attribute z "isalpha" apos) [] [] pos) (mUn (pStrT Txt.isalpha) ma) :=
  se_strT PySem.F.slot_str_isalpha PySem.F.type_str_isalpha mt_isalpha ho hbase hline
theorem e_islower (ho : SE G X W z ma) (hbase : attributeBase z "islower" X.env (eval z X.env) = eval z X.env := by rfl) (hline : (apos.endLine == pos.line) = true := by rfl) : SE G X W (.Call (.Attribute z "islower" apos) [] [] pos) (mUn (pStrT Txt.islower) ma) :=
  se_strT PySem.F.slot_str_islower PySem.F.type_str_islower mt_islower ho hbase hline
/-- x += a number -/
theorem s_iadd (i : Nat) {n : Str} {pos' : Pos} (hN : X.N.Nodup) (ha : SE G X W x ma) (hi : X.N[i]? = some n := by rfl) (hx : Loc X.env.scope n := by first | exact Or.inl rfl | exact Or.inr rfl) (hd : (n == ("__debug__" : Str)) = false := by decide) (hcd : (n == ("__classdict__" : Str)) = false := by decide) :
    True := trivial
end
/-! the class as a value -/
theorem cls_ty {n : Str} {T : String} {p : Pos} (hg : Gl X n) (hm : X.mg n = none) (hv : bootBuiltins n = some (.type T)) (hn : n ≠ "__name__" := by decide) (hd : (n == ("__debug__" : Str)) = false := by decide) : PE X (.Name n p) (tC (.ty T)) := pe_bltn hg hm hv rfl hn hd
theorem cls_own {n : Str} {C : Addr} {p : Pos} (hg : Gl X n) (hm : X.mg n = some (.ref C)) (hd : (n == ("__debug__" : Str)) = false := by decide) : PE X (.Name n p) (tC (.ref C)) := pe_glob hg hm rfl hd
end
end L2.Lv
end
section
set_option maxRecDepth 100000
set_option maxHeartbeats 4000000
set_option autoImplicit false
namespace L2.Lv
open PySem PySem.Spec PyProof.Rows
def clsBody : Stmt → List Stmt
  | .ClassDef (body := b) .. => b
  | _ => []
section
variable {G : Gx} {X : Cx} {W : WX} {x : Expr} {pos : Pos}
theorem se_globI {i : Int} {n : Str} (h : ∃ t, X.mg n = some (.int i t)) (hg : Gl X n := by rfl) (hd : (n == ("__debug__" : Str)) = false := by decide) : SE G X W (.Name n pos) (mC (.int i)) := by
  obtain ⟨t, h⟩ := h
  exact se_glob (v := .int i) h ⟨t, rfl⟩ (fun _ _ => .int i) hg hd
theorem sg_more {m : MG} {vs ws : List Nat} (h : SG G X x m vs) (hs : ∀ i ∈ vs, i ∈ ws := by decide) : SG G X x m ws :=
  ⟨pg_imp h.pg fun v σ H Q ⟨r, hm, e, d, e', s, en, rd, em, k⟩ => ⟨r, hm, e, d, e', s, en, rd, em, fun σ' en' ch => k σ' en' (ch.mono hs)⟩⟩
end
def blkB (N : List Str) (sc scope : Scope) (own : List (Str × Nat)) : Bool :=
  decide (scope.kind = .function) && scope.names.all (fun y => decide (scope.names.lookup y.1 = some y.2)) && own.all (fun p => decide (N[p.2]? = some p.1)) &&
  scope.names.all (fun y => !decide (y.2 = .free) || decide (sc.names.lookup y.1 = some .cell) || decide (sc.names.lookup y.1 = some .free)) &&
  scope.names.all (fun y => !(decide (y.2 = .local) || decide (y.2 = .cell)) || decide (y.1 ∈ own.map (·.1)) || !decide (y.1 ∈ N))
theorem blk_by {N : List Str} {sc scope : Scope} {own : List (Str × Nat)} (h : blkB N sc scope own = true) : BlkOk N sc scope own := by
  unfold blkB at h
  simp only [Bool.and_eq_true, List.all_eq_true, Bool.or_eq_true, decide_eq_true_eq, Bool.not_eq_true', decide_eq_false_iff_not, Bool.or_eq_false_iff] at h
  obtain ⟨⟨⟨⟨h1, h2⟩, h3⟩, h4⟩, h5⟩ := h
  refine ⟨h1, h2, h3, fun y hy e => ?_, fun y hy e => ?_⟩
  · rcases h4 y hy with (q | q) | q
    · exact absurd e q
    · exact .inl q
    · exact .inr q
  · rcases h5 y hy with (q | q) | q
    · rcases e with e | e
      · exact absurd e q.1
      · exact absurd e q.2
    · exact .inl q
    · exact .inr q
/-! a def of our own that knows its code's value and the guards -/
section
variable {P : Program} {w : World} {K : PySem.W.Frag} {mg : Str → Option Value} {base : Heap} {G : Gx}
theorem fn_okC {x qual : Str} {st : Stmt} {f : Addr} {fd : FuncData} {N ps : List Str} {k : Nat} {b : MS} (F : Fun K x qual st f fd) (S : FnScope N ps (defScope st))
    (hb : ∀ (cdv : Value) (A : Around) (outer : List Env) (s : Shared) (H : Hp) (E : XK), fd.code = cdv → A.guards = some [] → Room k (A.deeper (envOfC qual (defScope st) s.heap.objs.size f cdv)) →
      SSs G (cxOf (L2.CX P w) P w K mg base N qual (defScope st) f cdv A outer s H E) (fun c d _ H' => E c d H') (defBody st) b) : FnG P w K mg base (L2.CX P w) (k + 1) f fd ps (spM G (mBody ps.length N.length b)) := by
  obtain ⟨oc, od, kV, doc, pm, an, cdv, ct, osl, rfl, lk, hcd⟩ := F.ex
  have hlen : ∀ vs H Q E, spM G (mBody ps.length N.length b) vs H Q E → vs.length = ps.length := fun vs H Q E h => by
    obtain ⟨r, hm, ds, sm, rp, p⟩ := h
    unfold mBody at p
    split at p
    · rename_i c
      rw [← rp.length]
      exact c
    · exact p.elim
  refine ⟨hlen, fun A outer s H args us vs Q E hr hg e0 hbd rv h => ?_⟩
  refine LamX.run_ofS lk hcd S hr e0 hbd rv (hlen _ _ _ _ h) fun hr' => ⟨_, (hb cdv A outer s H E rfl hg hr').pss, ?_⟩
  obtain ⟨r, hm, ds, sm, rp, p⟩ := h
  refine ⟨r, hm, startE N.length ds, sm, ?_, ?_⟩
  · have l := rp.length
    unfold startE start
    rw [l]
    exact start_en rp _
  · unfold mBody at p
    split at p
    · unfold mRun at p
      cases q : b (startE N.length ds) hm with
      | nx e' h' => rw [q] at p; exact fun σ' H' r' g s' _ => p .non H' r' g s' .non
      | rt d h' => rw [q] at p; exact p
      | ex c d e' h' => rw [q] at p; exact fun v σ' H' r' dd g s' _ rv hd => p v H' r' dd g s' rv hd
      | bk e' h' => rw [q] at p; exact p.elim
      | ct e' h' => rw [q] at p; exact p.elim
      | no => rw [q] at p; exact p.elim
    · exact p.elim
end
end L2.Lv
end
section
set_option maxRecDepth 100000
set_option maxHeartbeats 4000000
set_option autoImplicit false
namespace L2.Lv
open PySem PySem.Spec PyProof.Rows

/-! ### the end: a law's def that knows of no guard, with tables of code -/
section
variable {P : Program} {w : World} {K : PySem.W.Frag} {mg mb : Str → Option Value} {CX : CXT} {k : Nat} {fa a : Addr} {cs : List (Addr × Addr)} {fd : FuncData} {x : Str} {sp : Sp} {s₁ : Shared} {vs : List Value} {ns : List Int}
/-- the empty table -/
abbrev tab0 : Obj := { cls := .none, data := .fields #[] }
/-- nothing is tracked but the script's list (where it is no written object) and the tables -/
structure Bare (K : PySem.W.Frag) (h : Heap) (H : Hp) (a : Addr) (ts : List Addr) (vs : List Value) : Prop where
  scr : h.get? a = some { cls := .type "list", data := .seq vs.toArray }
  tab : ∀ b ∈ ts, h.get? b = some tab0
  tof : ∀ b ∈ ts, H b = some (.tbl #[])
  what : ∀ b, H b = none ∨ b ∈ ts ∨ (b = a ∧ K.lookup a = none ∧ ∃ o xs, H b = some (.frz o (.lst xs)))
theorem Bare.loose {h : Heap} {H : Hp} {ts : List Addr} (B : Bare K h H a ts vs) {b : Addr} {o : Obj} (e : h.get? b = some o) (h1 : ∀ n l, o.data ≠ .seq n l) (h2 : o.data ≠ .fields #[]) : H b = none := by
  rcases B.what b with q | q | ⟨q, _⟩
  · exact q
  · have z := B.tab b q
    rw [e] at z
    cases z
    exact absurd rfl h2
  · subst q
    have z := B.scr
    rw [e] at z
    cases z
    exact absurd rfl (h1 _ _)
theorem Bare.dict {h : Heap} {H : Hp} {ts : List Addr} (B : Bare K h H a ts vs) {b : Addr} {o : Obj} {es : Array DictEntry} {ep : Nat} (e : h.get? b = some o) (d : o.data = .dict es ep) : H b = none :=
  B.loose e (fun _ _ z => by rw [d] at z; cases z) fun z => by rw [d] at z; cases z
theorem Bare.nsp {h : Heap} {H : Hp} {ts : List Addr} (B : Bare K h H a ts vs) {b : Addr} {m : Str → Option Value} (q : h.Ns b m) : (hidT h H).Ns b m := by
  obtain ⟨o, es, ep, e, d, r⟩ := q
  exact ⟨o, es, ep, hidT_get e (B.dict e d), d, r⟩
theorem Bare.kin {h : Heap} {H : Hp} {ts : List Addr} (B : Bare K h H a ts vs) (KX : K.In h) (nT : ∀ b ∈ ts, K.lookup b = none) : K.In (hidT h H) := fun b o e => by
  refine hidT_get (KX b o e) ?_
  rcases B.what b with q | q | ⟨q, q2, _⟩
  · exact q
  · rw [nT b q] at e
    cases e
  · rw [q, q2] at e
    cases e
theorem run_lawG {H : Hp} (KX : K.In s₁.heap) (hns : s₁.heap.Ns mainGlobals mg) (hb : s₁.heap.Ns builtinsNs mb) (hbb : ∀ x : Str, x ≠ "__name__" → mb x = bootBuiltins x) (hlim : s₁.heap.NoLimit) (hg : s₁.gens = #[])
    (nT : ∀ b ∈ cs.map (·.2), K.lookup b = none) (C : ∀ p ∈ cs, PySem.W.CodeHd s₁.heap p.1 p.2) (B : Bare K s₁.heap H a (cs.map (·.2)) vs) (hok : HOk P w H s₁.heap)
    (hbm : ∃ (bm : Addr) (ob : Obj), mg "__builtins__" = some (.ref bm) ∧ bm ≠ builtinsNs ∧ s₁.heap.get? bm = some ob ∧ ob.cls = .type "module" ∧ ob.dict = some builtinsNs ∧ ob.data = .plain) (hr : Room k callerA)
    (F : ∀ base : Heap, K.In base → base.Ns mainGlobals mg → (∀ p ∈ cs, LamX.TabB base mg p.1 p.2) → FnG P w K mg base CX k fa fd [x] sp) (hbind : ∀ (s : Shared) (u : Value), BindsTo s fd ⟨[u], []⟩ [(x, u)])
    (hsp : sp [.ref a] H (fun v _ => v = .bl true) never) (hCX : ∀ H e s', CX [] H s₁ never e s' → False) :
    codeAny (model P w) callerA (.call (.ref fa) ⟨[.ref a], []⟩) (fun r s' => r = .ok (.ret (.bool true)) ∧ OldK s₁.heap s'.heap ∧ s'.os = s₁.os ∧ AllBare s'.gens) s₁ := by
  have inT : ∀ p ∈ cs, p.2 ∈ cs.map (·.2) := fun p hp => List.mem_map.mpr ⟨p, hp, rfl⟩
  have base1 : K.In (hidT s₁.heap H) := B.kin KX nT
  have md : L2.Mod K mg (hidT s₁.heap H) := by
    refine ⟨base1, B.nsp hns, ⟨mb, B.nsp hb, hbb⟩, ?_⟩
    obtain ⟨mc, h1, h2⟩ := hlim
    exact ⟨mc, B.nsp h1, h2⟩
  have tbs : ∀ p ∈ cs, LamX.TabB (hidT s₁.heap H) mg p.1 p.2 := fun p hp => by
    have at0 := B.tab p.2 (inT p hp)
    obtain ⟨bm, ob, b1, b2, b3, b4, b5, b6⟩ := hbm
    have notG : ∀ {q : Addr} {m : Str → Option Value}, s₁.heap.Ns q m → q ≠ p.2 := fun {q m} z e => by
      obtain ⟨o, es, ep, e1, d, _⟩ := z
      rw [e, at0] at e1
      cases e1
      cases d
    refine ⟨?_, ⟨bm, ob, b1, b2, fun e => ?_, fun e => ?_, hidT_get b3 (B.loose b3 (fun _ _ z => by rw [b6] at z; cases z) fun z => by rw [b6] at z; cases z), b4, b5, b6⟩, notG hns⟩
    · obtain ⟨o, us, file, tf, fl, tg, inF, tx, tt, e1, r1, r2, r3, rest⟩ := C p hp
      refine ⟨o, us, file, tf, fl, tg, inF, tx, tt, hidT_get e1 (B.loose e1 (fun _ _ z => by rw [r2] at z; cases z) fun z => ?_), r1, r2, r3, rest⟩
      rw [r2] at z
      cases z
      simp at r3
    · obtain ⟨o, es, ep, e1, d, _⟩ := hns
      rw [e, e1] at b3
      cases b3
      rw [b6] at d
      cases d
    · rw [e, at0] at b3
      cases b3
      cases b6
  have env : Env0 P w K mg (hidT s₁.heap H) callerA [] s₁ H :=
    ⟨rfl, md, fun b o e => of_hidT e, Nat.le_of_eq (hidT_size _ _), trivial, fun b z => absurd (show b ∈ ([] : List Addr) from z) (by simp), hok, .of_eq hg⟩
  refine codeAny_mono ((F _ base1 (B.nsp hns) tbs).run callerA [] s₁ H ⟨[.ref a], []⟩ [.ref a] [.ref a] _ never hr rfl env (hbind s₁ (.ref a)) (.cons rfl .nil) hsp) fun r s' q => ?_
  match r, q with
  | .error e, q => exact (hCX H e s' q).elim
  | .ok (.ret u), ⟨v, H', os, bare, un, hok', rv, ev⟩ =>
    have ev : v = .bl true := ev
    subst ev
    obtain rfl : u = Value.bool true := rv
    have stay : ∀ b o, b ∉ cs.map (·.2) → s₁.heap.get? b = some o → s'.heap.get? b = some o := fun b o nb e => by
      rcases B.what b with z | z | ⟨_, _, o1, xs, z⟩
      · exact un.keep b o e z (fun m => absurd (show b ∈ ([] : List Addr) from m) (by simp)) (by simp)
      · exact absurd z nb
      · obtain ⟨e1, _⟩ := hok b _ z
        obtain ⟨e2, _⟩ := hok' b _ (un.frzs b o1 _ z)
        rw [e] at e1
        cases e1
        exact e2
    have more : ∀ b ∈ cs.map (·.2), ∃ m : Array Value, s'.heap.get? b = some { cls := .none, data := .fields m } := fun b hb => by
      obtain ⟨m, z⟩ := un.tbls b #[] (B.tof b hb)
      exact ⟨_, hok' b _ z⟩
    refine ⟨rfl, ⟨fun b o e => ?_, fun b o e => ?_⟩, os, bare⟩
    · by_cases hb : b ∈ cs.map (·.2)
      · obtain ⟨p, hp, rfl⟩ := List.mem_map.mp hb
        obtain ⟨m, hm⟩ := more p.2 hb
        rw [B.tab _ hb] at e
        cases e
        exact .inr (.inl ⟨((C p hp).tab (B.tab _ hb)).isCodeTable, rfl, #[], m, rfl, by rw [Array.empty_append]; exact hm⟩)
      · exact .inl (stay b o hb e)
    · by_cases hb : b ∈ cs.map (·.2)
      · obtain ⟨m, hm⟩ := more b hb
        exact ⟨_, hm⟩
      · exact ⟨o, stay b o hb e⟩
  | .ok .next, q => exact False.elim q
  | .ok .brk, q => exact False.elim q
  | .ok .cont, q => exact False.elim q
/-- the start: the script's list is frozen, or written; the tables are empty -/
theorem call_lawG (KX : K.In s₁.heap) (hns : s₁.heap.Ns mainGlobals mg) (hb : s₁.heap.Ns builtinsNs mb) (hbb : ∀ x : Str, x ≠ "__name__" → mb x = bootBuiltins x) (hlim : s₁.heap.NoLimit) (hg : s₁.gens = #[])
    (hT : ∀ b ∈ cs.map (·.2), s₁.heap.get? b = some tab0) (nT : ∀ b ∈ cs.map (·.2), K.lookup b = none) (C : ∀ p ∈ cs, PySem.W.CodeHd s₁.heap p.1 p.2)
    (hbm : ∃ (bm : Addr) (ob : Obj), mg "__builtins__" = some (.ref bm) ∧ bm ≠ builtinsNs ∧ s₁.heap.get? bm = some ob ∧ ob.cls = .type "module" ∧ ob.dict = some builtinsNs ∧ ob.data = .plain)
    (ha : s₁.heap.get? a = some { cls := .type "list", data := .seq vs.toArray }) (hi : IntsAre vs ns) (hl : ns.length ≤ sizeLine) (hr : Room k callerA)
    (F : ∀ base : Heap, K.In base → base.Ns mainGlobals mg → (∀ p ∈ cs, LamX.TabB base mg p.1 p.2) → FnG P w K mg base CX k fa fd [x] sp) (hbind : ∀ (s : Shared) (u : Value), BindsTo s fd ⟨[u], []⟩ [(x, u)])
    (nl : ∀ b o, K.lookup b = some o → o.cls ≠ .type "list") (hsp : ∀ (H : Hp) (o : Obj), (∀ b ∈ cs.map (·.2), H b = some (.tbl #[])) → H a = some (.frz o (.lst (ns.map V.int))) → sp [.ref a] H (fun v _ => v = .bl true) never) (hCX : ∀ H e s', CX [] H s₁ never e s' → False) :
    codeAny (model P w) callerA (.call (.ref fa) ⟨[.ref a], []⟩) (fun r s' => r = .ok (.ret (.bool true)) ∧ OldK s₁.heap s'.heap ∧ s'.os = s₁.os ∧ AllBare s'.gens) s₁ := by
  have rv := vals_ints hi
  have lenV := hi.length
  have aT : a ∉ cs.map (·.2) := fun z => by
    have q := hT a z
    rw [ha] at q
    cases q
  have tb : ∀ b ∈ cs.map (·.2), ObjOk P w (fun _ => none) s₁.heap b (.tbl #[]) := fun b z => hT b z
  cases hk : K.lookup a with
  | some o =>
    have e := KX a o hk
    rw [ha] at e
    cases e
    exact absurd rfl (nl a _ hk)
  | none =>
    let H : Hp := fun b => if b = a then some (.frz { cls := .type "list", data := .seq vs.toArray } (.lst (ns.map V.int))) else if b ∈ cs.map (·.2) then some (.tbl #[]) else none
    have ea : H a = some (.frz { cls := .type "list", data := .seq vs.toArray } (.lst (ns.map V.int))) := if_pos rfl
    have h1 : ∀ b ∈ cs.map (·.2), H b = some (.tbl #[]) := fun b z => (if_neg fun (e : b = a) => aT (by rw [← e]; exact z)).trans (if_pos z)
    refine run_lawG (H := H) KX hns hb hbb hlim hg nT C ⟨ha, hT, h1, fun b => ?_⟩ (fun b u z => ?_) hbm hr F hbind (hsp H _ h1 ea) hCX
    · by_cases q : b = a
      · exact .inr (.inr ⟨q, hk, _, _, by rw [q]; exact ea⟩)
      · by_cases z : b ∈ cs.map (·.2)
        · exact .inr (.inl z)
        · exact .inl ((if_neg q).trans (if_neg z))
    · by_cases q : b = a
      · subst q
        rw [ea] at z
        cases z
        exact ⟨ha, by rw [List.length_map]; exact hl, vs, _, rv, ha⟩
      · by_cases q2 : b ∈ cs.map (·.2)
        · rw [h1 b q2] at z
          cases z
          exact hT b q2
        · have z0 : H b = none := (if_neg q).trans (if_neg q2)
          rw [z0] at z
          cases z
end
/-- what is known of the law's def at the head's heap -/
def LawG (l : PySem.W.OpenLaw) (w : World) (K : PySem.W.Frag) (CX : CXT) (k n : Nat) (x : Str) (mg : Str → Option Value) (fa : Addr) (h : Heap) : Prop :=
  ∃ (fd : FuncData) (cs : List (Addr × Addr)) (sp : Sp), (∀ b ∈ cs.map (·.2), h.get? b = some tab0) ∧ (∀ b ∈ cs.map (·.2), K.lookup b = none) ∧ (∀ p ∈ cs, PySem.W.CodeHd h p.1 p.2) ∧ (∀ (s : Shared) (u : Value), BindsTo s fd ⟨[u], []⟩ [(x, u)]) ∧
    (∀ b o, K.lookup b = some o → o.cls ≠ .type "list") ∧ (∀ (H : Hp) (a : Addr) (o : Obj) (ns : List Int), ns.length ≤ n → (∀ z ∈ ns, Builtin.Int.intBits z ≤ 1048576) → (∀ b ∈ cs.map (·.2), H b = some (.tbl #[])) → H a = some (.frz o (.lst (ns.map V.int))) → sp [.ref a] H (fun v _ => v = .bl true) never) ∧
    ∀ base : Heap, K.In base → base.Ns mainGlobals mg → (∀ p ∈ cs, LamX.TabB base mg p.1 p.2) → FnG l.prog w K mg base CX k fa fd [x] sp
theorem walkG {l : PySem.W.OpenLaw} {n k : Nat} {q : Program} {loose : List Str} {XP : (Str → Option Value) → Heap → Prop} {YP : World → Heap → Prop} {d : DefRec} {K : Params → PySem.W.Frag} {CX : World → CXT} {x : Str}
    (hn : l.most = some n) (hn2 : n ≤ sizeLine) (hdf : d.params.defaults = []) (hr : Room k callerA) (hrec : ((recsOf q).any fun e => e.name == d.name) = true) (hY : ∀ (w : World) (h : Heap), YP w h → (K w.params).In h)
    (F : ∀ (w : World) (mg : Str → Option Value) (fa : Addr) (h : Heap), YP w h → (K w.params).In h → h.Ns mainGlobals mg → mg d.name = some (.ref fa) → LamX.OwnTab (K w.params) fa h → LawG l w (K w.params) (CX w) k n x mg fa h)
    (hCX : ∀ (w : World) (H : Hp) (s : Shared) (e : Value) (s' : Shared), CX w [] H s never e s' → False) :
    PySem.W.WalkO q loose XP YP l.row.toRowW d [] (fun f vs => PySem.call f vs) := by
  refine Att.attach_callB hn hdf fun w s₀ s₁ mg mb fa o pm cd doc a vs ns Gh Y ho hd hcd hmg hobj hints hlen hbits hg => ?_
  have KX := hY w _ Y
  have own : LamX.OwnTab (K w.params) fa s₁.heap := fun c Pt o1 fd1 e dd vs1 sl k1 k2 k3 k4 k5 => by
    obtain ⟨dL, hm, hn1⟩ := List.any_eq_true.mp hrec
    have en : dL.name = d.name := beq_iff_eq.mp hn1
    obtain ⟨a', o', fd', c', P', h1, h2, h3, h4, _, ⟨oc, vc, e1, _, e3, e4⟩, hP⟩ := Gh.T.tab dL hm
    rw [en, hmg] at h1
    cases h1
    rw [KX _ _ k1] at h2
    cases h2
    rw [k2] at h3
    cases h3
    rw [k3] at h4
    cases h4
    rw [KX _ _ k4] at e1
    cases e1
    cases e3
    rw [k5] at e4
    cases e4
    exact hP
  obtain ⟨fd, cs, sp, hT, nT, C, hb, nl, hsp, hF⟩ := F w mg fa _ Y KX Gh.T.g hmg own
  exact call_lawG KX Gh.T.g Gh.T.b Gh.T.builtins Gh.T.nolimit hg hT nT C Gh.T.bmain hobj hints (Nat.le_trans hlen hn2) hr hF hb nl (fun H o h1 h2 => hsp H a o ns hlen hbits h1 h2) fun H e s' => hCX w H s₁ e s'
/-- no written object is a list -/
def noList (K : PySem.W.Frag) : Bool := K.all fun p => !(p.2.cls == .type "list")
theorem noList_at {K : PySem.W.Frag} (h : noList K = true) : ∀ b o, K.lookup b = some o → o.cls ≠ .type "list" := by
  intro b o e z
  have m : ∃ q ∈ K, q.2 = o := by
    clear h
    induction K with
    | nil => cases e
    | cons p r ih =>
      obtain ⟨p1, p2⟩ := p
      rw [List.lookup_cons] at e
      cases q : b == p1 with
      | true =>
        rw [q] at e
        exact ⟨(p1, p2), List.mem_cons_self, Option.some.inj e⟩
      | false =>
        rw [q] at e
        obtain ⟨q, hq, eq⟩ := ih e
        exact ⟨q, List.mem_cons_of_mem _ hq, eq⟩
  obtain ⟨q, hq, rfl⟩ := m
  have := List.all_eq_true.mp h q hq
  rw [z] at this
  simp at this
theorem exm_own {K : PySem.W.Frag} {S : Addr} (h1 : PySem.W.subIn K (.ref S) (.type "BaseException") = some true) (h2 : PySem.W.isClsIn K S = true) (h3 : PySem.W.typeIn K (.ref S) = some (.type "type")) (h4 : PySem.W.subIn K (.ref S) (.ref S) = some true) :
    PySem.W.exmOne K (.ref S) (.ref S) = some true := by
  have e2 : (PySem.W.clsIn K S).isSome = true := h2
  unfold PySem.W.exmOne
  rw [h1]
  show PySem.W.kitCls K (.ref S) (.ref S) = some true
  unfold PySem.W.kitCls
  dsimp only
  rw [e2, h3]
  exact h4
theorem kit_sub {K : PySem.W.Frag} {t : Value} {T : String} {b : Bool} (h : PySem.W.subIn K t (.type T) = some b) (hm : PySem.W.kitMeta T = true) (hne : (t == .type T) = false) : PySem.W.kitOne K t (.type T) = some b := by
  unfold PySem.W.kitOne
  rw [hne]
  unfold PySem.W.kitCls
  dsimp only
  rw [hm]
  exact h
theorem kit_cls {K : PySem.W.Frag} {t : Value} {C : Addr} {b : Bool} (h : PySem.W.subIn K t (.ref C) = some b) (h2 : PySem.W.isClsIn K C = true) (h3 : PySem.W.typeIn K (.ref C) = some (.type "type")) (hne : (t == .ref C) = false) : PySem.W.kitOne K t (.ref C) = some b := by
  have e2 : (PySem.W.clsIn K C).isSome = true := h2
  unfold PySem.W.kitOne
  rw [hne]
  unfold PySem.W.kitCls
  dsimp only
  rw [e2, h3]
  exact h
theorem kit_self {K : PySem.W.Frag} {C : Addr} : PySem.W.kitOne K (.ref C) (.ref C) = some true := by
  unfold PySem.W.kitOne
  rw [show (Value.ref C == Value.ref C) = true from by simp]
  rfl
/-- the law's one argument: the script's list, frozen; nothing else is at hand -/
theorem start_law {G : Gx} {H : Hp} {a : Addr} {o : Obj} {ns : List Int} {m : List D → Hm → Re D} (ha : H a = some (.frz o (.lst (ns.map V.int)))) (ht : LamX.Tabs G.T H) (hm : ∃ h', m [.ref 0] [.frz (ns.map D.int)] = .ok (.bl true) h') :
    spM G m [.ref a] H (fun v _ => v = .bl true) never := by
  have rp : Reps G [a] H (ns.map D.int) (ns.map V.int) := by
    induction ns with
    | nil => exact .nil
    | cons n ns ih =>
      clear ha hm
      rw [List.map_cons, List.map_cons]
      refine .cons (.int n) ?_
      clear ih
      induction ns with
      | nil => exact .nil
      | cons n ns ih => exact .cons (.int n) ih
  refine ⟨[a], [.frz (ns.map D.int)], [.ref 0], ⟨rfl, by simp, fun n ob b e1 e2 => ?_, ht⟩, .cons (.ref rfl) .nil, ?_⟩
  · cases n with
    | succ n => simp at e1
    | zero =>
      have e1' : Ob.frz (ns.map D.int) = ob := by simpa using e1
      have e2' : a = b := by simpa using e2
      subst e1' e2'
      exact ⟨o, _, ha, rp⟩
  · obtain ⟨h', e⟩ := hm
    rw [e]
    intro v H' r' g s rv
    cases rv
    rfl
end L2.Lv
end
section
set_option maxRecDepth 100000
set_option maxHeartbeats 4000000
set_option autoImplicit false
namespace L2.Lv

/-! ### weakest preconditions over the plain machine -/
def Ok {α : Type} (x : Re α) (P : α → Hm → Prop) : Prop := match x with
  | .ok a h => P a h
  | _ => False
def OkS (x : Rs) (N : En → Hm → Prop) (R : D → Hm → Prop) : Prop := match x with
  | .nx e h => N e h
  | .rt d h => R d h
  | _ => False
section
variable {α β : Type} {P : D → Hm → Prop} {e : En} {h : Hm} {N : En → Hm → Prop} {R : D → Hm → Prop}
theorem Ok.mono {x : Re α} {P Q : α → Hm → Prop} (o : Ok x P) (w : ∀ a h, P a h → Q a h) : Ok x Q := by
  cases x with
  | ok a h => exact w a h o
  | ex c v h => exact o
  | no => exact o
theorem OkS.mono {x : Rs} {N N' : En → Hm → Prop} {R R' : D → Hm → Prop} (o : OkS x N R) (w : ∀ a h, N a h → N' a h) (w2 : ∀ a h, R a h → R' a h) : OkS x N' R' := by
  cases x with
  | nx e h => exact w e h o
  | rt d h => exact w2 d h o
  | _ => exact o
theorem ok_ok {a : α} {h : Hm} {P : α → Hm → Prop} : Ok (.ok a h) P ↔ P a h := Iff.rfl
theorem ok_no {P : α → Hm → Prop} : Ok (Re.no : Re α) P ↔ False := Iff.rfl
theorem ok_bind {x : Re α} {k : α → Hm → Re β} {P : β → Hm → Prop} : Ok (x.bind k) P ↔ Ok x fun a h => Ok (k a h) P := by cases x <;> exact Iff.rfl
theorem ok_bs {x : Re α} {k : α → Hm → Rs} : OkS (x.bs e k) N R ↔ Ok x fun a h => OkS (k a h) N R := by cases x <;> exact Iff.rfl
theorem ok_ite {c : Prop} [Decidable c] {x y : Re α} {P : α → Hm → Prop} : Ok (if c then x else y) P ↔ if c then Ok x P else Ok y P := by split <;> exact Iff.rfl
theorem oks_ite {c : Prop} [Decidable c] {x y : Rs} : OkS (if c then x else y) N R ↔ if c then OkS x N R else OkS y N R := by split <;> exact Iff.rfl
theorem oks_nx {e : En} {h : Hm} : OkS (.nx e h) N R ↔ N e h := Iff.rfl
theorem oks_rt {d : D} {h : Hm} : OkS (.rt d h) N R ↔ R d h := Iff.rfl
theorem oks_no : OkS .no N R ↔ False := Iff.rfl
theorem ok_some {x : Option D} {d : D} {f : D → Re β} {P : β → Hm → Prop} : True := trivial
theorem w_var {i : Nat} {d : D} (q : e[i]? = some (some d)) : Ok (mVar i e h) P ↔ P d h := by unfold mVar; rw [q]; exact Iff.rfl
theorem w_c {d : D} : Ok (mC d e h) P ↔ P d h := Iff.rfl
theorem w_nil {P : List D → Hm → Prop} : Ok (mNil e h) P ↔ P [] h := Iff.rfl
theorem w_cons {a : ME} {r : MA} {P : List D → Hm → Prop} : Ok (mCons a r e h) P ↔ Ok (a e h) fun x h1 => Ok (r e h1) fun xs h2 => P (x :: xs) h2 := by
  unfold mCons; rw [ok_bind]; simp only [ok_bind, ok_ok]
theorem w_tup {a : MA} : Ok (mTup a e h) P ↔ Ok (a e h) fun xs h1 => xs.length ≤ big ∧ P (.tup xs) h1 := by
  unfold mTup; rw [ok_bind]
  constructor <;> intro o <;> refine o.mono fun xs h1 q => ?_
  · split at q
    · exact ⟨by assumption, q⟩
    · exact q.elim
  · rw [if_pos q.1]; exact q.2
theorem w_newL {xs : List D} : Ok (newL xs h) P ↔ xs.length ≤ big ∧ P (.ref h.length) (h ++ [.lst xs]) := by
  unfold newL
  by_cases c : xs.length ≤ big
  · rw [if_pos c]; exact ⟨fun q => ⟨c, q⟩, fun q => q.2⟩
  · rw [if_neg c]; exact ⟨fun q => q.elim, fun q => absurd q.1 c⟩
theorem w_lst {a : MA} : Ok (mLst a e h) P ↔ Ok (a e h) fun xs h1 => xs.length ≤ big ∧ P (.ref h1.length) (h1 ++ [.lst xs]) := by
  unfold mLst; rw [ok_bind]; simp only [w_newL]
theorem w_bin {p : D → D → Hm → Re D} {a b : ME} : Ok (mBin p a b e h) P ↔ Ok (a e h) fun x h1 => Ok (b e h1) fun y h2 => Ok (p x y h2) P := by
  unfold mBin; simp only [ok_bind]
theorem w_app {p : List D → Hm → Re D} {a : MA} : Ok (mApp p a e h) P ↔ Ok (a e h) fun xs h1 => Ok (p xs h1) P := by unfold mApp; rw [ok_bind]
theorem w_call {p : List D → Hm → Re D} {a : MA} : Ok (mCall p a e h) P ↔ Ok (a e h) fun xs h1 => Ok (p xs h1) P := w_app
theorem w_un {p : D → Hm → Re D} {a : ME} : Ok (mUn p a e h) P ↔ Ok (a e h) fun x h1 => Ok (p x h1) P := by unfold mUn; rw [ok_bind]
theorem w_neg {a : ME} : Ok (mNeg a e h) P ↔ Ok (a e h) fun x h1 => ∃ i, x = .int i ∧ P (.int (-i)) h1 := by
  unfold mNeg; rw [ok_bind]
  constructor <;> intro o <;> refine o.mono fun x h1 q => ?_
  · split at q
    · exact ⟨_, rfl, q⟩
    · exact q.elim
  · obtain ⟨i, rfl, q⟩ := q; exact q
theorem w_if {t : MT} {a b : ME} : Ok (mIf t a b e h) P ↔ Ok (t e h) fun c h1 => if c = true then Ok (a e h1) P else Ok (b e h1) P := by
  unfold mIf; rw [ok_bind]; simp only [ok_ite]
theorem w_tb {a : ME} {P : Bool → Hm → Prop} : Ok (mTb a e h) P ↔ Ok (a e h) fun x h1 => ∃ b, x = .bl b ∧ P b h1 := by
  unfold mTb; rw [ok_bind]
  constructor <;> intro o <;> refine o.mono fun x h1 q => ?_
  · split at q
    · exact ⟨_, rfl, q⟩
    · exact q.elim
  · obtain ⟨i, rfl, q⟩ := q; exact q
theorem w_tru {a : ME} {P : Bool → Hm → Prop} : Ok (mTru a e h) P ↔ Ok (a e h) fun x h1 => ∃ b, truD h1 x = some b ∧ P b h1 := by
  unfold mTru; rw [ok_bind]
  constructor <;> intro o <;> refine o.mono fun x h1 q => ?_
  · split at q
    · exact ⟨_, by assumption, q⟩
    · exact q.elim
  · obtain ⟨i, e1, q⟩ := q; rw [e1]; exact q
theorem w_not {a : MT} {P : Bool → Hm → Prop} : Ok (mNotT a e h) P ↔ Ok (a e h) fun b h1 => P (!b) h1 := by unfold mNotT; rw [ok_bind]; simp only [ok_ok]
theorem w_and {a b : MT} {P : Bool → Hm → Prop} : Ok (mAndT a b e h) P ↔ Ok (a e h) fun c h1 => if c = true then Ok (b e h1) P else P false h1 := by unfold mAndT; rw [ok_bind]; simp only [ok_ite, ok_ok]
theorem w_or {a b : MT} {P : Bool → Hm → Prop} : Ok (mOrT a b e h) P ↔ Ok (a e h) fun c h1 => if c = true then P true h1 else Ok (b e h1) P := by unfold mOrT; rw [ok_bind]; simp only [ok_ite, ok_ok]
theorem w_andV {a b : ME} : Ok (mAndV a b e h) P ↔ Ok (a e h) fun d h1 => ∃ c, truD h1 d = some c ∧ if c = true then Ok (b e h1) P else P d h1 := by
  unfold mAndV; rw [ok_bind]
  constructor <;> intro o <;> refine o.mono fun x h1 q => ?_
  · split at q
    · exact ⟨true, by assumption, q⟩
    · exact ⟨false, by assumption, q⟩
    · exact q.elim
  · obtain ⟨c, e1, q⟩ := q; rw [e1]; cases c <;> exact q
theorem w_orV {a b : ME} : Ok (mOrV a b e h) P ↔ Ok (a e h) fun d h1 => ∃ c, truD h1 d = some c ∧ if c = true then P d h1 else Ok (b e h1) P := by
  unfold mOrV; rw [ok_bind]
  constructor <;> intro o <;> refine o.mono fun x h1 q => ?_
  · split at q
    · exact ⟨true, by assumption, q⟩
    · exact ⟨false, by assumption, q⟩
    · exact q.elim
  · obtain ⟨c, e1, q⟩ := q; rw [e1]; cases c <;> exact q
theorem w_notV {a : ME} : Ok (mNotV a e h) P ↔ Ok (a e h) fun d h1 => ∃ c, truD h1 d = some c ∧ P (.bl (!c)) h1 := by
  unfold mNotV; rw [ok_bind]
  constructor <;> intro o <;> refine o.mono fun x h1 q => ?_
  · split at q
    · exact ⟨_, by assumption, q⟩
    · exact q.elim
  · obtain ⟨c, e1, q⟩ := q; rw [e1]; exact q
/-! statements -/
theorem w_seq {a b : MS} : OkS (mSeq a b e h) N R ↔ OkS (a e h) (fun e' h' => OkS (b e' h') N R) R := by
  unfold mSeq; cases a e h <;> exact Iff.rfl
theorem w_pass : OkS (mPass e h) N R ↔ N e h := Iff.rfl
theorem w_set {i : Nat} {a : ME} : OkS (mSet i a e h) N R ↔ Ok (a e h) fun d h1 => N (e.set i (some d)) h1 := by unfold mSet; rw [ok_bs]; exact Iff.rfl
theorem w_ret {a : ME} : OkS (mRet a e h) N R ↔ Ok (a e h) R := by unfold mRet; rw [ok_bs]; exact Iff.rfl
theorem w_drop {a : ME} : OkS (mDrop a e h) N R ↔ Ok (a e h) fun _ h1 => N e h1 := by unfold mDrop; rw [ok_bs]; exact Iff.rfl
theorem w_ifS {t : MT} {a b : MS} : OkS (mIfS t a b e h) N R ↔ Ok (t e h) fun c h1 => if c = true then OkS (a e h1) N R else OkS (b e h1) N R := by
  unfold mIfS; rw [ok_bs]; simp only [oks_ite]
theorem w_par {i j : Nat} {a : MA} : OkS (mPar i j a e h) N R ↔ Ok (a e h) fun ds h1 => ∃ d d', ds = [d, d'] ∧ N ((e.set i (some d)).set j (some d')) h1 := by
  unfold mPar; rw [ok_bs]
  constructor <;> intro o <;> refine o.mono fun x h1 q => ?_
  · split at q
    · exact ⟨_, _, rfl, q⟩
    · exact q.elim
  · obtain ⟨d, d', rfl, q⟩ := q; exact q
theorem w_asg {g : MG} {a : ME} : OkS (mAsg g a e h) N R ↔ Ok (a e h) fun d h1 => ∃ e', g d e h1 = some e' ∧ N e' h1 := by
  unfold mAsg; rw [ok_bs]
  constructor <;> intro o <;> refine o.mono fun x h1 q => ?_
  · split at q
    · exact ⟨_, by assumption, q⟩
    · exact q.elim
  · obtain ⟨e', e1, q⟩ := q; rw [e1]; exact q
theorem w_sub {o i v : ME} : OkS (mSub o i v e h) N R ↔ Ok (v e h) fun d h1 => Ok (o e h1) fun x h2 => Ok (i e h2) fun k h3 =>
    ∃ n j xs, x = .ref n ∧ k = .int j ∧ h3[n]? = some (.lst xs) ∧ (0 ≤ j ∧ j < xs.length) ∧ N e (h3.set n (.lst (xs.set j.toNat d))) := by
  unfold mSub; simp only [ok_bs]
  constructor <;> intro w <;> refine w.mono fun d h1 w1 => w1.mono fun x h2 w2 => w2.mono fun k h3 q => ?_
  · split at q
    · split at q
      · split at q
        · exact ⟨_, _, _, rfl, rfl, by assumption, by assumption, q⟩
        · exact q.elim
      · exact q.elim
    · exact q.elim
  · obtain ⟨n, j, xs, rfl, rfl, e1, c, q⟩ := q
    simp only [e1]
    rw [if_pos c]
    exact q
/-! primitives -/
theorem w_idxL {n : Nat} {i : Int} {xs : List D} {d : D} (q : itemsOf h n = some xs) (a : atD xs i = some d) : Ok (pIdx (.ref n) (.int i) h) P ↔ P d h := by
  unfold pIdx; simp only [q, a]; exact Iff.rfl
theorem w_idxT {i : Int} {xs : List D} {d : D} (a : atD xs i = some d) : Ok (pIdx (.tup xs) (.int i) h) P ↔ P d h := by
  unfold pIdx; simp only [a]; exact Iff.rfl
theorem w_addI {i j : Int} : Ok (pAdd (.int i) (.int j) h) P ↔ P (.int (i + j)) h := Iff.rfl
theorem w_subI {i j : Int} : Ok (pSub (.int i) (.int j) h) P ↔ P (.int (i - j)) h := by unfold pSub pInt; rfl
theorem w_lt {i j : Int} : Ok (pLt (.int i) (.int j) h) P ↔ P (.bl (decide (i < j))) h := Iff.rfl
theorem w_le {i j : Int} : Ok (pLe (.int i) (.int j) h) P ↔ P (.bl (decide (i ≤ j))) h := Iff.rfl
theorem w_gt {i j : Int} : Ok (pGt (.int i) (.int j) h) P ↔ P (.bl (decide (j < i))) h := Iff.rfl
theorem w_ge {i j : Int} : Ok (pGe (.int i) (.int j) h) P ↔ P (.bl (decide (j ≤ i))) h := Iff.rfl
theorem w_int {i : Int} : Ok (pInt1 [.int i] h) P ↔ P (.int i) h := Iff.rfl
theorem w_intB {b : Bool} : Ok (pInt1 [.bl b] h) P ↔ P (.int (if b then 1 else 0)) h := Iff.rfl
theorem w_md {i j : Int} (q : 0 < j) : Ok (pMd (.int i) (.int j) h) P ↔ P (.int (i % j)) h := by
  unfold pMd pInt
  simp only [decide_eq_true q, if_true]
  exact Iff.rfl
theorem w_fd {i j : Int} (q : cFd i j = true) : Ok (pFd (.int i) (.int j) h) P ↔ P (.int (i / j)) h := by
  unfold pFd pInt
  simp only [q, if_true]
  exact Iff.rfl
theorem w_mul {i j : Int} (q : cMul i j = true) : Ok (pMulA (.int i) (.int j) h) P ↔ P (.int (i * j)) h := by
  unfold pMulA pMulI pInt
  simp only [q, if_true]
  exact Iff.rfl
theorem mul_l {i j : Int} (a : -(2 ^ 64) < i) (b : i < 2 ^ 64) : cMul i j = true := by unfold cMul; simp; omega
theorem mul_r {i j : Int} (a : -(2 ^ 64) < j) (b : j < 2 ^ 64) : cMul i j = true := by unfold cMul; simp; omega
theorem fd_ok {i j : Int} (a : 0 < j) (b : j < 2 ^ 64) : cFd i j = true := by
  unfold cFd
  rw [Bool.and_eq_true]
  refine ⟨decide_eq_true a, decide_eq_true ?_⟩
  have h1 : j.natAbs < 2 ^ 64 := by omega
  have h2 : j.natAbs ≠ 0 := by omega
  have := (Nat.log2_lt h2).mpr h1
  omega

/-! explicit slots -/
def ok1 (x : Option (Option D)) (k : D → Prop) : Prop := match x with
  | some (some d) => k d
  | _ => False
theorem ok1_some {d : D} {k : D → Prop} : ok1 (some (some d)) k ↔ k d := Iff.rfl
theorem w_v {i : Nat} : Ok (mVar i e h) P ↔ ok1 e[i]? fun d => P d h := by
  unfold mVar ok1
  cases e[i]? with
  | none => exact Iff.rfl
  | some o => cases o <;> exact Iff.rfl
theorem w_ix {n : Nat} {i : Int} : Ok (pIdx (.ref n) (.int i) h) P ↔ ∃ xs, itemsOf h n = some xs ∧ ∃ d, atD xs i = some d ∧ P d h := by
  unfold pIdx
  dsimp only
  cases q : itemsOf h n with
  | none => exact ⟨fun z => z.elim, fun ⟨_, z, _⟩ => by cases z⟩
  | some xs =>
    dsimp only
    cases a : atD xs i with
    | none => exact ⟨fun z => z.elim, fun ⟨ys, z, d, w, _⟩ => by cases z; rw [a] at w; cases w⟩
    | some d => exact ⟨fun z => ⟨xs, rfl, d, a, z⟩, fun ⟨ys, z, d', w, p⟩ => by cases z; rw [a] at w; cases w; exact p⟩
theorem w_ixT {xs : List D} {i : Int} : Ok (pIdx (.tup xs) (.int i) h) P ↔ ∃ d, atD xs i = some d ∧ P d h := by
  unfold pIdx
  dsimp only
  cases a : atD xs i with
  | none => exact ⟨fun z => z.elim, fun ⟨d, w, _⟩ => by cases w⟩
  | some d => exact ⟨fun z => ⟨d, rfl, z⟩, fun ⟨d', w, p⟩ => by cases w; exact p⟩
theorem at0 {α : Type} {x : α} {xs : List α} : atD (x :: xs) 0 = some x := rfl
theorem at1 {α : Type} {x y : α} {xs : List α} : atD (x :: y :: xs) 1 = some y := rfl
theorem at2 {α : Type} {x y z : α} {xs : List α} : atD (x :: y :: z :: xs) 2 = some z := rfl
theorem at3 {α : Type} {x y z w : α} {xs : List α} : atD (x :: y :: z :: w :: xs) 3 = some w := rfl
theorem w_lenL {n : Nat} {xs : List D} (q : itemsOf h n = some xs) : Ok (pLen [.ref n] h) P ↔ P (.int xs.length) h := by
  unfold pLen; simp only [q]; exact Iff.rfl
theorem w_append {n : Nat} {xs : List D} {d : D} (q : h[n]? = some (.lst xs)) (c : xs.length < big) : Ok (pAppend (.ref n) [d] h) P ↔ P .non (h.set n (.lst (xs ++ [d]))) := by
  unfold pAppend; simp only [q]; rw [if_pos c]; exact Iff.rfl
theorem w_methL {p : D → List D → Hm → Re D} {o : ME} {a : MA} : Ok (mMethL p o a e h) P ↔ Ok (o e h) fun x h1 => isLst h1 x = true ∧ Ok (a e h1) fun xs h2 => Ok (p x xs h2) P := by
  unfold mMethL
  rw [ok_bind]
  constructor <;> intro w <;> refine w.mono fun x h1 q => ?_
  · rw [ok_ite] at q
    split at q
    · rename_i c
      exact ⟨c, by rw [ok_bind] at q; exact q⟩
    · exact q.elim
  · rw [if_pos q.1, ok_bind]; exact q.2
theorem isLst_of {n : Nat} {xs : List D} (q : itemsOf h n = some xs) : isLst h (.ref n) = true := by unfold isLst; simp only [q]
theorem w_tupleL {n : Nat} {xs : List D} (q : itemsOf h n = some xs) (c : xs.length ≤ big) : Ok (pTuple [.ref n] h) P ↔ P (.tup xs) h := by
  unfold pTuple; simp only [q]; first | exact Iff.rfl | (rw [if_pos c]; exact Iff.rfl)
theorem w_rng1 {a : MA} {P : Src → Hm → Prop} : Ok (mRng1 a e h) P ↔ Ok (a e h) fun ds h1 => ∃ j : Int, ds = [.int j] ∧ smallI j = true ∧ P (.fix (intsR 0 j.toNat)) h1 := by
  unfold mRng1; rw [ok_bind]
  constructor <;> intro w <;> refine w.mono fun ds h1 q => ?_
  · split at q
    · split at q
      · exact ⟨_, rfl, by assumption, q⟩
      · exact q.elim
    · exact q.elim
  · obtain ⟨j, rfl, c, q⟩ := q
    dsimp only
    rw [if_pos c]
    exact q
theorem w_for {it : MI} {g : MG} {b : MS} : OkS (mFor it g b e h) N R ↔ Ok (it e h) fun src h1 => OkS (mLoop src g b lots 0 e h1) N R := by unfold mFor; rw [ok_bs]
/-- a walk over values that stand still -/
theorem loop_fix {xs : List D} {g : MG} {b : MS} (Inv : Nat → En → Hm → Prop) (step : ∀ (j : Nat) (x : D) (e : En) (h : Hm), xs[j]? = some x → Inv j e h → ∃ e1, g x e h = some e1 ∧ OkS (b e1 h) (Inv (j + 1)) R) (fin : ∀ e h, Inv xs.length e h → N e h) :
    ∀ (n f j : Nat) (e : En) (h : Hm), j + n = xs.length → n < f → Inv j e h → OkS (mLoop (.fix xs) g b f j e h) N R
  | 0, f + 1, j, e, h, hj, _, v => by
    have q : xs[j]? = none := List.getElem?_eq_none (by omega)
    unfold mLoop
    simp only [nxt, q]
    have ej : j = xs.length := by omega
    subst ej
    exact fin e h v
  | n + 1, f + 1, j, e, h, hj, hf, v => by
    have hl : j < xs.length := by omega
    have q : xs[j]? = some xs[j] := List.getElem?_eq_getElem hl
    obtain ⟨e1, ge, o⟩ := step j _ e h q v
    unfold mLoop
    simp only [nxt, q, ge]
    revert o
    cases b e1 h with
    | nx e2 h2 => exact fun o => loop_fix Inv step fin n f (j + 1) e2 h2 (by omega) (by omega) o
    | rt d h2 => exact fun o => o
    | bk e2 h2 => exact fun o => o.elim
    | ct e2 h2 => exact fun o => o.elim
    | ex c d e2 h2 => exact fun o => o.elim
    | no => exact fun o => o.elim
/-- a comprehension over values that stand still, no test: the results one by one -/
theorem cloop_fix {xs : List D} {g : MG} {el : ME} {e0 : En} {n : Nat} (Inv : Nat → List D → Hm → Prop) (hn : ∀ j acc h, Inv j acc h → h[n]? = some (.lst acc))
    (step : ∀ (j : Nat) (x : D) (acc : List D) (h : Hm), xs[j]? = some x → Inv j acc h → ∃ e1, g x e0 h = some e1 ∧ Ok (el e1 h) fun y h2 => ∃ acc2, h2[n]? = some (.lst acc2) ∧ acc2.length < big ∧ Inv (j + 1) (acc2 ++ [y]) (h2.set n (.lst (acc2 ++ [y])))) (fin : ∀ acc h, Inv xs.length acc h → P (.ref n) h) :
    ∀ (k f j : Nat) (acc : List D) (h : Hm), j + k = xs.length → k < f → Inv j acc h → Ok (mCLoop (.fix xs) g mYes el e0 n f j h) P
  | 0, f + 1, j, acc, h, hj, _, v => by
    have q : xs[j]? = none := List.getElem?_eq_none (by omega)
    unfold mCLoop
    simp only [nxt, q]
    have ej : j = xs.length := by omega
    subst ej
    exact fin acc h v
  | k + 1, f + 1, j, acc, h, hj, hf, v => by
    have hl : j < xs.length := by omega
    have q : xs[j]? = some xs[j] := List.getElem?_eq_getElem hl
    obtain ⟨e1, ge, o⟩ := step j _ acc h q v
    unfold mCLoop
    simp only [nxt, q, ge, mYes]
    revert o
    cases el e1 h with
    | ok y h2 =>
      intro o
      obtain ⟨acc2, e2, c, v2⟩ := o
      simp only [e2]
      rw [if_pos c]
      exact cloop_fix Inv hn step fin k f (j + 1) _ _ (by omega) (by omega) v2
    | ex c d h2 => exact fun o => o.elim
    | no => exact fun o => o.elim
theorem w_comp {it : MI} {g : MG} {t : MT} {el : ME} {vs : List Nat} : Ok (mComp it g t el vs e h) P ↔ Ok (it e h) fun src h1 => Ok (mCLoop src g t el (wipeE e vs) h1.length lots 0 (h1 ++ [.lst []])) P := by unfold mComp; rw [ok_bind]
theorem w_eqI {i j : Int} : Ok (pEq (.int i) (.int j) h) P ↔ P (.bl (i == j)) h := by
  unfold pEq
  rw [if_pos (by rfl)]
  exact Iff.rfl
theorem w_ixL {n : Nat} {i : Int} {xs : List D} (q : itemsOf h n = some xs) : Ok (pIdx (.ref n) (.int i) h) P ↔ ∃ d, atD xs i = some d ∧ P d h := by
  rw [w_ix, q]
  exact ⟨fun ⟨ys, z, w⟩ => by cases z; exact w, fun w => ⟨xs, rfl, w⟩⟩
end
end L2.Lv
end
section
set_option maxRecDepth 100000
set_option maxHeartbeats 4000000
set_option autoImplicit false
namespace L2.Lv
namespace K1
open PySem PySem.Spec PyProof.Rows
def top (i : Nat) : Stmt := PySem.Challenge.pw_livenames_k01_trees_and_terms_told.main.body.getD i (.Pass ⟨0, 0, 0, 0⟩)
def xfn : Nat → Str := fun c => match c with | 1 => "told" | 2 => "index" | 3 => "most" | _ => ""
def GG (K : PySem.W.Frag) (ga : Nat → Addr) (Tb : List (Addr × Str)) : Gx := ⟨K, ga, ["_tree", "_nodes", "_binders", "_uses", "_depth"], xfn, Tb⟩
theorem GG_nd {K : PySem.W.Frag} {ga : Nat → Addr} {Tb : List (Addr × Str)} : (GG K ga Tb).fn.Nodup := by show List.Nodup [("_tree" : Str), ("_nodes" : Str), ("_binders" : Str), ("_uses" : Str), ("_depth" : Str)]; decide +kernel
def st_4 : Stmt := top 8
theorem sc_4 : FnScope ["value"] ["value"] (defScope st_4) := ⟨rfl, rfl, rfl, by decide +kernel, rfl, by decide +kernel, by decide +kernel⟩
theorem bk_4 {scope : Scope} {own : List (Str × Nat)} (h : blkB ["value"] (defScope st_4) scope own = true) : BlkOk ["value"] (defScope st_4) scope own := blk_by h
def st_5 : Stmt := top 9
theorem sc_5 : FnScope ["value"] ["value"] (defScope st_5) := ⟨rfl, rfl, rfl, by decide +kernel, rfl, by decide +kernel, by decide +kernel⟩
theorem bk_5 {scope : Scope} {own : List (Str × Nat)} (h : blkB ["value"] (defScope st_5) scope own = true) : BlkOk ["value"] (defScope st_5) scope own := blk_by h
def st_6 : Stmt := top 15
theorem sc_6 : FnScope ["value", "row", "part"] ["value"] (defScope st_6) := ⟨rfl, rfl, rfl, by decide +kernel, rfl, by decide +kernel, by decide +kernel⟩
theorem bk_6 {scope : Scope} {own : List (Str × Nat)} (h : blkB ["value", "row", "part"] (defScope st_6) scope own = true) : BlkOk ["value", "row", "part"] (defScope st_6) scope own := blk_by h
def st_7 : Stmt := top 16
theorem sc_7 : FnScope ["value", "kind"] ["value"] (defScope st_7) := ⟨rfl, rfl, rfl, by decide +kernel, rfl, by decide +kernel, by decide +kernel⟩
theorem bk_7 {scope : Scope} {own : List (Str × Nat)} (h : blkB ["value", "kind"] (defScope st_7) scope own = true) : BlkOk ["value", "kind"] (defScope st_7) scope own := blk_by h
def st_8 : Stmt := top 17
theorem sc_8 : FnScope ["node"] ["node"] (defScope st_8) := ⟨rfl, rfl, rfl, by decide +kernel, rfl, by decide +kernel, by decide +kernel⟩
theorem bk_8 {scope : Scope} {own : List (Str × Nat)} (h : blkB ["node"] (defScope st_8) scope own = true) : BlkOk ["node"] (defScope st_8) scope own := blk_by h
def st_9 : Stmt := top 18
theorem sc_9 : FnScope ["row", "node", "tree"] ["row"] (defScope st_9) := ⟨rfl, rfl, rfl, by decide +kernel, rfl, by decide +kernel, by decide +kernel⟩
theorem bk_9 {scope : Scope} {own : List (Str × Nat)} (h : blkB ["row", "node", "tree"] (defScope st_9) scope own = true) : BlkOk ["row", "node", "tree"] (defScope st_9) scope own := blk_by h
def st_10 : Stmt := top 19
theorem sc_10 : FnScope ["tree", "nodes", "waiting", "node"] ["tree"] (defScope st_10) := ⟨rfl, rfl, rfl, by decide +kernel, rfl, by decide +kernel, by decide +kernel⟩
theorem bk_10 {scope : Scope} {own : List (Str × Nat)} (h : blkB ["tree", "nodes", "waiting", "node"] (defScope st_10) scope own = true) : BlkOk ["tree", "nodes", "waiting", "node"] (defScope st_10) scope own := blk_by h
def st_11 : Stmt := top 20
theorem sc_11 : FnScope ["kind", "nodes", "number", "node"] ["kind", "nodes"] (defScope st_11) := ⟨rfl, rfl, rfl, by decide +kernel, rfl, by decide +kernel, by decide +kernel⟩
theorem bk_11 {scope : Scope} {own : List (Str × Nat)} (h : blkB ["kind", "nodes", "number", "node"] (defScope st_11) scope own = true) : BlkOk ["kind", "nodes", "number", "node"] (defScope st_11) scope own := blk_by h
def st_12 : Stmt := top 21
theorem sc_12 : FnScope ["tree", "depth", "row"] ["tree"] (defScope st_12) := ⟨rfl, rfl, rfl, by decide +kernel, rfl, by decide +kernel, by decide +kernel⟩
theorem bk_12 {scope : Scope} {own : List (Str × Nat)} (h : blkB ["tree", "depth", "row"] (defScope st_12) scope own = true) : BlkOk ["tree", "depth", "row"] (defScope st_12) scope own := blk_by h
def st_13 : Stmt := (clsBody (top 22)).getD 0 (.Pass ⟨0, 0, 0, 0⟩)
theorem sc_13 : FnScope ["self", "tree", "nodes", "binders", "depth"] ["self", "tree"] (defScope st_13) := ⟨rfl, rfl, rfl, by decide +kernel, rfl, by decide +kernel, by decide +kernel⟩
theorem bk_13 {scope : Scope} {own : List (Str × Nat)} (h : blkB ["self", "tree", "nodes", "binders", "depth"] (defScope st_13) scope own = true) : BlkOk ["self", "tree", "nodes", "binders", "depth"] (defScope st_13) scope own := blk_by h
def st_14 : Stmt := (clsBody (top 22)).getD 1 (.Pass ⟨0, 0, 0, 0⟩)
theorem sc_14 : FnScope ["self"] ["self"] (defScope st_14) := ⟨rfl, rfl, rfl, by decide +kernel, rfl, by decide +kernel, by decide +kernel⟩
theorem bk_14 {scope : Scope} {own : List (Str × Nat)} (h : blkB ["self"] (defScope st_14) scope own = true) : BlkOk ["self"] (defScope st_14) scope own := blk_by h
def st_15 : Stmt := (clsBody (top 22)).getD 2 (.Pass ⟨0, 0, 0, 0⟩)
theorem sc_15 : FnScope ["self"] ["self"] (defScope st_15) := ⟨rfl, rfl, rfl, by decide +kernel, rfl, by decide +kernel, by decide +kernel⟩
theorem bk_15 {scope : Scope} {own : List (Str × Nat)} (h : blkB ["self"] (defScope st_15) scope own = true) : BlkOk ["self"] (defScope st_15) scope own := blk_by h
def st_16 : Stmt := (clsBody (top 22)).getD 3 (.Pass ⟨0, 0, 0, 0⟩)
theorem sc_16 : FnScope ["self", "at"] ["self", "at"] (defScope st_16) := ⟨rfl, rfl, rfl, by decide +kernel, rfl, by decide +kernel, by decide +kernel⟩
theorem bk_16 {scope : Scope} {own : List (Str × Nat)} (h : blkB ["self", "at"] (defScope st_16) scope own = true) : BlkOk ["self", "at"] (defScope st_16) scope own := blk_by h
def st_17 : Stmt := (clsBody (top 22)).getD 4 (.Pass ⟨0, 0, 0, 0⟩)
theorem sc_17 : FnScope ["self", "x"] ["self", "x"] (defScope st_17) := ⟨rfl, rfl, rfl, by decide +kernel, rfl, by decide +kernel, by decide +kernel⟩
theorem bk_17 {scope : Scope} {own : List (Str × Nat)} (h : blkB ["self", "x"] (defScope st_17) scope own = true) : BlkOk ["self", "x"] (defScope st_17) scope own := blk_by h
def st_19 : Stmt := (clsBody (top 22)).getD 6 (.Pass ⟨0, 0, 0, 0⟩)
theorem sc_19 : FnScope ["self"] ["self"] (defScope st_19) := ⟨rfl, rfl, rfl, by decide +kernel, rfl, by decide +kernel, by decide +kernel⟩
theorem bk_19 {scope : Scope} {own : List (Str × Nat)} (h : blkB ["self"] (defScope st_19) scope own = true) : BlkOk ["self"] (defScope st_19) scope own := blk_by h
def st_20 : Stmt := (clsBody (top 22)).getD 7 (.Pass ⟨0, 0, 0, 0⟩)
theorem sc_20 : FnScope ["self"] ["self"] (defScope st_20) := ⟨rfl, rfl, rfl, by decide +kernel, rfl, by decide +kernel, by decide +kernel⟩
theorem bk_20 {scope : Scope} {own : List (Str × Nat)} (h : blkB ["self"] (defScope st_20) scope own = true) : BlkOk ["self"] (defScope st_20) scope own := blk_by h
def st_21 : Stmt := (clsBody (top 22)).getD 8 (.Pass ⟨0, 0, 0, 0⟩)
theorem sc_21 : FnScope ["self"] ["self"] (defScope st_21) := ⟨rfl, rfl, rfl, by decide +kernel, rfl, by decide +kernel, by decide +kernel⟩
theorem bk_21 {scope : Scope} {own : List (Str × Nat)} (h : blkB ["self"] (defScope st_21) scope own = true) : BlkOk ["self"] (defScope st_21) scope own := blk_by h
def st_22 : Stmt := (clsBody (top 22)).getD 9 (.Pass ⟨0, 0, 0, 0⟩)
theorem sc_22 : FnScope ["self"] ["self"] (defScope st_22) := ⟨rfl, rfl, rfl, by decide +kernel, rfl, by decide +kernel, by decide +kernel⟩
theorem bk_22 {scope : Scope} {own : List (Str × Nat)} (h : blkB ["self"] (defScope st_22) scope own = true) : BlkOk ["self"] (defScope st_22) scope own := blk_by h
def st_23 : Stmt := (clsBody (top 22)).getD 10 (.Pass ⟨0, 0, 0, 0⟩)
theorem sc_23 : FnScope ["self", "other"] ["self", "other"] (defScope st_23) := ⟨rfl, rfl, rfl, by decide +kernel, rfl, by decide +kernel, by decide +kernel⟩
theorem bk_23 {scope : Scope} {own : List (Str × Nat)} (h : blkB ["self", "other"] (defScope st_23) scope own = true) : BlkOk ["self", "other"] (defScope st_23) scope own := blk_by h
def st_27 : Stmt := top 24
theorem sc_27 : FnScope ["_law_script", "_law_k", "_law_cell", "_law_big", "_law_mixed"] ["_law_script", "_law_k"] (defScope st_27) := ⟨rfl, rfl, rfl, by decide +kernel, rfl, by decide +kernel, by decide +kernel⟩
theorem bk_27 {scope : Scope} {own : List (Str × Nat)} (h : blkB ["_law_script", "_law_k", "_law_cell", "_law_big", "_law_mixed"] (defScope st_27) scope own = true) : BlkOk ["_law_script", "_law_k", "_law_cell", "_law_big", "_law_mixed"] (defScope st_27) scope own := blk_by h
def st_28 : Stmt := top 25
theorem sc_28 : FnScope ["_law_source", "_law_top", "_law_told"] ["_law_source", "_law_top"] (defScope st_28) := ⟨rfl, rfl, rfl, by decide +kernel, rfl, by decide +kernel, by decide +kernel⟩
theorem bk_28 {scope : Scope} {own : List (Str × Nat)} (h : blkB ["_law_source", "_law_top", "_law_told"] (defScope st_28) scope own = true) : BlkOk ["_law_source", "_law_top", "_law_told"] (defScope st_28) scope own := blk_by h
def st_29 : Stmt := top 26
theorem sc_29 : FnScope ["_law_source", "_law_things"] ["_law_source", "_law_things"] (defScope st_29) := ⟨rfl, rfl, rfl, by decide +kernel, rfl, by decide +kernel, by decide +kernel⟩
theorem bk_29 {scope : Scope} {own : List (Str × Nat)} (h : blkB ["_law_source", "_law_things"] (defScope st_29) scope own = true) : BlkOk ["_law_source", "_law_things"] (defScope st_29) scope own := blk_by h
def st_30 : Stmt := top 27
theorem sc_30 : FnScope ["_law_source", "_law_some"] ["_law_source"] (defScope st_30) := ⟨rfl, rfl, rfl, by decide +kernel, rfl, by decide +kernel, by decide +kernel⟩
theorem bk_30 {scope : Scope} {own : List (Str × Nat)} (h : blkB ["_law_source", "_law_some"] (defScope st_30) scope own = true) : BlkOk ["_law_source", "_law_some"] (defScope st_30) scope own := blk_by h
def st_31 : Stmt := top 28
theorem sc_31 : FnScope ["_law_source", "_law_words_here"] ["_law_source", "_law_words_here"] (defScope st_31) := ⟨rfl, rfl, rfl, by decide +kernel, rfl, by decide +kernel, by decide +kernel⟩
theorem bk_31 {scope : Scope} {own : List (Str × Nat)} (h : blkB ["_law_source", "_law_words_here"] (defScope st_31) scope own = true) : BlkOk ["_law_source", "_law_words_here"] (defScope st_31) scope own := blk_by h
def st_32 : Stmt := top 29
theorem sc_32 : FnScope ["_law_source", "_law_words_here", "_law_room", "_law_parts", "_law_left", "_law_turn", "_law_tree_here"] ["_law_source", "_law_words_here", "_law_room"] (defScope st_32) := ⟨rfl, rfl, rfl, by decide +kernel, rfl, by decide +kernel, by decide +kernel⟩
theorem bk_32 {scope : Scope} {own : List (Str × Nat)} (h : blkB ["_law_source", "_law_words_here", "_law_room", "_law_parts", "_law_left", "_law_turn", "_law_tree_here"] (defScope st_32) scope own = true) : BlkOk ["_law_source", "_law_words_here", "_law_room", "_law_parts", "_law_left", "_law_turn", "_law_tree_here"] (defScope st_32) scope own := blk_by h
def st_33 : Stmt := top 30
theorem sc_33 : FnScope ["_law_source", "_law_words_here", "_law_room", "_law_ahead", "_law_left", "_law_turn", "_law_tree_here"] ["_law_source", "_law_words_here", "_law_room"] (defScope st_33) := ⟨rfl, rfl, rfl, by decide +kernel, rfl, by decide +kernel, by decide +kernel⟩
theorem bk_33 {scope : Scope} {own : List (Str × Nat)} (h : blkB ["_law_source", "_law_words_here", "_law_room", "_law_ahead", "_law_left", "_law_turn", "_law_tree_here"] (defScope st_33) scope own = true) : BlkOk ["_law_source", "_law_words_here", "_law_room", "_law_ahead", "_law_left", "_law_turn", "_law_tree_here"] (defScope st_33) scope own := blk_by h
def st_34 : Stmt := top 31
theorem sc_34 : FnScope ["_law_source", "_law_words_here", "_law_deep_here", "_law_tree_here", "_law_turn", "_law_beside", "_law_one_here", "_law_core", "_law_ahead"] ["_law_source", "_law_words_here", "_law_deep_here"] (defScope st_34) := ⟨rfl, rfl, rfl, by decide +kernel, rfl, by decide +kernel, by decide +kernel⟩
theorem bk_34 {scope : Scope} {own : List (Str × Nat)} (h : blkB ["_law_source", "_law_words_here", "_law_deep_here", "_law_tree_here", "_law_turn", "_law_beside", "_law_one_here", "_law_core", "_law_ahead"] (defScope st_34) scope own = true) : BlkOk ["_law_source", "_law_words_here", "_law_deep_here", "_law_tree_here", "_law_turn", "_law_beside", "_law_one_here", "_law_core", "_law_ahead"] (defScope st_34) scope own := blk_by h
def st_35 : Stmt := top 32
theorem sc_35 : FnScope ["_law_source", "_law_most_nodes", "_law_most_binders", "_law_words_here", "_law_way", "_law_half", "_law_one_here", "_law_other"] ["_law_source", "_law_most_nodes", "_law_most_binders"] (defScope st_35) := ⟨rfl, rfl, rfl, by decide +kernel, rfl, by decide +kernel, by decide +kernel⟩
theorem bk_35 {scope : Scope} {own : List (Str × Nat)} (h : blkB ["_law_source", "_law_most_nodes", "_law_most_binders", "_law_words_here", "_law_way", "_law_half", "_law_one_here", "_law_other"] (defScope st_35) scope own = true) : BlkOk ["_law_source", "_law_most_nodes", "_law_most_binders", "_law_words_here", "_law_way", "_law_half", "_law_one_here", "_law_other"] (defScope st_35) scope own := blk_by h
def st_36 : Stmt := top 33
theorem sc_36 : FnScope ["_law_tree_here"] ["_law_tree_here"] (defScope st_36) := ⟨rfl, rfl, rfl, by decide +kernel, rfl, by decide +kernel, by decide +kernel⟩
theorem bk_36 {scope : Scope} {own : List (Str × Nat)} (h : blkB ["_law_tree_here"] (defScope st_36) scope own = true) : BlkOk ["_law_tree_here"] (defScope st_36) scope own := blk_by h
def st_37 : Stmt := top 34
theorem sc_37 : FnScope ["_law_tree_here", "_law_found", "_law_one_here"] ["_law_tree_here"] (defScope st_37) := ⟨rfl, rfl, rfl, by decide +kernel, rfl, by decide +kernel, by decide +kernel⟩
theorem bk_37 {scope : Scope} {own : List (Str × Nat)} (h : blkB ["_law_tree_here", "_law_found", "_law_one_here"] (defScope st_37) scope own = true) : BlkOk ["_law_tree_here", "_law_found", "_law_one_here"] (defScope st_37) scope own := blk_by h
def st_39 : Stmt := top 36
theorem sc_39 : FnScope ["_law_tree_here", "_law_one_here"] ["_law_tree_here"] (defScope st_39) := ⟨rfl, rfl, rfl, by decide +kernel, rfl, by decide +kernel, by decide +kernel⟩
theorem bk_39 {scope : Scope} {own : List (Str × Nat)} (h : blkB ["_law_tree_here", "_law_one_here"] (defScope st_39) scope own = true) : BlkOk ["_law_tree_here", "_law_one_here"] (defScope st_39) scope own := blk_by h
def st_40 : Stmt := top 37
theorem sc_40 : FnScope ["_law_tree_here", "_law_made", "_law_nodes_here", "_law_binders", "_law_spot", "_law_one_here", "_law_uses"] ["_law_tree_here", "_law_made"] (defScope st_40) := ⟨rfl, rfl, rfl, by decide +kernel, rfl, by decide +kernel, by decide +kernel⟩
theorem bk_40 {scope : Scope} {own : List (Str × Nat)} (h : blkB ["_law_tree_here", "_law_made", "_law_nodes_here", "_law_binders", "_law_spot", "_law_one_here", "_law_uses"] (defScope st_40) scope own = true) : BlkOk ["_law_tree_here", "_law_made", "_law_nodes_here", "_law_binders", "_law_spot", "_law_one_here", "_law_uses"] (defScope st_40) scope own := blk_by h
def st_41 : Stmt := top 38
theorem sc_41 : FnScope ["_law_script", "_law_k", "_law_source", "_law_tree_here", "_law_made", "_law_turn", "_law_row", "_law_one_here", "_law_other", "_law_thing"] ["_law_script"] (defScope st_41) := ⟨rfl, rfl, rfl, by decide +kernel, rfl, by decide +kernel, by decide +kernel⟩
theorem bk_41 {scope : Scope} {own : List (Str × Nat)} (h : blkB ["_law_script", "_law_k", "_law_source", "_law_tree_here", "_law_made", "_law_turn", "_law_row", "_law_one_here", "_law_other", "_law_thing"] (defScope st_41) scope own = true) : BlkOk ["_law_script", "_law_k", "_law_source", "_law_tree_here", "_law_made", "_law_turn", "_law_row", "_law_one_here", "_law_other", "_law_thing"] (defScope st_41) scope own := blk_by h
def st_2 : Stmt := (clsBody (top 4)).getD 0 (.Pass ⟨0, 0, 0, 0⟩)
theorem sc_2 : FnScope ["self", "index"] ["self", "index"] (defScope st_2) := ⟨rfl, rfl, rfl, by decide +kernel, rfl, by decide +kernel, by decide +kernel⟩
theorem bk_2 {scope : Scope} {own : List (Str × Nat)} (h : blkB ["self", "index"] (defScope st_2) scope own = true) : BlkOk ["self", "index"] (defScope st_2) scope own := blk_by h
def st_38 : Stmt := top 35
theorem sc_38 : FnScope ["_law_function", "e"] ["_law_function"] (defScope st_38) := ⟨rfl, rfl, rfl, by decide +kernel, rfl, by decide +kernel, by decide +kernel⟩
theorem bk_38 {scope : Scope} {own : List (Str × Nat)} (h : blkB ["_law_function", "e"] (defScope st_38) scope own = true) : BlkOk ["_law_function", "e"] (defScope st_38) scope own := blk_by h
theorem GG_no {K : PySem.W.Frag} {ga : Nat → Addr} {Tb : List (Addr × Str)} {n : Str} (h : n ∉ (["_tree", "_nodes", "_binders", "_uses", "_depth"] : List Str)) : n ∉ (GG K ga Tb).fn := h
def psn : Nat → List Str := fun j => match j with
  | 4 => ["value"]
  | 5 => ["value"]
  | 6 => ["value"]
  | 7 => ["value"]
  | 8 => ["node"]
  | 9 => ["row"]
  | 10 => ["tree"]
  | 11 => ["kind", "nodes"]
  | 12 => ["tree"]
  | 13 => ["self", "tree"]
  | 14 => ["self"]
  | 15 => ["self"]
  | 16 => ["self", "at"]
  | 17 => ["self", "x"]
  | 19 => ["self"]
  | 20 => ["self"]
  | 21 => ["self"]
  | 22 => ["self"]
  | 23 => ["self", "other"]
  | 27 => ["_law_script", "_law_k"]
  | 28 => ["_law_source", "_law_top"]
  | 29 => ["_law_source", "_law_things"]
  | 30 => ["_law_source"]
  | 31 => ["_law_source", "_law_words_here"]
  | 32 => ["_law_source", "_law_words_here", "_law_room"]
  | 33 => ["_law_source", "_law_words_here", "_law_room"]
  | 34 => ["_law_source", "_law_words_here", "_law_deep_here"]
  | 35 => ["_law_source", "_law_most_nodes", "_law_most_binders"]
  | 36 => ["_law_tree_here"]
  | 37 => ["_law_tree_here"]
  | 39 => ["_law_tree_here"]
  | 40 => ["_law_tree_here", "_law_made"]
  | 41 => ["_law_script"]
  | 2 => ["self", "index"]
  | 38 => ["_law_function"]
  | _ => []
def kv_SIZES : List (List Nat × D) := [([117, 115, 101], .int 2), ([106, 111, 105, 110], .int 3), ([98, 105, 110, 100], .int 4)]
abbrev CT := Nat → List D → Hm → Re D
def b_4 (c : CT) : MS :=
  (mSeq (mIfS (mOrT (mNotT (mTru (mUn (pIsi 1 [3]) (mVar 0)))) (mTb (mBin pGt (mApp pLen (mCons (mVar 0) mNil)) (mC (.int 8))))) (mRet (mC (.bl false))) mPass)
  (mRet (mAndV (mUn (pStrT Txt.isascii) (mVar 0)) (mAndV (mUn (pStrT Txt.isalpha) (mVar 0)) (mUn (pStrT Txt.islower) (mVar 0))))))
def b_5 (c : CT) : MS :=
  (mRet (mAndV (mUn (pIsi 1 [1, 2]) (mVar 0)) (mNotV (mUn (pIsi 1 [1]) (mVar 0)))))
def b_6 (c : CT) : MS :=
  (mSeq (mSet 1 (mLst (mCons (mVar 0) mNil)))
  (mSeq (mWhile (mTru (mVar 1)) (mSeq (mIfS (mNotT (mTru (mApp (pAA fun bs => bs.all id) (mCons (mComp (mSrc (mVar 1)) (gSet 2) mYes (mCall (c 7) (mCons (mVar 2) mNil)) [2]) mNil)))) (mRet (mC (.bl false))) mPass)
  (mSet 1 (mCall (c 9) (mCons (mVar 1) mNil)))))
  (mRet (mC (.bl true)))))
def b_7 (c : CT) : MS :=
  (mSeq (mIfS (mOrT (mNotT (mTru (mUn (pIsi 1 [4]) (mVar 0)))) (mTb (mBin pEq (mApp pLen (mCons (mVar 0) mNil)) (mC (.int 0))))) (mRet (mC (.bl false))) mPass)
  (mSeq (mSet 1 (mBin pIdx (mVar 0) (mC (.int 0))))
  (mSeq (mIfS (mOrT (mNotT (mTru (mUn (pIsi 1 [3]) (mVar 1)))) (mTb (mBin pNe (mUn (pGetK kv_SIZES) (mVar 1)) (mApp pLen (mCons (mVar 0) mNil))))) (mRet (mC (.bl false))) mPass)
  (mRet (mAndV (mCall (c 4) (mCons (mBin pIdx (mVar 0) (mC (.int 1))) mNil)) (mOrV (mBin pEq (mVar 1) (mC (.str [117, 115, 101]))) (mUn (pIsi 1 [4]) (mBin pIdx (mVar 0) (mC (.int 2))))))))))
def b_8 (c : CT) : MS :=
  (mSeq (mIfS (mTb (mBin pEq (mBin pIdx (mVar 0) (mC (.int 0))) (mC (.str [117, 115, 101])))) (mRet (mTup mNil)) mPass)
  (mSeq (mIfS (mTb (mBin pEq (mBin pIdx (mVar 0) (mC (.int 0))) (mC (.str [106, 111, 105, 110])))) (mRet (mBin pIdx (mVar 0) (mC (.int 2)))) mPass)
  (mRet (mTup (mStar (mBin pIdx (mVar 0) (mC (.int 2))) (mCons (mBin pIdx (mVar 0) (mC (.int 3))) mNil))))))
def b_9 (c : CT) : MS :=
  (mRet (mComp2 (mSrc (mVar 0)) (gSet 1) mYes (mSrc (mCall (c 8) (mCons (mVar 1) mNil))) (gSet 2) mYes (mVar 2) [1, 2] [2]))
def b_10 (c : CT) : MS :=
  (mSeq (mSet 1 (mLst mNil))
  (mSeq (mSet 2 (mLst (mCons (mVar 0) mNil)))
  (mSeq (mWhile (mTru (mVar 2)) (mSeq (mSet 3 (mMethL0 pPop (mVar 2)))
  (mSeq (mDrop (mMethL pAppend (mVar 1) (mCons (mVar 3) mNil)))
  (mDrop (mMethL pExtendA (mVar 2) (mCons (mUn pRevT (mCall (c 8) (mCons (mVar 3) mNil))) mNil))))))
  (mRet (mVar 1)))))
def b_11 (c : CT) : MS :=
  (mRet (mComp (mEnum (mCons (mVar 1) mNil)) (gTupM [(gSet 2), (gSet 3)]) (mTb (mBin pEq (mBin pIdx (mVar 3) (mC (.int 0))) (mVar 0))) (mVar 2) [2, 3]))
def b_12 (c : CT) : MS :=
  (mSeq (mSet 1 (mC (.int 0)))
  (mSeq (mSet 2 (mLst (mCons (mVar 0) mNil)))
  (mSeq (mWhile (mTru (mVar 2)) (mSeq (mAug 1 (pInt (fun _ _ => true) fun i j => i + j) (mC (.int 1)))
  (mSet 2 (mCall (c 9) (mCons (mVar 2) mNil)))))
  (mRet (mVar 1)))))
def b_13 (c : CT) : MS :=
  (mSeq (mIfS (mNotT (mTru (mCall (c 6) (mCons (mVar 1) mNil)))) mNo mPass)
  (mSeq (mSet 2 (mCall (c 10) (mCons (mVar 1) mNil)))
  (mSeq (mIfS (mTb (mBin pGt (mApp pLen (mCons (mVar 2) mNil)) (mC (.int 400)))) mNo mPass)
  (mSeq (mSet 3 (mCall (c 11) (mCons (mC (.str [98, 105, 110, 100])) (mCons (mVar 2) mNil))))
  (mSeq (mIfS (mTb (mBin pGt (mApp pLen (mCons (mVar 3) mNil)) (mC (.int 60)))) mNo mPass)
  (mSeq (mSet 4 (mCall (c 12) (mCons (mVar 1) mNil)))
  (mSeq (mIfS (mTb (mBin pGt (mVar 4) (mC (.int 100)))) mNo mPass)
  (mSeq (mPutF [0] 0 (mVar 0) (mVar 1))
  (mSeq (mPutF [0] 1 (mVar 0) (mVar 2))
  (mSeq (mPutF [0] 2 (mVar 0) (mVar 3))
  (mSeq (mPutF [0] 3 (mVar 0) (mCall (c 11) (mCons (mC (.str [117, 115, 101])) (mCons (mVar 2) mNil))))
  (mPutF [0] 4 (mVar 0) (mVar 4)))))))))))))
def b_14 (c : CT) : MS :=
  (mRet (mFld [0] 0 (mVar 0)))
def b_15 (c : CT) : MS :=
  (mRet (mApp pLen (mCons (mFld [0] 1 (mVar 0)) mNil)))
def b_16 (c : CT) : MS :=
  (mSeq (mIfS (mOrT (mNotT (mTru (mCall (c 5) (mCons (mVar 1) mNil)))) (mOrT (mTb (mBin pLt (mVar 1) (mC (.int 0)))) (mTb (mBin pGe (mVar 1) (mApp pLen (mCons (mFld [0] 1 (mVar 0)) mNil)))))) (mRaise 2 (mVar 1)) mPass)
  (mRet (mBin pIdx (mFld [0] 1 (mVar 0)) (mVar 1))))
def b_17 (c : CT) : MS :=
  (mRet (mAndV (mCall (c 6) (mCons (mVar 1) mNil)) (mBin (pIn false) (mVar 1) (mFld [0] 1 (mVar 0)))))
def b_19 (c : CT) : MS :=
  (mRet (mApp pList (mCons (mFld [0] 1 (mVar 0)) mNil)))
def b_20 (c : CT) : MS :=
  (mRet (mApp pList (mCons (mFld [0] 2 (mVar 0)) mNil)))
def b_21 (c : CT) : MS :=
  (mRet (mApp pList (mCons (mFld [0] 3 (mVar 0)) mNil)))
def b_22 (c : CT) : MS :=
  (mRet (mFld [0] 4 (mVar 0)))
def b_23 (c : CT) : MS :=
  (mRet (mAndV (mUn (pIsi 1 [7]) (mVar 1)) (mBin pEq (mFld [0] 0 (mVar 0)) (mFld [0] 0 (mVar 1)))))
def b_27 (c : CT) : MS :=
  (mSeq (mSet 2 (mC (.int 0)))
  (mSeq (mIfS (mTb (mBin pLt (mVar 1) (mApp pLen (mCons (mVar 0) mNil)))) (mSet 2 (mBin pIdx (mVar 0) (mVar 1))) mPass)
  (mSeq (mSet 3 (mApp (pMM maxI) (mCons (mApp pInt1 (mCons (mVar 2) mNil)) (mCons (mApp pInt1 (mCons (mBin pSub (mNeg (mC (.int 1))) (mVar 2)) mNil)) mNil))))
  (mSeq (mSet 4 (mBin pMd (mApp pInt1 (mCons (mBin pMulA (mBin pAdd (mBin pAdd (mBin pAdd (mBin pMd (mApp pInt1 (mCons (mVar 3) mNil)) (mC (.int 2147483629))) (mBin pMulA (mBin pMulA (mC (.int 7919)) (mVar 1)) (mVar 1))) (mBin pMulA (mC (.int 31)) (mVar 1))) (mC (.int 17))) (mC (.int 48271))) mNil)) (mC (.int 2147483647))))
  (mRet (mLst (mCons (mBin pMulA (mVar 3) (mApp pInt1 (mCons (mBin pGe (mVar 3) (mBin pPw (mC (.int 10)) (mC (.int 18)))) mNil))) (mCons (mVar 4) mNil))))))))
def b_28 (c : CT) : MS :=
  (mSeq (mIfS (mTb (mBin pGt (mBin pIdx (mVar 0) (mC (.int 0))) (mC (.int 0)))) (mSeq (mSet 2 (mBin pMd (mApp pInt1 (mCons (mBin pIdx (mVar 0) (mC (.int 0))) mNil)) (mVar 1)))
  (mSeq (mSub (mVar 0) (mC (.int 0)) (mBin pFd (mBin pIdx (mVar 0) (mC (.int 0))) (mVar 1)))
  (mRet (mVar 2)))) mPass)
  (mSeq (mSub (mVar 0) (mC (.int 1)) (mBin pMd (mApp pInt1 (mCons (mBin pAdd (mBin pMulA (mBin pIdx (mVar 0) (mC (.int 1))) (mC (.int 39373))) (mC (.int 7))) mNil)) (mC (.int 2147483647))))
  (mRet (mBin pMd (mApp pInt1 (mCons (mBin pFd (mBin pMd (mApp pInt1 (mCons (mBin pMulA (mBin pIdx (mVar 0) (mC (.int 1))) (mBin pIdx (mVar 0) (mC (.int 1)))) mNil)) (mC (.int 2147483629))) (mC (.int 32))) mNil)) (mVar 1)))))
def b_29 (c : CT) : MS :=
  (mRet (mBin pIdx (mVar 1) (mCall (c 28) (mCons (mVar 0) (mCons (mApp pLen (mCons (mVar 1) mNil)) mNil)))))
def b_30 (c : CT) : MS :=
  (mSeq (mSet 1 (mLst (mCons (mLst (mCons (mC (.str [120])) (mCons (mC (.str [121])) mNil))) (mCons (mLst (mCons (mC (.str [120])) (mCons (mC (.str [121])) (mCons (mC (.str [122])) (mCons (mC (.str [97])) mNil))))) (mCons (mLst (mCons (mC (.str [97])) (mCons (mC (.str [98])) (mCons (mC (.str [99])) (mCons (mC (.str [100])) (mCons (mC (.str [101])) (mCons (mC (.str [102])) mNil))))))) (mCons (mLst (mCons (mC (.str [120])) (mCons (mC (.str [97, 98, 99, 100, 101, 102, 103, 104])) (mCons (mC (.str [97, 97])) (mCons (mC (.str [98])) (mCons (mC (.str [122, 122])) mNil)))))) mNil))))))
  (mRet (mCall (c 29) (mCons (mVar 0) (mCons (mVar 1) mNil)))))
def b_31 (c : CT) : MS :=
  (mRet (mTup (mCons (mC (.str [117, 115, 101])) (mCons (mCall (c 29) (mCons (mVar 0) (mCons (mVar 1) mNil))) mNil))))
def b_32 (c : CT) : MS :=
  (mSeq (mIfS (mOrT (mTb (mBin pLt (mBin pIdx (mVar 2) (mC (.int 0))) (mC (.int 3)))) (mTb (mBin pEq (mCall (c 28) (mCons (mVar 0) (mCons (mC (.int 7)) mNil))) (mC (.int 0))))) (mRet (mLst (mCons (mCall (c 31) (mCons (mVar 0) (mCons (mVar 1) mNil))) (mCons (mLst (mCons (mBin pSub (mBin pIdx (mVar 2) (mC (.int 0))) (mC (.int 1))) (mCons (mBin pIdx (mVar 2) (mC (.int 1))) mNil))) mNil)))) mPass)
  (mSeq (mIfS (mAndT (mTb (mBin pGt (mBin pIdx (mVar 2) (mC (.int 1))) (mC (.int 0)))) (mTb (mBin pGt (mCall (c 28) (mCons (mVar 0) (mCons (mC (.int 3)) mNil))) (mC (.int 0))))) (mRet (mCall (c 33) (mCons (mVar 0) (mCons (mVar 1) (mCons (mVar 2) mNil))))) mPass)
  (mSeq (mPar 3 4 (mCons (mLst mNil) (mCons (mLst (mCons (mBin pSub (mBin pIdx (mVar 2) (mC (.int 0))) (mC (.int 1))) (mCons (mBin pIdx (mVar 2) (mC (.int 1))) mNil))) mNil)))
  (mSeq (mFor (mRng1 (mCons (mCall (c 29) (mCons (mVar 0) (mCons (mLst (mCons (mC (.int 0)) (mCons (mC (.int 1)) (mCons (mC (.int 2)) (mCons (mC (.int 2)) (mCons (mC (.int 3)) mNil)))))) mNil))) mNil)) (gSet 5) (mIfS (mTb (mBin pGt (mBin pIdx (mVar 4) (mC (.int 0))) (mC (.int 0)))) (mSeq (mAsg (gTupM [(gSet 6), (gSet 4)]) (mCall (c 32) (mCons (mVar 0) (mCons (mVar 1) (mCons (mVar 4) mNil)))))
  (mDrop (mMethL pAppend (mVar 3) (mCons (mVar 6) mNil)))) mPass))
  (mRet (mLst (mCons (mTup (mCons (mC (.str [106, 111, 105, 110])) (mCons (mCall (c 29) (mCons (mVar 0) (mCons (mLst (mCons (mC (.str [102])) (mCons (mC (.str [120])) (mCons (mC (.str [106, 111, 105, 110])) mNil)))) mNil))) (mCons (mApp pTuple (mCons (mVar 3) mNil)) mNil)))) (mCons (mVar 4) mNil))))))))
def b_33 (c : CT) : MS :=
  (mSeq (mPar 3 4 (mCons (mLst mNil) (mCons (mLst (mCons (mBin pSub (mBin pIdx (mVar 2) (mC (.int 0))) (mC (.int 1))) (mCons (mBin pSub (mBin pIdx (mVar 2) (mC (.int 1))) (mC (.int 1))) mNil))) mNil)))
  (mSeq (mFor (mRng1 (mCons (mCall (c 29) (mCons (mVar 0) (mCons (mLst (mCons (mC (.int 0)) (mCons (mC (.int 0)) (mCons (mC (.int 0)) (mCons (mC (.int 1)) (mCons (mC (.int 1)) (mCons (mC (.int 2)) mNil))))))) mNil))) mNil)) (gSet 5) (mIfS (mTb (mBin pGt (mBin pIdx (mVar 4) (mC (.int 0))) (mC (.int 3)))) (mSeq (mAsg (gTupM [(gSet 6), (gSet 4)]) (mCall (c 32) (mCons (mVar 0) (mCons (mVar 1) (mCons (mVar 4) mNil)))))
  (mDrop (mMethL pAppend (mVar 3) (mCons (mVar 6) mNil)))) mPass))
  (mSeq (mIfS (mTb (mBin pLt (mBin pIdx (mVar 4) (mC (.int 0))) (mC (.int 1)))) (mRet (mLst (mCons (mTup (mCons (mC (.str [98, 105, 110, 100])) (mCons (mCall (c 29) (mCons (mVar 0) (mCons (mVar 1) mNil))) (mCons (mTup mNil) (mCons (mBin pIdx (mVar 3) (mC (.int 0))) mNil))))) (mCons (mVar 4) mNil)))) mPass)
  (mSeq (mAsg (gTupM [(gSet 6), (gSet 4)]) (mCall (c 32) (mCons (mVar 0) (mCons (mVar 1) (mCons (mVar 4) mNil)))))
  (mRet (mLst (mCons (mTup (mCons (mC (.str [98, 105, 110, 100])) (mCons (mCall (c 29) (mCons (mVar 0) (mCons (mVar 1) mNil))) (mCons (mApp pTuple (mCons (mVar 3) mNil)) (mCons (mVar 6) mNil))))) (mCons (mVar 4) mNil))))))))
def b_34 (c : CT) : MS :=
  (mSeq (mSet 3 (mTup (mCons (mC (.str [106, 111, 105, 110])) (mCons (mC (.str [102])) (mCons (mApp pTuple (mCons (mComp (mRng1 (mCons (mBin pAdd (mC (.int 1)) (mCall (c 28) (mCons (mVar 0) (mCons (mC (.int 4)) mNil)))) mNil)) (gSet 4) mYes (mCall (c 31) (mCons (mVar 0) (mCons (mVar 1) mNil))) [4]) mNil)) mNil)))))
  (mSeq (mFor (mRng1 (mCons (mVar 2) mNil)) (gSet 4) (mSeq (mSet 5 (mComp (mRng1 (mCons (mCall (c 28) (mCons (mVar 0) (mCons (mC (.int 2)) mNil))) mNil)) (gSet 6) mYes (mCall (c 31) (mCons (mVar 0) (mCons (mVar 1) mNil))) [6]))
  (mSeq (mSet 7 (mIf (mTb (mBin pEq (mVar 5) (mLst mNil))) (mVar 3) (mTup (mCons (mC (.str [106, 111, 105, 110])) (mCons (mC (.str [103])) (mCons (mApp pTuple (mCons (mBin pAdd (mVar 5) (mLst (mCons (mVar 3) mNil))) mNil)) mNil))))))
  (mSeq (mSet 8 (mIf (mTb (mBin pEq (mCall (c 28) (mCons (mVar 0) (mCons (mC (.int 4)) mNil))) (mC (.int 0)))) (mLst (mCons (mCall (c 31) (mCons (mVar 0) (mCons (mVar 1) mNil))) mNil)) (mLst mNil)))
  (mSet 3 (mTup (mCons (mC (.str [98, 105, 110, 100])) (mCons (mCall (c 29) (mCons (mVar 0) (mCons (mVar 1) mNil))) (mCons (mApp pTuple (mCons (mVar 8) mNil)) (mCons (mVar 7) mNil))))))))))
  (mRet (mVar 3))))
def b_35 (c : CT) : MS :=
  (mSeq (mPar 3 4 (mCons (mCall (c 30) (mCons (mVar 0) mNil)) (mCons (mCall (c 28) (mCons (mVar 0) (mCons (mC (.int 4)) mNil))) mNil)))
  (mSeq (mIfS (mTb (mBin pEq (mVar 4) (mC (.int 0)))) (mRet (mCall (c 34) (mCons (mVar 0) (mCons (mVar 3) (mCons (mCall (c 28) (mCons (mVar 0) (mCons (mBin pAdd (mApp (pMM minI) (mCons (mVar 2) (mCons (mBin pFd (mVar 1) (mC (.int 6))) mNil))) (mC (.int 1))) mNil))) mNil))))) mPass)
  (mSeq (mIfS (mTb (mBin pEq (mVar 4) (mC (.int 1)))) (mSeq (mSet 5 (mLst (mCons (mBin pFd (mVar 1) (mC (.int 2))) (mCons (mBin pFd (mVar 2) (mC (.int 2))) mNil))))
  (mSeq (mPar 6 7 (mCons (mBin pIdx (mCall (c 32) (mCons (mVar 0) (mCons (mVar 3) (mCons (mVar 5) mNil)))) (mC (.int 0))) (mCons (mBin pIdx (mCall (c 32) (mCons (mVar 0) (mCons (mVar 3) (mCons (mVar 5) mNil)))) (mC (.int 0))) mNil)))
  (mRet (mTup (mCons (mC (.str [106, 111, 105, 110])) (mCons (mC (.str [102])) (mCons (mTup (mCons (mVar 6) (mCons (mVar 7) mNil))) mNil))))))) mPass)
  (mRet (mBin pIdx (mCall (c 32) (mCons (mVar 0) (mCons (mVar 3) (mCons (mLst (mCons (mVar 1) (mCons (mVar 2) mNil))) mNil)))) (mC (.int 0)))))))
def b_36 (c : CT) : MS :=
  (mSeq (mIfS (mTb (mBin pEq (mBin pIdx (mVar 0) (mC (.int 0))) (mC (.str [117, 115, 101])))) (mRet (mLst mNil)) mPass)
  (mRet (mIf (mTb (mBin pEq (mBin pIdx (mVar 0) (mC (.int 0))) (mC (.str [106, 111, 105, 110])))) (mApp pList (mCons (mBin pIdx (mVar 0) (mC (.int 2))) mNil)) (mBin pAdd (mApp pList (mCons (mBin pIdx (mVar 0) (mC (.int 2))) mNil)) (mLst (mCons (mBin pIdx (mVar 0) (mC (.int 3))) mNil))))))
def b_37 (c : CT) : MS :=
  (mSeq (mSet 1 (mLst (mCons (mVar 0) mNil)))
  (mSeq (mFor (mSrc (mCall (c 36) (mCons (mVar 0) mNil))) (gSet 2) (mSet 1 (mBin pAdd (mVar 1) (mCall (c 37) (mCons (mVar 2) mNil)))))
  (mRet (mVar 1))))
def b_39 (c : CT) : MS :=
  (mRet (mBin pAdd (mC (.int 1)) (mApp (pMM maxI) (mCons (mBin pAdd (mLst (mCons (mC (.int 0)) mNil)) (mComp (mSrc (mCall (c 36) (mCons (mVar 0) mNil))) (gSet 1) mYes (mApp pInt1 (mCons (mCall (c 39) (mCons (mVar 1) mNil)) mNil)) [1])) mNil))))
def b_40 (c : CT) : MS :=
  (mSeq (mSet 2 (mCall (c 37) (mCons (mVar 0) mNil)))
  (mSeq (mIfS (mOrT (mTb (mBin pNe (mOwn 0 (c 14) (mVar 1) mNil) (mVar 0))) (mTb (mBin pNe (mApp (pLenO 0 (c 15)) (mCons (mVar 1) mNil)) (mApp pLen (mCons (mVar 2) mNil))))) (mRet (mC (.bl false))) mPass)
  (mSeq (mIfS (mTb (mBin pNe (mOwn 0 (c 19) (mVar 1) mNil) (mVar 2))) (mRet (mC (.bl false))) mPass)
  (mSeq (mSet 3 (mComp (mEnum (mCons (mVar 2) mNil)) (gTupM [(gSet 4), (gSet 5)]) (mTb (mBin pEq (mBin pIdx (mVar 5) (mC (.int 0))) (mC (.str [98, 105, 110, 100])))) (mVar 4) [4, 5]))
  (mSeq (mSet 6 (mComp (mEnum (mCons (mVar 2) mNil)) (gTupM [(gSet 4), (gSet 5)]) (mTb (mBin pEq (mBin pIdx (mVar 5) (mC (.int 0))) (mC (.str [117, 115, 101])))) (mVar 4) [4, 5]))
  (mSeq (mIfS (mOrT (mTb (mBin pNe (mOwn 0 (c 20) (mVar 1) mNil) (mVar 3))) (mTb (mBin pNe (mOwn 0 (c 21) (mVar 1) mNil) (mVar 6)))) (mRet (mC (.bl false))) mPass)
  (mSeq (mIfS (mTb (mBin pNe (mOwn 0 (c 22) (mVar 1) mNil) (mCall (c 39) (mCons (mVar 0) mNil)))) (mRet (mC (.bl false))) mPass)
  (mRet (mAndV (mBin pEq (mComp (mRng1 (mCons (mApp pLen (mCons (mVar 2) mNil)) mNil)) (gSet 4) mYes (mGetO 0 (c 16) (mVar 1) (mVar 4)) [4]) (mVar 2)) (mBin pEq (mComp (mSrc (mVar 2)) (gSet 5) (mTb (mBin (pInO true 0 (c 17)) (mVar 5) (mVar 1))) (mVar 5) [5]) (mLst mNil)))))))))))
def x_38 : Hm → D → Re D := (xLst (xCons (xC (.str [110, 111])) (xCons (xRepr xF) xNil)))
def b_41 (c : CT) : MS :=
  (mSeq (mFor (mRng1 (mCons (mApp (pMM maxI) (mCons (mC (.int 1)) (mCons (mApp (pMM minI) (mCons (mC (.int 8)) (mCons (mApp pLen (mCons (mVar 0) mNil)) mNil))) mNil))) mNil)) (gSet 1) (mSeq (mSet 2 (mCall (c 27) (mCons (mVar 0) (mCons (mVar 1) mNil))))
  (mSeq (mSet 3 (mCall (c 35) (mCons (mVar 2) (mCons (mC (.int 20)) (mCons (mC (.int 6)) mNil)))))
  (mSeq (mSet 4 (mMake 0 (c 13) (mCons (mVar 3) mNil)))
  (mSeq (mFor (mRng1 (mCons (mC (.int 2)) mNil)) (gSet 5) (mSeq (mIfS (mOrT (mNotT (mTru (mCall (c 40) (mCons (mVar 3) (mCons (mVar 4) mNil))))) (mTb (mBin (pIs true) (mCall (c 6) (mCons (mVar 3) mNil)) (mC (.bl true))))) (mRet (mC (.bl false))) mPass)
  (mFor (mSrc (mLst (mCons (mOwn 0 (c 19) (mVar 4) mNil) (mCons (mOwn 0 (c 20) (mVar 4) mNil) (mCons (mOwn 0 (c 21) (mVar 4) mNil) mNil))))) (gSet 6) (mDrop (mMethL pAppend (mVar 6) (mCons (mC .non) mNil))))))
  (mSeq (mFor (mSrc (mCall (c 37) (mCons (mVar 3) mNil))) (gSet 7) (mIfS (mOrT (mTb (mBin pNe (mBin (pEqO 0 1 (c 23)) (mMake 0 (c 13) (mCons (mVar 7) mNil)) (mVar 4)) (mBin pEq (mVar 7) (mVar 3)))) (mTb (mBin (pEqO 0 1 (c 23)) (mMake 0 (c 13) (mCons (mVar 7) mNil)) (mVar 7)))) (mRet (mC (.bl false))) mPass))
  (mSeq (mSet 8 (mCall (c 35) (mCons (mVar 2) (mCons (mC (.int 20)) (mCons (mC (.int 6)) mNil)))))
  (mSeq (mIfS (mTb (mBin pNe (mBin (pInO false 0 (c 17)) (mVar 8) (mVar 4)) (mBin (pIn false) (mVar 8) (mCall (c 37) (mCons (mVar 3) mNil))))) (mRet (mC (.bl false))) mPass)
  (mSeq (mIfS (mTb (mBin pNe (mBin (pEqO 0 1 (c 23)) (mMake 0 (c 13) (mCons (mVar 8) mNil)) (mVar 4)) (mBin pEq (mVar 8) (mVar 3)))) (mRet (mC (.bl false))) mPass)
  (mSeq (mFor (mSrc (mLst (mCons (mC .non) (mCons (mC (.str [120])) (mCons (mC (.int 0)) (mCons (mTup (mCons (mC (.str [117, 115, 101])) (mCons (mC (.str [113])) mNil))) (mCons (mLst (mCons (mVar 3) mNil)) (mCons (mTup (mCons (mC (.str [117, 115, 101])) (mCons (mC (.int 5)) mNil))) (mCons mDict0 (mCons (mVar 4) mNil)))))))))) (gSet 9) (mIfS (mTb (mBin (pInO false 0 (c 17)) (mVar 9) (mVar 4))) (mRet (mC (.bl false))) mPass))
  (mFor (mSrc (mLst (mCons (mC .non) (mCons (mNeg (mC (.int 1))) (mCons (mApp (pLenO 0 (c 15)) (mCons (mVar 4) mNil)) (mCons (mC (.bl true)) (mCons (mC (.str [48])) (mCons (mTup (mCons (mC (.int 0)) mNil)) mNil)))))))) (gSet 9) (mIfS (mTb (mBin pNe (mTold 2 x_38 (mGetO 0 (c 16) (mVar 4) (mVar 9))) (mLst (mCons (mC (.str [110, 111])) (mCons (mApp pRepr (mCons (mVar 9) mNil)) mNil))))) (mRet (mC (.bl false))) mPass))))))))))))
  (mRet (mC (.bl true))))
def bod (c : CT) : CT := fun j => match j with
  | 4 => mBody 1 1 (b_4 c)
  | 5 => mBody 1 1 (b_5 c)
  | 6 => mBody 1 3 (b_6 c)
  | 7 => mBody 1 2 (b_7 c)
  | 8 => mBody 1 1 (b_8 c)
  | 9 => mBody 1 3 (b_9 c)
  | 10 => mBody 1 4 (b_10 c)
  | 11 => mBody 2 4 (b_11 c)
  | 12 => mBody 1 3 (b_12 c)
  | 13 => mBody 2 5 (b_13 c)
  | 14 => mBody 1 1 (b_14 c)
  | 15 => mBody 1 1 (b_15 c)
  | 16 => mBody 2 2 (b_16 c)
  | 17 => mBody 2 2 (b_17 c)
  | 19 => mBody 1 1 (b_19 c)
  | 20 => mBody 1 1 (b_20 c)
  | 21 => mBody 1 1 (b_21 c)
  | 22 => mBody 1 1 (b_22 c)
  | 23 => mBody 2 2 (b_23 c)
  | 27 => mBody 2 5 (b_27 c)
  | 28 => mBody 2 3 (b_28 c)
  | 29 => mBody 2 2 (b_29 c)
  | 30 => mBody 1 2 (b_30 c)
  | 31 => mBody 2 2 (b_31 c)
  | 32 => mBody 3 7 (b_32 c)
  | 33 => mBody 3 7 (b_33 c)
  | 34 => mBody 3 9 (b_34 c)
  | 35 => mBody 3 8 (b_35 c)
  | 36 => mBody 1 1 (b_36 c)
  | 37 => mBody 1 3 (b_37 c)
  | 39 => mBody 1 2 (b_39 c)
  | 40 => mBody 2 7 (b_40 c)
  | _ => fun _ _ => .no
def cl : Nat → CT
  | 0 => fun _ _ _ => .no
  | m + 1 => bod (cl m)
structure Txt (K : PySem.W.Frag) (w : World) (mg : Str → Option Value) (ga : Nat → Addr) (Tb : List (Addr × Str)) (fa : Nat → Addr) (fd : Nat → FuncData) (da_SIZES : Addr) : Prop where
  u4 : Fun K "is_name" "is_name" st_4 (fa 4) (fd 4)
  m4 : mg "is_name" = some (.ref (fa 4))
  b4 : Binds K (fd 4) ["value"] []
  u5 : Fun K "is_number" "is_number" st_5 (fa 5) (fd 5)
  m5 : mg "is_number" = some (.ref (fa 5))
  b5 : Binds K (fd 5) ["value"] []
  u6 : Fun K "is_tree" "is_tree" st_6 (fa 6) (fd 6)
  m6 : mg "is_tree" = some (.ref (fa 6))
  b6 : Binds K (fd 6) ["value"] []
  u7 : Fun K "has_node_form" "has_node_form" st_7 (fa 7) (fd 7)
  m7 : mg "has_node_form" = some (.ref (fa 7))
  b7 : Binds K (fd 7) ["value"] []
  u8 : Fun K "trees_below" "trees_below" st_8 (fa 8) (fd 8)
  m8 : mg "trees_below" = some (.ref (fa 8))
  b8 : Binds K (fd 8) ["node"] []
  u9 : Fun K "row_below" "row_below" st_9 (fa 9) (fd 9)
  m9 : mg "row_below" = some (.ref (fa 9))
  b9 : Binds K (fd 9) ["row"] []
  u10 : Fun K "nodes_of" "nodes_of" st_10 (fa 10) (fd 10)
  m10 : mg "nodes_of" = some (.ref (fa 10))
  b10 : Binds K (fd 10) ["tree"] []
  u11 : Fun K "numbers_of" "numbers_of" st_11 (fa 11) (fd 11)
  m11 : mg "numbers_of" = some (.ref (fa 11))
  b11 : Binds K (fd 11) ["kind", "nodes"] []
  u12 : Fun K "depth_of" "depth_of" st_12 (fa 12) (fd 12)
  m12 : mg "depth_of" = some (.ref (fa 12))
  b12 : Binds K (fd 12) ["tree"] []
  u13 : Fun K "__init__" "Term.__init__" st_13 (fa 13) (fd 13)
  b13 : Binds K (fd 13) ["self", "tree"] []
  u14 : Fun K "tree" "Term.tree" st_14 (fa 14) (fd 14)
  b14 : Binds K (fd 14) ["self"] []
  u15 : Fun K "__len__" "Term.__len__" st_15 (fa 15) (fd 15)
  b15 : Binds K (fd 15) ["self"] []
  u16 : Fun K "__getitem__" "Term.__getitem__" st_16 (fa 16) (fd 16)
  b16 : Binds K (fd 16) ["self", "at"] []
  u17 : Fun K "__contains__" "Term.__contains__" st_17 (fa 17) (fd 17)
  b17 : Binds K (fd 17) ["self", "x"] []
  u19 : Fun K "listed" "Term.listed" st_19 (fa 19) (fd 19)
  b19 : Binds K (fd 19) ["self"] []
  u20 : Fun K "binders" "Term.binders" st_20 (fa 20) (fd 20)
  b20 : Binds K (fd 20) ["self"] []
  u21 : Fun K "uses" "Term.uses" st_21 (fa 21) (fd 21)
  b21 : Binds K (fd 21) ["self"] []
  u22 : Fun K "depth" "Term.depth" st_22 (fa 22) (fd 22)
  b22 : Binds K (fd 22) ["self"] []
  u23 : Fun K "__eq__" "Term.__eq__" st_23 (fa 23) (fd 23)
  b23 : Binds K (fd 23) ["self", "other"] []
  u27 : Fun K "_law_pool" "_law_pool" st_27 (fa 27) (fd 27)
  m27 : mg "_law_pool" = some (.ref (fa 27))
  b27 : Binds K (fd 27) ["_law_script", "_law_k"] []
  u28 : Fun K "_law_take" "_law_take" st_28 (fa 28) (fd 28)
  m28 : mg "_law_take" = some (.ref (fa 28))
  b28 : Binds K (fd 28) ["_law_source", "_law_top"] []
  u29 : Fun K "_law_one" "_law_one" st_29 (fa 29) (fd 29)
  m29 : mg "_law_one" = some (.ref (fa 29))
  b29 : Binds K (fd 29) ["_law_source", "_law_things"] []
  u30 : Fun K "_law_words" "_law_words" st_30 (fa 30) (fd 30)
  m30 : mg "_law_words" = some (.ref (fa 30))
  b30 : Binds K (fd 30) ["_law_source"] []
  u31 : Fun K "_law_leaf" "_law_leaf" st_31 (fa 31) (fd 31)
  m31 : mg "_law_leaf" = some (.ref (fa 31))
  b31 : Binds K (fd 31) ["_law_source", "_law_words_here"] []
  u32 : Fun K "_law_grown" "_law_grown" st_32 (fa 32) (fd 32)
  m32 : mg "_law_grown" = some (.ref (fa 32))
  b32 : Binds K (fd 32) ["_law_source", "_law_words_here", "_law_room"] []
  u33 : Fun K "_law_bound" "_law_bound" st_33 (fa 33) (fd 33)
  m33 : mg "_law_bound" = some (.ref (fa 33))
  b33 : Binds K (fd 33) ["_law_source", "_law_words_here", "_law_room"] []
  u34 : Fun K "_law_nested" "_law_nested" st_34 (fa 34) (fd 34)
  m34 : mg "_law_nested" = some (.ref (fa 34))
  b34 : Binds K (fd 34) ["_law_source", "_law_words_here", "_law_deep_here"] []
  u35 : Fun K "_law_tree" "_law_tree" st_35 (fa 35) (fd 35)
  m35 : mg "_law_tree" = some (.ref (fa 35))
  b35 : Binds K (fd 35) ["_law_source", "_law_most_nodes", "_law_most_binders"] []
  u36 : Fun K "_law_below" "_law_below" st_36 (fa 36) (fd 36)
  m36 : mg "_law_below" = some (.ref (fa 36))
  b36 : Binds K (fd 36) ["_law_tree_here"] []
  u37 : Fun K "_law_nodes" "_law_nodes" st_37 (fa 37) (fd 37)
  m37 : mg "_law_nodes" = some (.ref (fa 37))
  b37 : Binds K (fd 37) ["_law_tree_here"] []
  u39 : Fun K "_law_deep" "_law_deep" st_39 (fa 39) (fd 39)
  m39 : mg "_law_deep" = some (.ref (fa 39))
  b39 : Binds K (fd 39) ["_law_tree_here"] []
  u40 : Fun K "_law_told_right" "_law_told_right" st_40 (fa 40) (fd 40)
  m40 : mg "_law_told_right" = some (.ref (fa 40))
  b40 : Binds K (fd 40) ["_law_tree_here", "_law_made"] []
  u41 : Fun K "law" "law" st_41 (fa 41) (fd 41)
  m41 : mg "law" = some (.ref (fa 41))
  b41 : Binds K (fd 41) ["_law_script"] []
  u2 : Fun K "__init__" "NoNode.__init__" st_2 (fa 2) (fd 2)
  b2 : Binds K (fd 2) ["self", "index"] []
  u38 : Fun K "_law_tried" "_law_tried" st_38 (fa 38) (fd 38)
  m38 : mg "_law_tried" = some (.ref (fa 38))
  b38 : Binds K (fd 38) ["_law_function"] []
  z_all : mg "all" = none
  z_bool : mg "bool" = none
  z_enumerate : mg "enumerate" = none
  z_int : mg "int" = none
  z_isinstance : mg "isinstance" = none
  z_len : mg "len" = none
  z_list : mg "list" = none
  z_max : mg "max" = none
  z_min : mg "min" = none
  z_range : mg "range" = none
  z_repr : mg "repr" = none
  z_str : mg "str" = none
  z_tuple : mg "tuple" = none
  g_LONGEST_NAME : ∃ t, mg "LONGEST_NAME" = some (.int 8 t)
  g_MOST_BINDERS : ∃ t, mg "MOST_BINDERS" = some (.int 60 t)
  g_MOST_NODES : ∃ t, mg "MOST_NODES" = some (.int 400 t)
  g_MOST_ON_A_WAY : ∃ t, mg "MOST_ON_A_WAY" = some (.int 100 t)
  l_SIZES : LitD K w (da_SIZES) kv_SIZES
  g_SIZES : mg "SIZES" = some (.ref da_SIZES)
  g_NoNode : mg "NoNode" = some (.ref (ga 2))
  g_Term : mg "Term" = some (.ref (ga 0))
  kt_Term : ∀ j, j < 8 → PySem.W.kitOne K (kdV (GG K ga Tb) j) (.ref (ga 0)) = some (([7] : List Nat).contains j)
  kt_bool : ∀ j, j < 8 → PySem.W.kitOne K (kdV (GG K ga Tb) j) (.type "bool") = some (([1] : List Nat).contains j)
  kt_int : ∀ j, j < 8 → PySem.W.kitOne K (kdV (GG K ga Tb) j) (.type "int") = some (([1, 2] : List Nat).contains j)
  kt_str : ∀ j, j < 8 → PySem.W.kitOne K (kdV (GG K ga Tb) j) (.type "str") = some (([3] : List Nat).contains j)
  kt_tuple : ∀ j, j < 8 → PySem.W.kitOne K (kdV (GG K ga Tb) j) (.type "tuple") = some (([4] : List Nat).contains j)
  kn : Kinds (GG K ga Tb) 1
  d0_contains : ClsD (GG K ga Tb) 0 "__contains__" (fa 17)
  d0_eq : ClsD (GG K ga Tb) 0 "__eq__" (fa 23)
  d0_getitem : ClsD (GG K ga Tb) 0 "__getitem__" (fa 16)
  d0_getfn : PySem.W.fnIn K (fa 16) = true
  d0_len : ClsD (GG K ga Tb) 0 "__len__" (fa 15)
  f2 : ∀ c ∈ ([0] : List Nat), ClsF (GG K ga Tb) c "_binders"
  f4 : ∀ c ∈ ([0] : List Nat), ClsF (GG K ga Tb) c "_depth"
  f1 : ∀ c ∈ ([0] : List Nat), ClsF (GG K ga Tb) c "_nodes"
  f0 : ∀ c ∈ ([0] : List Nat), ClsF (GG K ga Tb) c "_tree"
  f3 : ∀ c ∈ ([0] : List Nat), ClsF (GG K ga Tb) c "_uses"
  e20 : ClsM (GG K ga Tb) 0 "binders" (fa 20)
  e22 : ClsM (GG K ga Tb) 0 "depth" (fa 22)
  e19 : ClsM (GG K ga Tb) 0 "listed" (fa 19)
  e14 : ClsM (GG K ga Tb) 0 "tree" (fa 14)
  e21 : ClsM (GG K ga Tb) 0 "uses" (fa 21)
  mk0 : Mk K (ga 0) (fa 13)
  nf0 : ∀ j, j < 8 → PySem.W.notFirst K (ga 0) (kdV (GG K ga Tb) j) = true
  o2 : Oex (GG K ga Tb) 2 (fa 2)
  on2 : PySem.W.findIn K (.ref (ga 2)) "index" = some none
  x2 : ExF (GG K ga Tb) 2
  xm2 : PySem.W.exmOne K (.ref (ga 2)) (.ref (ga 2)) = some true
section
variable {P : Program} {w : World} {K : PySem.W.Frag} {mg : Str → Option Value} {base : Heap} {ga : Nat → Addr} {Tb : List (Addr × Str)} {fa : Nat → Addr} {fd : Nat → FuncData} {da_SIZES : Addr} {m : Nat} {c : CT}
theorem oi_2 (T : Txt K w mg ga Tb fa fd da_SIZES) {k : Nat} : FnOk P w K mg base (L2.CX P w) (k + 1) (fa 2) (fd 2) (psn 2) (spI (ga 2) "index") :=
  oex_init T.o2.T T.on2 T.u2 sc_2 rfl (.inl rfl) (.inl rfl) (by decide) (by decide) (by decide) (by decide) (fun _ => rfl)
theorem ok_4 (T : Txt K w mg ga Tb fa fd da_SIZES) (hc : ∀ j, FnOk P w K mg base (L2.CX P w) (4 * m) (fa j) (fd j) (psn j) (spM (GG K ga Tb) (c j))) : FnOk P w K mg base (L2.CX P w) (4 * m + 4) (fa 4) (fd 4) (psn 4) (spM (GG K ga Tb) (mBody 1 1 (b_4 c))) :=
  fn_ok T.u4 sc_4 fun cdv A outer s H E hr =>
  (sss_cons (ss_if (SW.st (sw_or (st_not (st_val rfl (se_isi (ks := [3]) T.kn rfl (cls_ty rfl T.z_str (by decide +kernel)) (.ty "str") T.kt_str (se_var 0) rfl T.z_isinstance))) (sw_or1 (t_gt (e_len rfl T.z_len (se_var 0)) (se_globI T.g_LONGEST_NAME))))) (sss_one (ss_ret se_bl)) sss_nil)
  (sss_one (ss_ret (se_and rfl (e_isascii (se_var 0)) (se_and rfl (e_isalpha (se_var 0)) (se_one (e_islower (se_var 0))))))))
theorem ok_5 (T : Txt K w mg ga Tb fa fd da_SIZES) (hc : ∀ j, FnOk P w K mg base (L2.CX P w) (4 * m) (fa j) (fd j) (psn j) (spM (GG K ga Tb) (c j))) : FnOk P w K mg base (L2.CX P w) (4 * m + 4) (fa 5) (fd 5) (psn 5) (spM (GG K ga Tb) (mBody 1 1 (b_5 c))) :=
  fn_ok T.u5 sc_5 fun cdv A outer s H E hr =>
  (sss_one (ss_ret (se_and rfl (se_isi (ks := [1, 2]) T.kn rfl (cls_ty rfl T.z_int (by decide +kernel)) (.ty "int") T.kt_int (se_var 0) rfl T.z_isinstance) (se_one (se_not rfl (se_isi (ks := [1]) T.kn rfl (cls_ty rfl T.z_bool (by decide +kernel)) (.ty "bool") T.kt_bool (se_var 0) rfl T.z_isinstance))))))
theorem ok_6 (T : Txt K w mg ga Tb fa fd da_SIZES) (hc : ∀ j, FnOk P w K mg base (L2.CX P w) (4 * m) (fa j) (fd j) (psn j) (spM (GG K ga Tb) (c j))) : FnOk P w K mg base (L2.CX P w) (4 * m + 4) (fa 6) (fd 6) (psn 6) (spM (GG K ga Tb) (mBody 1 3 (b_6 c))) :=
  fn_ok T.u6 sc_6 fun cdv A outer s H E hr =>
  (sss_cons (ss_set 1 sc_6.nd (se_lst (sa_cons (se_var 0) sa_nil)))
  (sss_cons (ss_while (passes_of rfl) (st_val rfl (se_var 1)) (sss_cons (ss_if (st_not (st_val rfl (e_all rfl rfl T.z_all (se_comp [("part", 2)] rfl sc_6.nd (si_seq rfl (se_var 1)) (bk_6 (by decide +kernel)) (fun s H C cl fp => (sg_name 2 sc_6.nd)) (fun s H C cl fp => sts_nil) (fun s H C cl fp => (se_call ((hc 7).mono (by omega)) hr takes0 T.m7 T.u7.kp T.b7 (sa_cons (se_var 2) sa_nil))))))) (sss_one (ss_ret se_bl)) sss_nil)
  (sss_one (ss_set 1 sc_6.nd (se_call ((hc 9).mono (by omega)) hr (takes_of rfl rfl rfl rfl) T.m9 T.u9.kp T.b9 (sa_cons (se_var 1) sa_nil))))))
  (sss_one (ss_ret se_bl))))
theorem ok_7 (T : Txt K w mg ga Tb fa fd da_SIZES) (hc : ∀ j, FnOk P w K mg base (L2.CX P w) (4 * m) (fa j) (fd j) (psn j) (spM (GG K ga Tb) (c j))) : FnOk P w K mg base (L2.CX P w) (4 * m + 4) (fa 7) (fd 7) (psn 7) (spM (GG K ga Tb) (mBody 1 2 (b_7 c))) :=
  fn_ok T.u7 sc_7 fun cdv A outer s H E hr =>
  (sss_cons (ss_if (SW.st (sw_or (st_not (st_val rfl (se_isi (ks := [4]) T.kn rfl (cls_ty rfl T.z_tuple (by decide +kernel)) (.ty "tuple") T.kt_tuple (se_var 0) rfl T.z_isinstance))) (sw_or1 (t_eq rfl hr (e_len rfl T.z_len (se_var 0)) se_int)))) (sss_one (ss_ret se_bl)) sss_nil)
  (sss_cons (ss_set 1 sc_7.nd (e_ix rfl (se_var 0) se_int))
  (sss_cons (ss_if (SW.st (sw_or (st_not (st_val rfl (se_isi (ks := [3]) T.kn rfl (cls_ty rfl T.z_str (by decide +kernel)) (.ty "str") T.kt_str (se_var 1) rfl T.z_isinstance))) (sw_or1 (t_ne rfl hr (se_getK T.l_SIZES T.g_SIZES (se_var 1) ⟨rfl, rfl, rfl, rfl⟩) (e_len rfl T.z_len (se_var 0)))))) (sss_one (ss_ret se_bl)) sss_nil)
  (sss_one (ss_ret (se_and rfl (se_call ((hc 4).mono (by omega)) hr (takes_of rfl rfl rfl rfl) T.m4 T.u4.kp T.b4 (sa_cons (e_ix rfl (se_var 0) se_int) sa_nil)) (se_one (se_or rfl (e_eq rfl hr (se_var 1) (se_str [117, 115, 101])) (se_one (se_isi (ks := [4]) T.kn rfl (cls_ty rfl T.z_tuple (by decide +kernel)) (.ty "tuple") T.kt_tuple (e_ix rfl (se_var 0) se_int) rfl T.z_isinstance))))))))))
theorem ok_8 (T : Txt K w mg ga Tb fa fd da_SIZES) (hc : ∀ j, FnOk P w K mg base (L2.CX P w) (4 * m) (fa j) (fd j) (psn j) (spM (GG K ga Tb) (c j))) : FnOk P w K mg base (L2.CX P w) (4 * m + 4) (fa 8) (fd 8) (psn 8) (spM (GG K ga Tb) (mBody 1 1 (b_8 c))) :=
  fn_ok T.u8 sc_8 fun cdv A outer s H E hr =>
  (sss_cons (ss_if (t_eq rfl hr (e_ix rfl (se_var 0) se_int) (se_str [117, 115, 101])) (sss_one (ss_ret (se_tup sa_nil))) sss_nil)
  (sss_cons (ss_if (t_eq rfl hr (e_ix rfl (se_var 0) se_int) (se_str [106, 111, 105, 110])) (sss_one (ss_ret (e_ix rfl (se_var 0) se_int))) sss_nil)
  (sss_one (ss_ret (se_tup (sa_star rfl (e_ix rfl (se_var 0) se_int) (sa_cons (e_ix rfl (se_var 0) se_int) sa_nil)))))))
theorem ok_9 (T : Txt K w mg ga Tb fa fd da_SIZES) (hc : ∀ j, FnOk P w K mg base (L2.CX P w) (4 * m) (fa j) (fd j) (psn j) (spM (GG K ga Tb) (c j))) : FnOk P w K mg base (L2.CX P w) (4 * m + 4) (fa 9) (fd 9) (psn 9) (spM (GG K ga Tb) (mBody 1 3 (b_9 c))) :=
  fn_ok T.u9 sc_9 fun cdv A outer s H E hr =>
  (sss_one (ss_ret (se_comp2 [("node", 1), ("tree", 2)] [2] rfl sc_9.nd (si_seq rfl (se_var 0)) (bk_9 (by decide +kernel)) (by decide) (fun s H C cl fp => (sg_more (sg_name 1 sc_9.nd))) (fun s H C cl fp => sts_nil) (fun s H C cl fp => (si_seq rfl (se_call ((hc 8).mono (by omega)) hr takes0 T.m8 T.u8.kp T.b8 (sa_cons (se_var 1) sa_nil)))) (fun s H C cl fp => (sg_name 2 sc_9.nd)) (fun s H C cl fp => sts_nil) (fun s H C cl fp => (se_var 2)))))
theorem ok_10 (T : Txt K w mg ga Tb fa fd da_SIZES) (hc : ∀ j, FnOk P w K mg base (L2.CX P w) (4 * m) (fa j) (fd j) (psn j) (spM (GG K ga Tb) (c j))) : FnOk P w K mg base (L2.CX P w) (4 * m + 4) (fa 10) (fd 10) (psn 10) (spM (GG K ga Tb) (mBody 1 4 (b_10 c))) :=
  fn_ok T.u10 sc_10 fun cdv A outer s H E hr =>
  (sss_cons (ss_set 1 sc_10.nd (se_lst sa_nil))
  (sss_cons (ss_set 2 sc_10.nd (se_lst (sa_cons (se_var 0) sa_nil)))
  (sss_cons (ss_while (passes_of rfl) (st_val rfl (se_var 2)) (sss_cons (ss_set 3 sc_10.nd (e_pop rfl (se_var 2)))
  (sss_cons (ss_expr (e_append rfl (se_var 1) (se_var 3)))
  (sss_one (ss_expr (e_extend rfl (se_var 2) (se_revT rfl (se_call ((hc 8).mono (by omega)) hr (takes_of rfl rfl rfl rfl) T.m8 T.u8.kp T.b8 (sa_cons (se_var 3) sa_nil)))))))))
  (sss_one (ss_ret (se_var 1))))))
theorem ok_11 (T : Txt K w mg ga Tb fa fd da_SIZES) (hc : ∀ j, FnOk P w K mg base (L2.CX P w) (4 * m) (fa j) (fd j) (psn j) (spM (GG K ga Tb) (c j))) : FnOk P w K mg base (L2.CX P w) (4 * m + 4) (fa 11) (fd 11) (psn 11) (spM (GG K ga Tb) (mBody 2 4 (b_11 c))) :=
  fn_ok T.u11 sc_11 fun cdv A outer s H E hr =>
  (sss_one (ss_ret (se_comp [("number", 2), ("node", 3)] rfl sc_11.nd (si_enum rfl T.z_enumerate (sa_cons (se_var 1) sa_nil)) (bk_11 (by decide +kernel)) (fun s H C cl fp => (sg_tup rfl rfl (sgs_cons (sg_name 2 sc_11.nd) (sgs_cons (sg_name 3 sc_11.nd) sgs_nil)))) (fun s H C cl fp => (sts_one (t_eq rfl hr (e_ix rfl (se_var 3) se_int) (se_var 0)))) (fun s H C cl fp => (se_var 2)))))
theorem ok_12 (T : Txt K w mg ga Tb fa fd da_SIZES) (hc : ∀ j, FnOk P w K mg base (L2.CX P w) (4 * m) (fa j) (fd j) (psn j) (spM (GG K ga Tb) (c j))) : FnOk P w K mg base (L2.CX P w) (4 * m + 4) (fa 12) (fd 12) (psn 12) (spM (GG K ga Tb) (mBody 1 3 (b_12 c))) :=
  fn_ok T.u12 sc_12 fun cdv A outer s H E hr =>
  (sss_cons (ss_set 1 sc_12.nd se_int)
  (sss_cons (ss_set 2 sc_12.nd (se_lst (sa_cons (se_var 0) sa_nil)))
  (sss_cons (ss_while (passes_of rfl) (st_val rfl (se_var 2)) (sss_cons (ss_aug 1 sc_12.nd se_int ip_add prim_ipadd)
  (sss_one (ss_set 2 sc_12.nd (se_call ((hc 9).mono (by omega)) hr (takes_of rfl rfl rfl rfl) T.m9 T.u9.kp T.b9 (sa_cons (se_var 2) sa_nil))))))
  (sss_one (ss_ret (se_var 1))))))
theorem ok_13 (T : Txt K w mg ga Tb fa fd da_SIZES) (hc : ∀ j, FnOk P w K mg base (L2.CX P w) (4 * m) (fa j) (fd j) (psn j) (spM (GG K ga Tb) (c j))) : FnOk P w K mg base (L2.CX P w) (4 * m + 4) (fa 13) (fd 13) (psn 13) (spM (GG K ga Tb) (mBody 2 5 (b_13 c))) :=
  fn_ok T.u13 sc_13 fun cdv A outer s H E hr =>
  (sss_cons (ss_if (st_not (st_val rfl (se_call ((hc 6).mono (by omega)) hr (takes_of rfl rfl rfl rfl) T.m6 T.u6.kp T.b6 (sa_cons (se_var 1) sa_nil)))) (sss_one ss_no) sss_nil)
  (sss_cons (ss_set 2 sc_13.nd (se_call ((hc 10).mono (by omega)) hr (takes_of rfl rfl rfl rfl) T.m10 T.u10.kp T.b10 (sa_cons (se_var 1) sa_nil)))
  (sss_cons (ss_if (t_gt (e_len rfl T.z_len (se_var 2)) (se_globI T.g_MOST_NODES)) (sss_one ss_no) sss_nil)
  (sss_cons (ss_set 3 sc_13.nd (se_call ((hc 11).mono (by omega)) hr (takes_of rfl rfl rfl rfl) T.m11 T.u11.kp T.b11 (sa_cons (se_str [98, 105, 110, 100]) (sa_cons (se_var 2) sa_nil))))
  (sss_cons (ss_if (t_gt (e_len rfl T.z_len (se_var 3)) (se_globI T.g_MOST_BINDERS)) (sss_one ss_no) sss_nil)
  (sss_cons (ss_set 4 sc_13.nd (se_call ((hc 12).mono (by omega)) hr (takes_of rfl rfl rfl rfl) T.m12 T.u12.kp T.b12 (sa_cons (se_var 1) sa_nil)))
  (sss_cons (ss_if (t_gt (se_var 4) (se_globI T.g_MOST_ON_A_WAY)) (sss_one ss_no) sss_nil)
  (sss_cons (ss_fld (cs := [0]) 0 rfl GG_nd rfl T.f0 (se_var 0) (se_var 1))
  (sss_cons (ss_fld (cs := [0]) 1 rfl GG_nd rfl T.f1 (se_var 0) (se_var 2))
  (sss_cons (ss_fld (cs := [0]) 2 rfl GG_nd rfl T.f2 (se_var 0) (se_var 3))
  (sss_cons (ss_fld (cs := [0]) 3 rfl GG_nd rfl T.f3 (se_var 0) (se_call ((hc 11).mono (by omega)) hr (takes_of rfl rfl rfl rfl) T.m11 T.u11.kp T.b11 (sa_cons (se_str [117, 115, 101]) (sa_cons (se_var 2) sa_nil))))
  (sss_one (ss_fld (cs := [0]) 4 rfl GG_nd rfl T.f4 (se_var 0) (se_var 4))))))))))))))
theorem ok_14 (T : Txt K w mg ga Tb fa fd da_SIZES) (hc : ∀ j, FnOk P w K mg base (L2.CX P w) (4 * m) (fa j) (fd j) (psn j) (spM (GG K ga Tb) (c j))) : FnOk P w K mg base (L2.CX P w) (4 * m + 4) (fa 14) (fd 14) (psn 14) (spM (GG K ga Tb) (mBody 1 1 (b_14 c))) :=
  fn_ok T.u14 sc_14 fun cdv A outer s H E hr =>
  (sss_one (ss_ret (se_fld (cs := [0]) 0 rfl GG_nd rfl T.f0 (se_var 0))))
theorem ok_15 (T : Txt K w mg ga Tb fa fd da_SIZES) (hc : ∀ j, FnOk P w K mg base (L2.CX P w) (4 * m) (fa j) (fd j) (psn j) (spM (GG K ga Tb) (c j))) : FnOk P w K mg base (L2.CX P w) (4 * m + 4) (fa 15) (fd 15) (psn 15) (spM (GG K ga Tb) (mBody 1 1 (b_15 c))) :=
  fn_ok T.u15 sc_15 fun cdv A outer s H E hr =>
  (sss_one (ss_ret (e_len rfl T.z_len (se_fld (cs := [0]) 1 rfl GG_nd rfl T.f1 (se_var 0)))))
theorem ok_16 (T : Txt K w mg ga Tb fa fd da_SIZES) (hc : ∀ j, FnOk P w K mg base (L2.CX P w) (4 * m) (fa j) (fd j) (psn j) (spM (GG K ga Tb) (c j))) : FnOk P w K mg base (L2.CX P w) (4 * m + 4) (fa 16) (fd 16) (psn 16) (spM (GG K ga Tb) (mBody 2 2 (b_16 c))) :=
  fn_ok T.u16 sc_16 fun cdv A outer s H E hr =>
  (sss_cons (ss_if (SW.st (sw_or (st_not (st_val rfl (se_call ((hc 5).mono (by omega)) hr (takes_of rfl rfl rfl rfl) T.m5 T.u5.kp T.b5 (sa_cons (se_var 1) sa_nil)))) (sw_or (t_lt (se_var 1) se_int) (sw_or1 (t_ge (se_var 1) (e_len rfl T.z_len (se_fld (cs := [0]) 1 rfl GG_nd rfl T.f1 (se_var 0)))))))) (sss_one (ss_raise (c := 2) rfl rfl (takes_of rfl rfl rfl rfl) T.o2 (oi_2 T (k := 0)) (Room.mono hr (by omega)) T.b2 T.g_NoNode (se_var 1))) sss_nil)
  (sss_one (ss_ret (e_ix rfl (se_fld (cs := [0]) 1 rfl GG_nd rfl T.f1 (se_var 0)) (se_var 1)))))
theorem ok_17 (T : Txt K w mg ga Tb fa fd da_SIZES) (hc : ∀ j, FnOk P w K mg base (L2.CX P w) (4 * m) (fa j) (fd j) (psn j) (spM (GG K ga Tb) (c j))) : FnOk P w K mg base (L2.CX P w) (4 * m + 4) (fa 17) (fd 17) (psn 17) (spM (GG K ga Tb) (mBody 2 2 (b_17 c))) :=
  fn_ok T.u17 sc_17 fun cdv A outer s H E hr =>
  (sss_one (ss_ret (se_and rfl (se_call ((hc 6).mono (by omega)) hr (takes_of rfl rfl rfl rfl) T.m6 T.u6.kp T.b6 (sa_cons (se_var 1) sa_nil)) (se_one (e_in rfl hr (se_var 1) (se_fld (cs := [0]) 1 rfl GG_nd rfl T.f1 (se_var 0)))))))
theorem ok_19 (T : Txt K w mg ga Tb fa fd da_SIZES) (hc : ∀ j, FnOk P w K mg base (L2.CX P w) (4 * m) (fa j) (fd j) (psn j) (spM (GG K ga Tb) (c j))) : FnOk P w K mg base (L2.CX P w) (4 * m + 4) (fa 19) (fd 19) (psn 19) (spM (GG K ga Tb) (mBody 1 1 (b_19 c))) :=
  fn_ok T.u19 sc_19 fun cdv A outer s H E hr =>
  (sss_one (ss_ret (e_list rfl T.z_list (se_fld (cs := [0]) 1 rfl GG_nd rfl T.f1 (se_var 0)))))
theorem ok_20 (T : Txt K w mg ga Tb fa fd da_SIZES) (hc : ∀ j, FnOk P w K mg base (L2.CX P w) (4 * m) (fa j) (fd j) (psn j) (spM (GG K ga Tb) (c j))) : FnOk P w K mg base (L2.CX P w) (4 * m + 4) (fa 20) (fd 20) (psn 20) (spM (GG K ga Tb) (mBody 1 1 (b_20 c))) :=
  fn_ok T.u20 sc_20 fun cdv A outer s H E hr =>
  (sss_one (ss_ret (e_list rfl T.z_list (se_fld (cs := [0]) 2 rfl GG_nd rfl T.f2 (se_var 0)))))
theorem ok_21 (T : Txt K w mg ga Tb fa fd da_SIZES) (hc : ∀ j, FnOk P w K mg base (L2.CX P w) (4 * m) (fa j) (fd j) (psn j) (spM (GG K ga Tb) (c j))) : FnOk P w K mg base (L2.CX P w) (4 * m + 4) (fa 21) (fd 21) (psn 21) (spM (GG K ga Tb) (mBody 1 1 (b_21 c))) :=
  fn_ok T.u21 sc_21 fun cdv A outer s H E hr =>
  (sss_one (ss_ret (e_list rfl T.z_list (se_fld (cs := [0]) 3 rfl GG_nd rfl T.f3 (se_var 0)))))
theorem ok_22 (T : Txt K w mg ga Tb fa fd da_SIZES) (hc : ∀ j, FnOk P w K mg base (L2.CX P w) (4 * m) (fa j) (fd j) (psn j) (spM (GG K ga Tb) (c j))) : FnOk P w K mg base (L2.CX P w) (4 * m + 4) (fa 22) (fd 22) (psn 22) (spM (GG K ga Tb) (mBody 1 1 (b_22 c))) :=
  fn_ok T.u22 sc_22 fun cdv A outer s H E hr =>
  (sss_one (ss_ret (se_fld (cs := [0]) 4 rfl GG_nd rfl T.f4 (se_var 0))))
theorem ok_23 (T : Txt K w mg ga Tb fa fd da_SIZES) (hc : ∀ j, FnOk P w K mg base (L2.CX P w) (4 * m) (fa j) (fd j) (psn j) (spM (GG K ga Tb) (c j))) : FnOk P w K mg base (L2.CX P w) (4 * m + 4) (fa 23) (fd 23) (psn 23) (spM (GG K ga Tb) (mBody 2 2 (b_23 c))) :=
  fn_ok T.u23 sc_23 fun cdv A outer s H E hr =>
  (sss_one (ss_ret (se_and rfl (se_isi (ks := [7]) T.kn rfl (cls_own rfl T.g_Term) (.own _) T.kt_Term (se_var 1) rfl T.z_isinstance) (se_one (e_eq rfl hr (se_fld (cs := [0]) 0 rfl GG_nd rfl T.f0 (se_var 0)) (se_fld (cs := [0]) 0 rfl GG_nd rfl T.f0 (se_var 1)))))))
theorem ok_27 (T : Txt K w mg ga Tb fa fd da_SIZES) (hc : ∀ j, FnOk P w K mg base (L2.CX P w) (4 * m) (fa j) (fd j) (psn j) (spM (GG K ga Tb) (c j))) : FnOk P w K mg base (L2.CX P w) (4 * m + 4) (fa 27) (fd 27) (psn 27) (spM (GG K ga Tb) (mBody 2 5 (b_27 c))) :=
  fn_ok T.u27 sc_27 fun cdv A outer s H E hr =>
  (sss_cons (ss_set 2 sc_27.nd se_int)
  (sss_cons (ss_if (t_lt (se_var 1) (e_len rfl T.z_len (se_var 0))) (sss_one (ss_set 2 sc_27.nd (e_ix rfl (se_var 0) (se_var 1)))) sss_nil)
  (sss_cons (ss_set 3 sc_27.nd (e_max rfl rfl T.z_max (sa_cons (e_int T.z_int (se_var 2)) (sa_cons (e_int T.z_int (e_sub (e_neg se_int) (se_var 2))) sa_nil))))
  (sss_cons (ss_set 4 sc_27.nd (e_md (e_int T.z_int (e_mul (e_add rfl (e_add rfl (e_add rfl (e_md (e_int T.z_int (se_var 3)) se_int) (e_mul (e_mul se_int (se_var 1)) (se_var 1))) (e_mul se_int (se_var 1))) se_int) se_int)) se_int))
  (sss_one (ss_ret (se_lst (sa_cons (e_mul (se_var 3) (e_int T.z_int (e_ge (se_var 3) (e_pw se_int se_int)))) (sa_cons (se_var 4) sa_nil)))))))))
theorem ok_28 (T : Txt K w mg ga Tb fa fd da_SIZES) (hc : ∀ j, FnOk P w K mg base (L2.CX P w) (4 * m) (fa j) (fd j) (psn j) (spM (GG K ga Tb) (c j))) : FnOk P w K mg base (L2.CX P w) (4 * m + 4) (fa 28) (fd 28) (psn 28) (spM (GG K ga Tb) (mBody 2 3 (b_28 c))) :=
  fn_ok T.u28 sc_28 fun cdv A outer s H E hr =>
  (sss_cons (ss_if (t_gt (e_ix rfl (se_var 0) se_int) se_int) (sss_cons (ss_set 2 sc_28.nd (e_md (e_int T.z_int (e_ix rfl (se_var 0) se_int)) (se_var 1)))
  (sss_cons (ss_sub (e_fd (e_ix rfl (se_var 0) se_int) (se_var 1)) (se_var 0) se_int)
  (sss_one (ss_ret (se_var 2))))) sss_nil)
  (sss_cons (ss_sub (e_md (e_int T.z_int (e_add rfl (e_mul (e_ix rfl (se_var 0) se_int) se_int) se_int)) se_int) (se_var 0) se_int)
  (sss_one (ss_ret (e_md (e_int T.z_int (e_fd (e_md (e_int T.z_int (e_mul (e_ix rfl (se_var 0) se_int) (e_ix rfl (se_var 0) se_int))) se_int) se_int)) (se_var 1))))))
theorem ok_29 (T : Txt K w mg ga Tb fa fd da_SIZES) (hc : ∀ j, FnOk P w K mg base (L2.CX P w) (4 * m) (fa j) (fd j) (psn j) (spM (GG K ga Tb) (c j))) : FnOk P w K mg base (L2.CX P w) (4 * m + 4) (fa 29) (fd 29) (psn 29) (spM (GG K ga Tb) (mBody 2 2 (b_29 c))) :=
  fn_ok T.u29 sc_29 fun cdv A outer s H E hr =>
  (sss_one (ss_ret (e_ix rfl (se_var 1) (se_call ((hc 28).mono (by omega)) hr (takes_of rfl rfl rfl rfl) T.m28 T.u28.kp T.b28 (sa_cons (se_var 0) (sa_cons (e_len rfl T.z_len (se_var 1)) sa_nil))))))
theorem ok_30 (T : Txt K w mg ga Tb fa fd da_SIZES) (hc : ∀ j, FnOk P w K mg base (L2.CX P w) (4 * m) (fa j) (fd j) (psn j) (spM (GG K ga Tb) (c j))) : FnOk P w K mg base (L2.CX P w) (4 * m + 4) (fa 30) (fd 30) (psn 30) (spM (GG K ga Tb) (mBody 1 2 (b_30 c))) :=
  fn_ok T.u30 sc_30 fun cdv A outer s H E hr =>
  (sss_cons (ss_set 1 sc_30.nd (se_lst (sa_cons (se_lst (sa_cons (se_str [120]) (sa_cons (se_str [121]) sa_nil))) (sa_cons (se_lst (sa_cons (se_str [120]) (sa_cons (se_str [121]) (sa_cons (se_str [122]) (sa_cons (se_str [97]) sa_nil))))) (sa_cons (se_lst (sa_cons (se_str [97]) (sa_cons (se_str [98]) (sa_cons (se_str [99]) (sa_cons (se_str [100]) (sa_cons (se_str [101]) (sa_cons (se_str [102]) sa_nil))))))) (sa_cons (se_lst (sa_cons (se_str [120]) (sa_cons (se_str [97, 98, 99, 100, 101, 102, 103, 104]) (sa_cons (se_str [97, 97]) (sa_cons (se_str [98]) (sa_cons (se_str [122, 122]) sa_nil)))))) sa_nil))))))
  (sss_one (ss_ret (se_call ((hc 29).mono (by omega)) hr (takes_of rfl rfl rfl rfl) T.m29 T.u29.kp T.b29 (sa_cons (se_var 0) (sa_cons (se_var 1) sa_nil))))))
theorem ok_31 (T : Txt K w mg ga Tb fa fd da_SIZES) (hc : ∀ j, FnOk P w K mg base (L2.CX P w) (4 * m) (fa j) (fd j) (psn j) (spM (GG K ga Tb) (c j))) : FnOk P w K mg base (L2.CX P w) (4 * m + 4) (fa 31) (fd 31) (psn 31) (spM (GG K ga Tb) (mBody 2 2 (b_31 c))) :=
  fn_ok T.u31 sc_31 fun cdv A outer s H E hr =>
  (sss_one (ss_ret (se_tup (sa_cons (se_str [117, 115, 101]) (sa_cons (se_call ((hc 29).mono (by omega)) hr (takes_of rfl rfl rfl rfl) T.m29 T.u29.kp T.b29 (sa_cons (se_var 0) (sa_cons (se_var 1) sa_nil))) sa_nil)))))
theorem ok_32 (T : Txt K w mg ga Tb fa fd da_SIZES) (hc : ∀ j, FnOk P w K mg base (L2.CX P w) (4 * m) (fa j) (fd j) (psn j) (spM (GG K ga Tb) (c j))) : FnOk P w K mg base (L2.CX P w) (4 * m + 4) (fa 32) (fd 32) (psn 32) (spM (GG K ga Tb) (mBody 3 7 (b_32 c))) :=
  fn_ok T.u32 sc_32 fun cdv A outer s H E hr =>
  (sss_cons (ss_if (SW.st (sw_or (t_lt (e_ix rfl (se_var 2) se_int) se_int) (sw_or1 (t_eq rfl hr (se_call ((hc 28).mono (by omega)) hr (takes_of rfl rfl rfl rfl) T.m28 T.u28.kp T.b28 (sa_cons (se_var 0) (sa_cons se_int sa_nil))) se_int)))) (sss_one (ss_ret (se_lst (sa_cons (se_call ((hc 31).mono (by omega)) hr (takes_of rfl rfl rfl rfl) T.m31 T.u31.kp T.b31 (sa_cons (se_var 0) (sa_cons (se_var 1) sa_nil))) (sa_cons (se_lst (sa_cons (e_sub (e_ix rfl (se_var 2) se_int) se_int) (sa_cons (e_ix rfl (se_var 2) se_int) sa_nil))) sa_nil))))) sss_nil)
  (sss_cons (ss_if (SW.st (sw_and (t_gt (e_ix rfl (se_var 2) se_int) se_int) (sw_and1 (t_gt (se_call ((hc 28).mono (by omega)) hr (takes_of rfl rfl rfl rfl) T.m28 T.u28.kp T.b28 (sa_cons (se_var 0) (sa_cons se_int sa_nil))) se_int)))) (sss_one (ss_ret (se_call ((hc 33).mono (by omega)) hr (takes_of rfl rfl rfl rfl) T.m33 T.u33.kp T.b33 (sa_cons (se_var 0) (sa_cons (se_var 1) (sa_cons (se_var 2) sa_nil)))))) sss_nil)
  (sss_cons (ss_par 3 4 rfl sc_32.nd (sa_cons (se_lst sa_nil) (sa_cons (se_lst (sa_cons (e_sub (e_ix rfl (se_var 2) se_int) se_int) (sa_cons (e_ix rfl (se_var 2) se_int) sa_nil))) sa_nil)))
  (sss_cons (ss_for rfl (passes_of rfl) (si_range1 T.z_range (sa_cons (se_call ((hc 29).mono (by omega)) hr (takes_of rfl rfl rfl rfl) T.m29 T.u29.kp T.b29 (sa_cons (se_var 0) (sa_cons (se_lst (sa_cons se_int (sa_cons se_int (sa_cons se_int (sa_cons se_int (sa_cons se_int sa_nil)))))) sa_nil))) sa_nil)) (sg_name 5 sc_32.nd) (sss_one (ss_if (t_gt (e_ix rfl (se_var 4) se_int) se_int) (sss_cons (ss_asg (se_call ((hc 32).mono (by omega)) hr (takes_of rfl rfl rfl rfl) T.m32 T.u32.kp T.b32 (sa_cons (se_var 0) (sa_cons (se_var 1) (sa_cons (se_var 4) sa_nil)))) (sg_tup rfl rfl (sgs_cons (sg_name 6 sc_32.nd) (sgs_cons (sg_name 4 sc_32.nd) sgs_nil))))
  (sss_one (ss_expr (e_append rfl (se_var 3) (se_var 6))))) sss_nil)))
  (sss_one (ss_ret (se_lst (sa_cons (se_tup (sa_cons (se_str [106, 111, 105, 110]) (sa_cons (se_call ((hc 29).mono (by omega)) hr (takes_of rfl rfl rfl rfl) T.m29 T.u29.kp T.b29 (sa_cons (se_var 0) (sa_cons (se_lst (sa_cons (se_str [102]) (sa_cons (se_str [120]) (sa_cons (se_str [106, 111, 105, 110]) sa_nil)))) sa_nil))) (sa_cons (e_tuple rfl T.z_tuple (se_var 3)) sa_nil)))) (sa_cons (se_var 4) sa_nil)))))))))
theorem ok_33 (T : Txt K w mg ga Tb fa fd da_SIZES) (hc : ∀ j, FnOk P w K mg base (L2.CX P w) (4 * m) (fa j) (fd j) (psn j) (spM (GG K ga Tb) (c j))) : FnOk P w K mg base (L2.CX P w) (4 * m + 4) (fa 33) (fd 33) (psn 33) (spM (GG K ga Tb) (mBody 3 7 (b_33 c))) :=
  fn_ok T.u33 sc_33 fun cdv A outer s H E hr =>
  (sss_cons (ss_par 3 4 rfl sc_33.nd (sa_cons (se_lst sa_nil) (sa_cons (se_lst (sa_cons (e_sub (e_ix rfl (se_var 2) se_int) se_int) (sa_cons (e_sub (e_ix rfl (se_var 2) se_int) se_int) sa_nil))) sa_nil)))
  (sss_cons (ss_for rfl (passes_of rfl) (si_range1 T.z_range (sa_cons (se_call ((hc 29).mono (by omega)) hr (takes_of rfl rfl rfl rfl) T.m29 T.u29.kp T.b29 (sa_cons (se_var 0) (sa_cons (se_lst (sa_cons se_int (sa_cons se_int (sa_cons se_int (sa_cons se_int (sa_cons se_int (sa_cons se_int sa_nil))))))) sa_nil))) sa_nil)) (sg_name 5 sc_33.nd) (sss_one (ss_if (t_gt (e_ix rfl (se_var 4) se_int) se_int) (sss_cons (ss_asg (se_call ((hc 32).mono (by omega)) hr (takes_of rfl rfl rfl rfl) T.m32 T.u32.kp T.b32 (sa_cons (se_var 0) (sa_cons (se_var 1) (sa_cons (se_var 4) sa_nil)))) (sg_tup rfl rfl (sgs_cons (sg_name 6 sc_33.nd) (sgs_cons (sg_name 4 sc_33.nd) sgs_nil))))
  (sss_one (ss_expr (e_append rfl (se_var 3) (se_var 6))))) sss_nil)))
  (sss_cons (ss_if (t_lt (e_ix rfl (se_var 4) se_int) se_int) (sss_one (ss_ret (se_lst (sa_cons (se_tup (sa_cons (se_str [98, 105, 110, 100]) (sa_cons (se_call ((hc 29).mono (by omega)) hr (takes_of rfl rfl rfl rfl) T.m29 T.u29.kp T.b29 (sa_cons (se_var 0) (sa_cons (se_var 1) sa_nil))) (sa_cons (se_tup sa_nil) (sa_cons (e_ix rfl (se_var 3) se_int) sa_nil))))) (sa_cons (se_var 4) sa_nil))))) sss_nil)
  (sss_cons (ss_asg (se_call ((hc 32).mono (by omega)) hr (takes_of rfl rfl rfl rfl) T.m32 T.u32.kp T.b32 (sa_cons (se_var 0) (sa_cons (se_var 1) (sa_cons (se_var 4) sa_nil)))) (sg_tup rfl rfl (sgs_cons (sg_name 6 sc_33.nd) (sgs_cons (sg_name 4 sc_33.nd) sgs_nil))))
  (sss_one (ss_ret (se_lst (sa_cons (se_tup (sa_cons (se_str [98, 105, 110, 100]) (sa_cons (se_call ((hc 29).mono (by omega)) hr (takes_of rfl rfl rfl rfl) T.m29 T.u29.kp T.b29 (sa_cons (se_var 0) (sa_cons (se_var 1) sa_nil))) (sa_cons (e_tuple rfl T.z_tuple (se_var 3)) (sa_cons (se_var 6) sa_nil))))) (sa_cons (se_var 4) sa_nil)))))))))
theorem ok_34 (T : Txt K w mg ga Tb fa fd da_SIZES) (hc : ∀ j, FnOk P w K mg base (L2.CX P w) (4 * m) (fa j) (fd j) (psn j) (spM (GG K ga Tb) (c j))) : FnOk P w K mg base (L2.CX P w) (4 * m + 4) (fa 34) (fd 34) (psn 34) (spM (GG K ga Tb) (mBody 3 9 (b_34 c))) :=
  fn_ok T.u34 sc_34 fun cdv A outer s H E hr =>
  (sss_cons (ss_set 3 sc_34.nd (se_tup (sa_cons (se_str [106, 111, 105, 110]) (sa_cons (se_str [102]) (sa_cons (e_tuple rfl T.z_tuple (se_comp [("_law_turn", 4)] rfl sc_34.nd (si_range1 T.z_range (sa_cons (e_add rfl se_int (se_call ((hc 28).mono (by omega)) hr (takes_of rfl rfl rfl rfl) T.m28 T.u28.kp T.b28 (sa_cons (se_var 0) (sa_cons se_int sa_nil)))) sa_nil)) (bk_34 (by decide +kernel)) (fun s H C cl fp => (sg_name 4 sc_34.nd)) (fun s H C cl fp => sts_nil) (fun s H C cl fp => (se_call ((hc 31).mono (by omega)) hr takes0 T.m31 T.u31.kp T.b31 (sa_cons (se_var 0) (sa_cons (se_var 1) sa_nil)))))) sa_nil)))))
  (sss_cons (ss_for rfl (passes_of rfl) (si_range1 T.z_range (sa_cons (se_var 2) sa_nil)) (sg_name 4 sc_34.nd) (sss_cons (ss_setComp 5 [("_law_one_here", 6)] rfl sc_34.nd (si_range1 T.z_range (sa_cons (se_call ((hc 28).mono (by omega)) hr (takes_of rfl rfl rfl rfl) T.m28 T.u28.kp T.b28 (sa_cons (se_var 0) (sa_cons se_int sa_nil))) sa_nil)) (bk_34 (by decide +kernel)) (fun s H C cl fp => (sg_name 6 sc_34.nd)) (fun s H C cl fp => sts_nil) (fun s H C cl fp => (se_call ((hc 31).mono (by omega)) hr takes0 T.m31 T.u31.kp T.b31 (sa_cons (se_var 0) (sa_cons (se_var 1) sa_nil)))))
  (sss_cons (ss_set 7 sc_34.nd (se_if (t_eq rfl hr (se_var 5) (se_lst sa_nil)) (se_var 3) (se_tup (sa_cons (se_str [106, 111, 105, 110]) (sa_cons (se_str [103]) (sa_cons (e_tuple rfl T.z_tuple (e_add rfl (se_var 5) (se_lst (sa_cons (se_var 3) sa_nil)))) sa_nil))))))
  (sss_cons (ss_set 8 sc_34.nd (se_if (t_eq rfl hr (se_call ((hc 28).mono (by omega)) hr (takes_of rfl rfl rfl rfl) T.m28 T.u28.kp T.b28 (sa_cons (se_var 0) (sa_cons se_int sa_nil))) se_int) (se_lst (sa_cons (se_call ((hc 31).mono (by omega)) hr (takes_of rfl rfl rfl rfl) T.m31 T.u31.kp T.b31 (sa_cons (se_var 0) (sa_cons (se_var 1) sa_nil))) sa_nil)) (se_lst sa_nil)))
  (sss_one (ss_set 3 sc_34.nd (se_tup (sa_cons (se_str [98, 105, 110, 100]) (sa_cons (se_call ((hc 29).mono (by omega)) hr (takes_of rfl rfl rfl rfl) T.m29 T.u29.kp T.b29 (sa_cons (se_var 0) (sa_cons (se_var 1) sa_nil))) (sa_cons (e_tuple rfl T.z_tuple (se_var 8)) (sa_cons (se_var 7) sa_nil)))))))))))
  (sss_one (ss_ret (se_var 3)))))
theorem ok_35 (T : Txt K w mg ga Tb fa fd da_SIZES) (hc : ∀ j, FnOk P w K mg base (L2.CX P w) (4 * m) (fa j) (fd j) (psn j) (spM (GG K ga Tb) (c j))) : FnOk P w K mg base (L2.CX P w) (4 * m + 4) (fa 35) (fd 35) (psn 35) (spM (GG K ga Tb) (mBody 3 8 (b_35 c))) :=
  fn_ok T.u35 sc_35 fun cdv A outer s H E hr =>
  (sss_cons (ss_par 3 4 rfl sc_35.nd (sa_cons (se_call ((hc 30).mono (by omega)) hr (takes_of rfl rfl rfl rfl) T.m30 T.u30.kp T.b30 (sa_cons (se_var 0) sa_nil)) (sa_cons (se_call ((hc 28).mono (by omega)) hr (takes_of rfl rfl rfl rfl) T.m28 T.u28.kp T.b28 (sa_cons (se_var 0) (sa_cons se_int sa_nil))) sa_nil)))
  (sss_cons (ss_if (t_eq rfl hr (se_var 4) se_int) (sss_one (ss_ret (se_call ((hc 34).mono (by omega)) hr (takes_of rfl rfl rfl rfl) T.m34 T.u34.kp T.b34 (sa_cons (se_var 0) (sa_cons (se_var 3) (sa_cons (se_call ((hc 28).mono (by omega)) hr (takes_of rfl rfl rfl rfl) T.m28 T.u28.kp T.b28 (sa_cons (se_var 0) (sa_cons (e_add rfl (e_min rfl rfl T.z_min (sa_cons (se_var 2) (sa_cons (e_fd (se_var 1) se_int) sa_nil))) se_int) sa_nil))) sa_nil)))))) sss_nil)
  (sss_cons (ss_if (t_eq rfl hr (se_var 4) se_int) (sss_cons (ss_set 5 sc_35.nd (se_lst (sa_cons (e_fd (se_var 1) se_int) (sa_cons (e_fd (se_var 2) se_int) sa_nil))))
  (sss_cons (ss_par 6 7 rfl sc_35.nd (sa_cons (e_ix rfl (se_call ((hc 32).mono (by omega)) hr (takes_of rfl rfl rfl rfl) T.m32 T.u32.kp T.b32 (sa_cons (se_var 0) (sa_cons (se_var 3) (sa_cons (se_var 5) sa_nil)))) se_int) (sa_cons (e_ix rfl (se_call ((hc 32).mono (by omega)) hr (takes_of rfl rfl rfl rfl) T.m32 T.u32.kp T.b32 (sa_cons (se_var 0) (sa_cons (se_var 3) (sa_cons (se_var 5) sa_nil)))) se_int) sa_nil)))
  (sss_one (ss_ret (se_tup (sa_cons (se_str [106, 111, 105, 110]) (sa_cons (se_str [102]) (sa_cons (se_tup (sa_cons (se_var 6) (sa_cons (se_var 7) sa_nil))) sa_nil)))))))) sss_nil)
  (sss_one (ss_ret (e_ix rfl (se_call ((hc 32).mono (by omega)) hr (takes_of rfl rfl rfl rfl) T.m32 T.u32.kp T.b32 (sa_cons (se_var 0) (sa_cons (se_var 3) (sa_cons (se_lst (sa_cons (se_var 1) (sa_cons (se_var 2) sa_nil))) sa_nil)))) se_int))))))
theorem ok_36 (T : Txt K w mg ga Tb fa fd da_SIZES) (hc : ∀ j, FnOk P w K mg base (L2.CX P w) (4 * m) (fa j) (fd j) (psn j) (spM (GG K ga Tb) (c j))) : FnOk P w K mg base (L2.CX P w) (4 * m + 4) (fa 36) (fd 36) (psn 36) (spM (GG K ga Tb) (mBody 1 1 (b_36 c))) :=
  fn_ok T.u36 sc_36 fun cdv A outer s H E hr =>
  (sss_cons (ss_if (t_eq rfl hr (e_ix rfl (se_var 0) se_int) (se_str [117, 115, 101])) (sss_one (ss_ret (se_lst sa_nil))) sss_nil)
  (sss_one (ss_ret (se_if (t_eq rfl hr (e_ix rfl (se_var 0) se_int) (se_str [106, 111, 105, 110])) (e_list rfl T.z_list (e_ix rfl (se_var 0) se_int)) (e_add rfl (e_list rfl T.z_list (e_ix rfl (se_var 0) se_int)) (se_lst (sa_cons (e_ix rfl (se_var 0) se_int) sa_nil)))))))
theorem ok_37 (T : Txt K w mg ga Tb fa fd da_SIZES) (hc : ∀ j, FnOk P w K mg base (L2.CX P w) (4 * m) (fa j) (fd j) (psn j) (spM (GG K ga Tb) (c j))) : FnOk P w K mg base (L2.CX P w) (4 * m + 4) (fa 37) (fd 37) (psn 37) (spM (GG K ga Tb) (mBody 1 3 (b_37 c))) :=
  fn_ok T.u37 sc_37 fun cdv A outer s H E hr =>
  (sss_cons (ss_set 1 sc_37.nd (se_lst (sa_cons (se_var 0) sa_nil)))
  (sss_cons (ss_for rfl (passes_of rfl) (si_seq rfl (se_call ((hc 36).mono (by omega)) hr (takes_of rfl rfl rfl rfl) T.m36 T.u36.kp T.b36 (sa_cons (se_var 0) sa_nil))) (sg_name 2 sc_37.nd) (sss_one (ss_set 1 sc_37.nd (e_add rfl (se_var 1) (se_call ((hc 37).mono (by omega)) hr (takes_of rfl rfl rfl rfl) T.m37 T.u37.kp T.b37 (sa_cons (se_var 2) sa_nil))))))
  (sss_one (ss_ret (se_var 1)))))
theorem ok_39 (T : Txt K w mg ga Tb fa fd da_SIZES) (hc : ∀ j, FnOk P w K mg base (L2.CX P w) (4 * m) (fa j) (fd j) (psn j) (spM (GG K ga Tb) (c j))) : FnOk P w K mg base (L2.CX P w) (4 * m + 4) (fa 39) (fd 39) (psn 39) (spM (GG K ga Tb) (mBody 1 2 (b_39 c))) :=
  fn_ok T.u39 sc_39 fun cdv A outer s H E hr =>
  (sss_one (ss_ret (e_add rfl se_int (e_max rfl rfl T.z_max (sa_cons (e_add rfl (se_lst (sa_cons se_int sa_nil)) (se_comp [("_law_one_here", 1)] rfl sc_39.nd (si_seq rfl (se_call ((hc 36).mono (by omega)) hr (takes_of rfl rfl rfl rfl) T.m36 T.u36.kp T.b36 (sa_cons (se_var 0) sa_nil))) (bk_39 (by decide +kernel)) (fun s H C cl fp => (sg_name 1 sc_39.nd)) (fun s H C cl fp => sts_nil) (fun s H C cl fp => (e_int T.z_int (se_call ((hc 39).mono (by omega)) hr takes0 T.m39 T.u39.kp T.b39 (sa_cons (se_var 1) sa_nil)))))) sa_nil)))))
theorem ok_40 (T : Txt K w mg ga Tb fa fd da_SIZES) (hc : ∀ j, FnOk P w K mg base (L2.CX P w) (4 * m) (fa j) (fd j) (psn j) (spM (GG K ga Tb) (c j))) : FnOk P w K mg base (L2.CX P w) (4 * m + 4) (fa 40) (fd 40) (psn 40) (spM (GG K ga Tb) (mBody 2 7 (b_40 c))) :=
  fn_ok T.u40 sc_40 fun cdv A outer s H E hr =>
  (sss_cons (ss_set 2 sc_40.nd (se_call ((hc 37).mono (by omega)) hr (takes_of rfl rfl rfl rfl) T.m37 T.u37.kp T.b37 (sa_cons (se_var 0) sa_nil)))
  (sss_cons (ss_if (SW.st (sw_or (t_ne rfl hr (se_own0 (c := 0) rfl T.e14 (GG_no (by decide +kernel)) ((hc 14).mono (by omega)) hr (takes_of rfl rfl rfl rfl) T.b14 (se_var 1)) (se_var 0)) (sw_or1 (t_ne rfl hr (se_callB (call_lenOwn (c := 0) rfl T.d0_len ((hc 15).mono (by omega)) hr T.b15) primC_lenO T.z_len (by decide +kernel) (sa_cons (se_var 1) sa_nil)) (e_len rfl T.z_len (se_var 2)))))) (sss_one (ss_ret se_bl)) sss_nil)
  (sss_cons (ss_if (t_ne rfl hr (se_own0 (c := 0) rfl T.e19 (GG_no (by decide +kernel)) ((hc 19).mono (by omega)) hr (takes_of rfl rfl rfl rfl) T.b19 (se_var 1)) (se_var 2)) (sss_one (ss_ret se_bl)) sss_nil)
  (sss_cons (ss_setComp 3 [("_law_spot", 4), ("_law_one_here", 5)] rfl sc_40.nd (si_enum rfl T.z_enumerate (sa_cons (se_var 2) sa_nil)) (bk_40 (by decide +kernel)) (fun s H C cl fp => (sg_tup rfl rfl (sgs_cons (sg_name 4 sc_40.nd) (sgs_cons (sg_name 5 sc_40.nd) sgs_nil)))) (fun s H C cl fp => (sts_one (t_eq rfl hr (e_ix rfl (se_var 5) se_int) (se_str [98, 105, 110, 100])))) (fun s H C cl fp => (se_var 4)))
  (sss_cons (ss_setComp 6 [("_law_spot", 4), ("_law_one_here", 5)] rfl sc_40.nd (si_enum rfl T.z_enumerate (sa_cons (se_var 2) sa_nil)) (bk_40 (by decide +kernel)) (fun s H C cl fp => (sg_tup rfl rfl (sgs_cons (sg_name 4 sc_40.nd) (sgs_cons (sg_name 5 sc_40.nd) sgs_nil)))) (fun s H C cl fp => (sts_one (t_eq rfl hr (e_ix rfl (se_var 5) se_int) (se_str [117, 115, 101])))) (fun s H C cl fp => (se_var 4)))
  (sss_cons (ss_if (SW.st (sw_or (t_ne rfl hr (se_own0 (c := 0) rfl T.e20 (GG_no (by decide +kernel)) ((hc 20).mono (by omega)) hr (takes_of rfl rfl rfl rfl) T.b20 (se_var 1)) (se_var 3)) (sw_or1 (t_ne rfl hr (se_own0 (c := 0) rfl T.e21 (GG_no (by decide +kernel)) ((hc 21).mono (by omega)) hr (takes_of rfl rfl rfl rfl) T.b21 (se_var 1)) (se_var 6))))) (sss_one (ss_ret se_bl)) sss_nil)
  (sss_cons (ss_if (t_ne rfl hr (se_own0 (c := 0) rfl T.e22 (GG_no (by decide +kernel)) ((hc 22).mono (by omega)) hr (takes_of rfl rfl rfl rfl) T.b22 (se_var 1)) (se_call ((hc 39).mono (by omega)) hr (takes_of rfl rfl rfl rfl) T.m39 T.u39.kp T.b39 (sa_cons (se_var 0) sa_nil))) (sss_one (ss_ret se_bl)) sss_nil)
  (sss_one (ss_ret (se_and rfl (e_eq rfl hr (se_comp [("_law_spot", 4)] rfl sc_40.nd (si_range1 T.z_range (sa_cons (e_len rfl T.z_len (se_var 2)) sa_nil)) (bk_40 (by decide +kernel)) (fun s H C cl fp => (sg_name 4 sc_40.nd)) (fun s H C cl fp => sts_nil) (fun s H C cl fp => (se_getO (c := 0) rfl T.d0_getitem T.d0_getfn ((hc 16).mono (by omega)) hr takes0 T.b16 (se_var 1) (se_var 4)))) (se_var 2)) (se_one (e_eq rfl hr (se_comp [("_law_one_here", 5)] rfl sc_40.nd (si_seq rfl (se_var 2)) (bk_40 (by decide +kernel)) (fun s H C cl fp => (sg_name 5 sc_40.nd)) (fun s H C cl fp => (sts_one (st_cmp (op_notInOwn (c := 0) rfl T.d0_contains ((hc 17).mono (by omega)) hr T.b17) prim_inO (se_var 5) (se_var 1) rfl))) (fun s H C cl fp => (se_var 5))) (se_lst sa_nil)))))))))))))
def lamq : Str := (envOfC "law" (defScope st_41) 0 0 .none).qual ++ "<lambda>"
theorem lm_41 {scope : Scope} (h : LamX.lamSB (defScope st_41) scope = true) : LamX.LamS (defScope st_41) scope := LamX.lamS_by h
theorem ok_41 (T : Txt K w mg ga Tb fa fd da_SIZES) (hc : ∀ j, FnOk P w K mg base (L2.CX P w) (4 * m) (fa j) (fd j) (psn j) (spM (GG K ga Tb) (c j))) {cc Pt : Addr} (hTb : Tb = [(Pt, lamq)]) (hlc : (fd 41).code = .ref cc) (TB : LamX.TabB base mg cc Pt) : FnG P w K mg base (L2.CX P w) (4 * m + 4) (fa 41) (fd 41) (psn 41) (spM (GG K ga Tb) (mBody 1 10 (b_41 c))) :=
  fn_okC T.u41 sc_41 fun cdv A outer s H E hcd hgd hr =>
  have hcode : cdv = .ref cc := hcd.symm.trans hlc
  (sss_cons (ss_for rfl (passes_of rfl) (si_range1 T.z_range (sa_cons (e_max rfl rfl T.z_max (sa_cons se_int (sa_cons (e_min rfl rfl T.z_min (sa_cons se_int (sa_cons (e_len rfl T.z_len (se_var 0)) sa_nil))) sa_nil))) sa_nil)) (sg_name 1 sc_41.nd) (sss_cons (ss_set 2 sc_41.nd (se_call ((hc 27).mono (by omega)) hr (takes_of rfl rfl rfl rfl) T.m27 T.u27.kp T.b27 (sa_cons (se_var 0) (sa_cons (se_var 1) sa_nil))))
  (sss_cons (ss_set 3 sc_41.nd (se_call ((hc 35).mono (by omega)) hr (takes_of rfl rfl rfl rfl) T.m35 T.u35.kp T.b35 (sa_cons (se_var 2) (sa_cons se_int (sa_cons se_int sa_nil)))))
  (sss_cons (ss_set 4 sc_41.nd (se_make (c := 0) T.mk0 rfl ((hc 13).mono (by omega)) hr (takes_of rfl rfl rfl rfl) T.g_Term T.b13 (sa_cons (se_var 3) sa_nil)))
  (sss_cons (ss_for rfl (passes_of rfl) (si_range1 T.z_range (sa_cons se_int sa_nil)) (sg_name 5 sc_41.nd) (sss_cons (ss_if (SW.st (sw_or (st_not (st_val rfl (se_call ((hc 40).mono (by omega)) hr (takes_of rfl rfl rfl rfl) T.m40 T.u40.kp T.b40 (sa_cons (se_var 3) (sa_cons (se_var 4) sa_nil))))) (sw_or1 (t_isnt (se_call ((hc 6).mono (by omega)) hr (takes_of rfl rfl rfl rfl) T.m6 T.u6.kp T.b6 (sa_cons (se_var 3) sa_nil)) se_bl)))) (sss_one (ss_ret se_bl)) sss_nil)
  (sss_one (ss_for rfl (passes_of rfl) (si_seq rfl (se_lst (sa_cons (se_own0 (c := 0) rfl T.e19 (GG_no (by decide +kernel)) ((hc 19).mono (by omega)) hr (takes_of rfl rfl rfl rfl) T.b19 (se_var 4)) (sa_cons (se_own0 (c := 0) rfl T.e20 (GG_no (by decide +kernel)) ((hc 20).mono (by omega)) hr (takes_of rfl rfl rfl rfl) T.b20 (se_var 4)) (sa_cons (se_own0 (c := 0) rfl T.e21 (GG_no (by decide +kernel)) ((hc 21).mono (by omega)) hr (takes_of rfl rfl rfl rfl) T.b21 (se_var 4)) sa_nil))))) (sg_name 6 sc_41.nd) (sss_one (ss_expr (e_append rfl (se_var 6) se_non)))))))
  (sss_cons (ss_for rfl (passes_of rfl) (si_seq rfl (se_call ((hc 37).mono (by omega)) hr (takes_of rfl rfl rfl rfl) T.m37 T.u37.kp T.b37 (sa_cons (se_var 3) sa_nil))) (sg_name 7 sc_41.nd) (sss_one (ss_if (SW.st (sw_or (t_ne rfl hr (se_cmp (op_eqOwn (c := 0) (nc := 1) rfl T.d0_eq (T.nf0) ((hc 23).mono (by omega)) hr T.b23) (prim_eqO T.kn) (se_make (c := 0) T.mk0 rfl ((hc 13).mono (by omega)) hr (takes_of rfl rfl rfl rfl) T.g_Term T.b13 (sa_cons (se_var 7) sa_nil)) (se_var 4) (nomark _)) (e_eq rfl hr (se_var 7) (se_var 3))) (sw_or1 (st_cmp (op_eqOwn (c := 0) (nc := 1) rfl T.d0_eq (T.nf0) ((hc 23).mono (by omega)) hr T.b23) (prim_eqO T.kn) (se_make (c := 0) T.mk0 rfl ((hc 13).mono (by omega)) hr (takes_of rfl rfl rfl rfl) T.g_Term T.b13 (sa_cons (se_var 7) sa_nil)) (se_var 7) (nomark _))))) (sss_one (ss_ret se_bl)) sss_nil)))
  (sss_cons (ss_set 8 sc_41.nd (se_call ((hc 35).mono (by omega)) hr (takes_of rfl rfl rfl rfl) T.m35 T.u35.kp T.b35 (sa_cons (se_var 2) (sa_cons se_int (sa_cons se_int sa_nil)))))
  (sss_cons (ss_if (t_ne rfl hr (se_cmp (op_inOwn (c := 0) rfl T.d0_contains ((hc 17).mono (by omega)) hr T.b17) prim_inO (se_var 8) (se_var 4) rfl) (e_in rfl hr (se_var 8) (se_call ((hc 37).mono (by omega)) hr (takes_of rfl rfl rfl rfl) T.m37 T.u37.kp T.b37 (sa_cons (se_var 3) sa_nil)))) (sss_one (ss_ret se_bl)) sss_nil)
  (sss_cons (ss_if (t_ne rfl hr (se_cmp (op_eqOwn (c := 0) (nc := 1) rfl T.d0_eq (T.nf0) ((hc 23).mono (by omega)) hr T.b23) (prim_eqO T.kn) (se_make (c := 0) T.mk0 rfl ((hc 13).mono (by omega)) hr (takes_of rfl rfl rfl rfl) T.g_Term T.b13 (sa_cons (se_var 8) sa_nil)) (se_var 4) (nomark _)) (e_eq rfl hr (se_var 8) (se_var 3))) (sss_one (ss_ret se_bl)) sss_nil)
  (sss_cons (ss_for rfl (passes_of rfl) (si_seq rfl (se_lst (sa_cons se_non (sa_cons (se_str [120]) (sa_cons se_int (sa_cons (se_tup (sa_cons (se_str [117, 115, 101]) (sa_cons (se_str [113]) sa_nil))) (sa_cons (se_lst (sa_cons (se_var 3) sa_nil)) (sa_cons (se_tup (sa_cons (se_str [117, 115, 101]) (sa_cons se_int sa_nil))) (sa_cons se_dict0 (sa_cons (se_var 4) sa_nil)))))))))) (sg_name 9 sc_41.nd) (sss_one (ss_if (st_cmp (op_inOwn (c := 0) rfl T.d0_contains ((hc 17).mono (by omega)) hr T.b17) prim_inO (se_var 9) (se_var 4) rfl) (sss_one (ss_ret se_bl)) sss_nil)))
  (sss_one (ss_for rfl (passes_of rfl) (si_seq rfl (se_lst (sa_cons se_non (sa_cons (e_neg se_int) (sa_cons (se_callB (call_lenOwn (c := 0) rfl T.d0_len ((hc 15).mono (by omega)) hr T.b15) primC_lenO T.z_len (by decide +kernel) (sa_cons (se_var 4) sa_nil)) (sa_cons se_bl (sa_cons (se_str [48]) (sa_cons (se_tup (sa_cons se_int sa_nil)) sa_nil)))))))) (sg_name 9 sc_41.nd) (sss_one (ss_if (t_ne rfl hr (by
    obtain ⟨oc, od, kV, doc, pm, an, cdv', ct, osl, hfd, lk, hcg⟩ := T.u38.ex
    have bq := T.b38
    rw [hfd] at lk bq
    exact se_lam (Ng := ["_law_function", "e"]) (c := 2) (M := x_38) (k := 4 * m + 1) rfl rfl T.m38 T.u38.kp lk hcg bq sc_38 rfl (.inl rfl)
      (told_x rfl rfl T.g_NoNode (by decide) sc_38.nd rfl rfl ⟨rfl, rfl⟩ (fun _ _ => rfl) T.xm2 (fun s H => (sxb_lst (sxs_cons (sx_str [110, 111]) (sxs_cons (sx_repr rfl hgd (hu200 (Room.deeper hr _)) (sx_fld rfl T.x2 rfl) T.z_repr) sxs_nil)))))
      TB hcode (by rw [show (GG K ga Tb).T = Tb from rfl, hTb]; exact List.mem_singleton.mpr rfl) (by rw [show (GG K ga Tb).T = Tb from rfl, hTb]; intro p hp _; rw [List.mem_singleton.mp hp]; rfl) hr (lm_41 (by decide +kernel)) rfl (by intro _ _ _ _ _; rfl)
      (fun A outer s H E f c' hr' => (se_getO (c := 0) rfl T.d0_getitem T.d0_getfn ((hc 16).mono (by omega)) hr' (takes_of rfl rfl rfl rfl) T.b16 (se_var 4) (se_var 9)))) (se_lst (sa_cons (se_str [110, 111]) (sa_cons (e_repr rfl hgd hr T.z_repr (se_var 9)) sa_nil)))) (sss_one (ss_ret se_bl)) sss_nil))))))))))))))
  (sss_one (ss_ret se_bl)))
theorem lev (T : Txt K w mg ga Tb fa fd da_SIZES) : ∀ (m j : Nat), FnOk P w K mg base (L2.CX P w) (4 * m) (fa j) (fd j) (psn j) (spM (GG K ga Tb) (cl m j))
  | 0, j => fn_no
  | m + 1, j => by
    have hc := lev T m
    show FnOk P w K mg base (L2.CX P w) (4 * m + 4) (fa j) (fd j) (psn j) (spM (GG K ga Tb) (bod (cl m) j))
    unfold bod
    split
    · exact ok_4 T hc
    · exact ok_5 T hc
    · exact ok_6 T hc
    · exact ok_7 T hc
    · exact ok_8 T hc
    · exact ok_9 T hc
    · exact ok_10 T hc
    · exact ok_11 T hc
    · exact ok_12 T hc
    · exact ok_13 T hc
    · exact ok_14 T hc
    · exact ok_15 T hc
    · exact ok_16 T hc
    · exact ok_17 T hc
    · exact ok_19 T hc
    · exact ok_20 T hc
    · exact ok_21 T hc
    · exact ok_22 T hc
    · exact ok_23 T hc
    · exact ok_27 T hc
    · exact ok_28 T hc
    · exact ok_29 T hc
    · exact ok_30 T hc
    · exact ok_31 T hc
    · exact ok_32 T hc
    · exact ok_33 T hc
    · exact ok_34 T hc
    · exact ok_35 T hc
    · exact ok_36 T hc
    · exact ok_37 T hc
    · exact ok_39 T hc
    · exact ok_40 T hc
    · exact fn_no
end
end K1
end L2.Lv
end
section
set_option maxRecDepth 100000
set_option maxHeartbeats 1000000
set_option autoImplicit false
namespace L2.Lv
namespace K1
theorem c_4 {m : Nat} : cl (m + 1) 4 = mBody 1 1 (b_4 (cl m)) := rfl
theorem c_5 {m : Nat} : cl (m + 1) 5 = mBody 1 1 (b_5 (cl m)) := rfl
theorem c_6 {m : Nat} : cl (m + 1) 6 = mBody 1 3 (b_6 (cl m)) := rfl
theorem c_7 {m : Nat} : cl (m + 1) 7 = mBody 1 2 (b_7 (cl m)) := rfl
theorem c_8 {m : Nat} : cl (m + 1) 8 = mBody 1 1 (b_8 (cl m)) := rfl
theorem c_9 {m : Nat} : cl (m + 1) 9 = mBody 1 3 (b_9 (cl m)) := rfl
theorem c_10 {m : Nat} : cl (m + 1) 10 = mBody 1 4 (b_10 (cl m)) := rfl
theorem c_11 {m : Nat} : cl (m + 1) 11 = mBody 2 4 (b_11 (cl m)) := rfl
theorem c_12 {m : Nat} : cl (m + 1) 12 = mBody 1 3 (b_12 (cl m)) := rfl
theorem c_13 {m : Nat} : cl (m + 1) 13 = mBody 2 5 (b_13 (cl m)) := rfl
theorem c_14 {m : Nat} : cl (m + 1) 14 = mBody 1 1 (b_14 (cl m)) := rfl
theorem c_15 {m : Nat} : cl (m + 1) 15 = mBody 1 1 (b_15 (cl m)) := rfl
theorem c_16 {m : Nat} : cl (m + 1) 16 = mBody 2 2 (b_16 (cl m)) := rfl
theorem c_17 {m : Nat} : cl (m + 1) 17 = mBody 2 2 (b_17 (cl m)) := rfl
theorem c_19 {m : Nat} : cl (m + 1) 19 = mBody 1 1 (b_19 (cl m)) := rfl
theorem c_20 {m : Nat} : cl (m + 1) 20 = mBody 1 1 (b_20 (cl m)) := rfl
theorem c_21 {m : Nat} : cl (m + 1) 21 = mBody 1 1 (b_21 (cl m)) := rfl
theorem c_22 {m : Nat} : cl (m + 1) 22 = mBody 1 1 (b_22 (cl m)) := rfl
theorem c_23 {m : Nat} : cl (m + 1) 23 = mBody 2 2 (b_23 (cl m)) := rfl
theorem c_27 {m : Nat} : cl (m + 1) 27 = mBody 2 5 (b_27 (cl m)) := rfl
theorem c_28 {m : Nat} : cl (m + 1) 28 = mBody 2 3 (b_28 (cl m)) := rfl
theorem c_29 {m : Nat} : cl (m + 1) 29 = mBody 2 2 (b_29 (cl m)) := rfl
theorem c_30 {m : Nat} : cl (m + 1) 30 = mBody 1 2 (b_30 (cl m)) := rfl
theorem c_31 {m : Nat} : cl (m + 1) 31 = mBody 2 2 (b_31 (cl m)) := rfl
theorem c_32 {m : Nat} : cl (m + 1) 32 = mBody 3 7 (b_32 (cl m)) := rfl
theorem c_33 {m : Nat} : cl (m + 1) 33 = mBody 3 7 (b_33 (cl m)) := rfl
theorem c_34 {m : Nat} : cl (m + 1) 34 = mBody 3 9 (b_34 (cl m)) := rfl
theorem c_35 {m : Nat} : cl (m + 1) 35 = mBody 3 8 (b_35 (cl m)) := rfl
theorem c_36 {m : Nat} : cl (m + 1) 36 = mBody 1 1 (b_36 (cl m)) := rfl
theorem c_37 {m : Nat} : cl (m + 1) 37 = mBody 1 3 (b_37 (cl m)) := rfl
theorem c_39 {m : Nat} : cl (m + 1) 39 = mBody 1 2 (b_39 (cl m)) := rfl
theorem c_40 {m : Nat} : cl (m + 1) 40 = mBody 2 7 (b_40 (cl m)) := rfl
/-- the source of the draws at s -/
def Src0 (h : Hm) (s : Nat) : Prop := ∃ a b : Int, h[s]? = some (.lst [.int a, .int b]) ∧ 0 ≤ b ∧ b < 2147483647
/-- all but the object at s stays -/
def But (s : Nat) (h h' : Hm) : Prop := h.length ≤ h'.length ∧ ∀ n ob, n ≠ s → h[n]? = some ob → h'[n]? = some ob
theorem But.refl {s : Nat} {h : Hm} : But s h h := ⟨Nat.le_refl _, fun _ _ _ q => q⟩
theorem But.trans {s : Nat} {h h1 h2 : Hm} (a : But s h h1) (b : But s h1 h2) : But s h h2 := ⟨Nat.le_trans a.1 b.1, fun n ob e q => b.2 n ob e (a.2 n ob e q)⟩
theorem But.set {s : Nat} {h : Hm} {o : Ob} : But s h (h.set s o) := ⟨by simp, fun n ob e q => by rw [List.getElem?_set_ne (Ne.symm e)]; exact q⟩
theorem But.app {s : Nat} {h : Hm} {l : List Ob} : But s h (h ++ l) := ⟨by simp, fun n ob _ q => by rw [List.getElem?_append_left (List.getElem?_eq_some_iff.mp q).1]; exact q⟩
theorem lt_of_at {h : Hm} {n : Nat} {o : Ob} (q : h[n]? = some o) : n < h.length := (List.getElem?_eq_some_iff.mp q).1
theorem Src0.app {s : Nat} {h : Hm} {l : List Ob} (q : Src0 h s) : Src0 (h ++ l) s := by
  obtain ⟨a, b, e, r⟩ := q
  exact ⟨a, b, by rw [List.getElem?_append_left (lt_of_at e)]; exact e, r⟩
theorem ok_run {n : Nat} {b : MS} {ds : List D} {h : Hm} {P : D → Hm → Prop} (o : OkS (b (startE n ds) h) (fun _ h' => P .non h') P) : Ok (mRun n b ds h) P := by
  unfold mRun
  revert o
  cases b (startE n ds) h <;> intro o <;> exact o
theorem ok_body {ar n : Nat} {b : MS} {ds : List D} {h : Hm} {P : D → Hm → Prop} (hl : ds.length = ar) (o : OkS (b (startE n ds) h) (fun _ h' => P .non h') P) : Ok (mBody ar n b ds h) P := by
  unfold mBody
  rw [if_pos hl]
  exact ok_run o
theorem items_l {h : Hm} {n : Nat} {xs : List D} (q : h[n]? = some (.lst xs)) : itemsOf h n = some xs := by unfold itemsOf; rw [q]
theorem take_ok {m s : Nat} {top : Int} {h : Hm} {P : D → Hm → Prop} (hs : Src0 h s) (ht : 0 < top) (ht2 : top < 1000000) (k : ∀ (t : Int) (h' : Hm), 0 ≤ t → t < top → Src0 h' s → But s h h' → h'.length = h.length → P (.int t) h') : Ok (cl (m + 1) 28 [.ref s, .int top] h) P := by
  obtain ⟨a, b, e, b0, b1⟩ := hs
  have it := items_l e
  have ls := lt_of_at e
  rw [c_28]
  refine ok_body rfl ?_
  unfold b_28
  have i0 : atD [D.int a, D.int b] 0 = some (.int a) := rfl
  have i1 : atD [D.int a, D.int b] 1 = some (.int b) := rfl
  have z0 : (startE 3 [D.ref s, D.int top])[0]? = some (some (.ref s)) := rfl
  have z1 : (startE 3 [D.ref s, D.int top])[1]? = some (some (.int top)) := rfl
  simp only [w_seq, w_ifS, w_tb, w_bin, w_var z0, w_c, w_idxL it i0, w_gt]
  refine ⟨_, rfl, ?_⟩
  by_cases c : 0 < a
  · simp only [decide_eq_true c, if_true]
    have hf : cFd a top = true := fd_ok ht (by omega)
    simp only [w_seq, w_set, w_bin, w_app, w_cons, w_nil, w_var z0, w_var z1, w_c, w_idxL it i0, w_int, w_md ht, w_sub, w_ret]
    have y0 : ((startE 3 [D.ref s, D.int top]).set 2 (some (.int (a % top))))[0]? = some (some (.ref s)) := rfl
    have y1 : ((startE 3 [D.ref s, D.int top]).set 2 (some (.int (a % top))))[1]? = some (some (.int top)) := rfl
    have y2 : ((startE 3 [D.ref s, D.int top]).set 2 (some (.int (a % top))))[2]? = some (some (.int (a % top))) := rfl
    simp only [w_bin, w_var y0, w_var y1, w_var y2, w_c, w_idxL it i0, w_fd hf]
    refine ⟨s, 0, _, rfl, rfl, e, ⟨by omega, by simp⟩, ?_⟩
    refine k _ _ (Int.emod_nonneg _ (by omega)) (Int.emod_lt_of_pos _ ht) ⟨a / top, b, ?_, b0, b1⟩ But.set (by simp)
    rw [List.getElem?_set_self ls]
    rfl
  · simp only [decide_eq_false c, Bool.false_eq_true, if_false]
    have m1 : cMul b 39373 = true := mul_r (by decide) (by decide)
    have b' : ∃ b' : Int, (b * 39373 + 7) % 2147483647 = b' ∧ 0 ≤ b' ∧ b' < 2147483647 := ⟨_, rfl, Int.emod_nonneg _ (by decide), Int.emod_lt_of_pos _ (by decide)⟩
    obtain ⟨b', eb, c0, c1⟩ := b'
    have m2 : cMul b' b' = true := mul_r (by omega) (by omega)
    have p1 : (0 : Int) < 2147483647 := by decide
    have p2 : (0 : Int) < 2147483629 := by decide
    simp only [w_pass, w_sub, w_bin, w_app, w_cons, w_nil, w_var z0, w_var z1, w_c, w_idxL it i1, w_int, w_addI, w_mul m1, w_md p1, w_ret, eb]
    refine ⟨s, 1, _, rfl, rfl, e, ⟨by omega, by simp⟩, ?_⟩
    have e2 : (h.set s (.lst ([D.int a, D.int b].set (1 : Int).toNat (D.int b'))))[s]? = some (.lst [.int a, .int b']) := by
      rw [List.getElem?_set_self ls]
      rfl
    have it2 := items_l e2
    have i2 : atD [D.int a, D.int b'] 1 = some (.int b') := rfl
    have hf : cFd (b' * b' % 2147483629) 32 = true := fd_ok (by decide) (by decide)
    simp only [w_bin, w_app, w_cons, w_nil, w_var z0, w_var z1, w_c, w_idxL it2 i2, w_int, w_mul m2, w_md p2, w_fd hf, w_md ht]
    exact k _ _ (Int.emod_nonneg _ (by omega)) (Int.emod_lt_of_pos _ ht) ⟨a, b', e2, c0, c1⟩ But.set (by simp)
end K1
end L2.Lv
end
section
set_option maxRecDepth 100000
set_option maxHeartbeats 1000000
set_option autoImplicit false
namespace L2.Lv
namespace K1
open PySem
/-! ### trees -/
inductive Tr where
  | use (n : List Nat) | join (l : List Nat) (ts : List Tr) | bind (n : List Nat) (ah : List Tr) (b : Tr)
def tUse : List Nat := [117, 115, 101]
def tJoin : List Nat := [106, 111, 105, 110]
def tBind : List Nat := [98, 105, 110, 100]
mutual
def toD : Tr → D
  | .use n => .tup [.str tUse, .str n]
  | .join l ts => .tup [.str tJoin, .str l, .tup (toDs ts)]
  | .bind n ah b => .tup [.str tBind, .str n, .tup (toDs ah), toD b]
def toDs : List Tr → List D
  | [] => []
  | t :: ts => toD t :: toDs ts
end
mutual
def siz : Tr → Nat
  | .use _ => 1
  | .join _ ts => 1 + sizs ts
  | .bind _ ah b => 1 + sizs ah + siz b
def sizs : List Tr → Nat
  | [] => 0
  | t :: ts => siz t + sizs ts
end
mutual
def bnd : Tr → Nat
  | .use _ => 0
  | .join _ ts => bnds ts
  | .bind _ ah b => 1 + bnds ah + bnd b
def bnds : List Tr → Nat
  | [] => 0
  | t :: ts => bnd t + bnds ts
end
/-- a name that is drawn: a right one, not the strange one -/
def goodN (n : List Nat) : Bool := Txt.isascii ⟨n.toArray⟩ && Txt.isalpha ⟨n.toArray⟩ && Txt.islower ⟨n.toArray⟩ && decide (n.length ≤ 8) && decide (n ≠ [113]) && n.all fun c => decide (c < 1114112)
mutual
def good : Tr → Prop
  | .use n => goodN n = true
  | .join l ts => goodN l = true ∧ goods ts
  | .bind n ah b => goodN n = true ∧ goods ah ∧ good b
def goods : List Tr → Prop
  | [] => True
  | t :: ts => good t ∧ goods ts
end
theorem toDs_map : ∀ ts : List Tr, toDs ts = ts.map toD
  | [] => rfl
  | t :: ts => by rw [toDs, toDs_map ts, List.map_cons]
theorem sizs_app : ∀ a b : List Tr, sizs (a ++ b) = sizs a + sizs b
  | [], b => by simp [sizs]
  | t :: a, b => by simp only [List.cons_append, sizs, sizs_app a b]; omega
theorem bnds_app : ∀ a b : List Tr, bnds (a ++ b) = bnds a + bnds b
  | [], b => by simp [bnds]
  | t :: a, b => by simp only [List.cons_append, bnds, bnds_app a b]; omega
theorem goods_app : ∀ a b : List Tr, goods (a ++ b) ↔ goods a ∧ goods b
  | [], b => by simp [goods]
  | t :: a, b => by simp only [List.cons_append, goods, goods_app a b, and_assoc]
theorem siz_pos (t : Tr) : 1 ≤ siz t := by cases t <;> simp [siz] <;> omega
/-! ### the draws -/
/-- a list of good names at w -/
def Names (h : Hm) (w : Nat) : Prop := ∃ ws : List (List Nat), h[w]? = some (.lst (ws.map D.str)) ∧ 0 < ws.length ∧ ws.length < 100 ∧ ∀ n ∈ ws, goodN n = true
theorem Names.but {h h' : Hm} {s w : Nat} (q : Names h w) (b : But s h h') (ne : w ≠ s) : Names h' w := by
  obtain ⟨ws, e, r⟩ := q
  exact ⟨ws, b.2 w _ ne e, r⟩
theorem one_ok {m s l : Nat} {xs : List D} {h : Hm} {P : D → Hm → Prop} (hs : Src0 h s) (hl : h[l]? = some (.lst xs)) (ne : l ≠ s) (h0 : 0 < xs.length) (h1 : xs.length < 100000)
    (k : ∀ (d : D) (h' : Hm), d ∈ xs → Src0 h' s → But s h h' → h'.length = h.length → P d h') : Ok (cl (m + 2) 29 [.ref s, .ref l] h) P := by
  rw [c_29]
  refine ok_body rfl ?_
  unfold b_29
  have it := items_l hl
  simp only [w_ret, w_bin, w_v, w_call, w_cons, w_nil, w_app, startE, List.map_cons, List.map_nil, List.cons_append, List.nil_append, List.getElem?_cons_zero, List.getElem?_cons_succ, ok1_some, w_lenL it]
  refine take_ok hs (by omega) (by omega) fun t h' t0 t1 s' b' lh => ?_
  rw [w_ix]
  have hl' : h'[l]? = some (.lst xs) := b'.2 l _ ne hl
  have c : t.toNat < xs.length := by omega
  refine ⟨xs, items_l hl', xs[t.toNat], ?_, k _ _ (List.getElem_mem c) s' b' lh⟩
  unfold atD
  rw [if_pos t0]
  exact List.getElem?_eq_getElem c
theorem name_ok {m s w : Nat} {h : Hm} {P : D → Hm → Prop} (hs : Src0 h s) (hw : Names h w) (ne : w ≠ s)
    (k : ∀ (n : List Nat) (h' : Hm), goodN n = true → Src0 h' s → But s h h' → h'.length = h.length → P (.str n) h') : Ok (cl (m + 2) 29 [.ref s, .ref w] h) P := by
  obtain ⟨ws, e, w0, w1, wg⟩ := hw
  refine one_ok hs e ne (by simpa using w0) (by simp; omega) fun d h' hd s' b' lh => ?_
  obtain ⟨n, hn, rfl⟩ := List.mem_map.mp hd
  exact k n h' (wg n hn) s' b' lh
theorem leaf_ok {m s w : Nat} {h : Hm} {P : D → Hm → Prop} (hs : Src0 h s) (hw : Names h w) (ne : w ≠ s)
    (k : ∀ (t : Tr) (h' : Hm), good t → siz t = 1 → bnd t = 0 → Src0 h' s → But s h h' → h'.length = h.length → P (toD t) h') : Ok (cl (m + 3) 31 [.ref s, .ref w] h) P := by
  rw [c_31]
  refine ok_body rfl ?_
  unfold b_31
  simp only [w_ret, w_tup, w_v, w_c, w_call, w_cons, w_nil, startE, List.map_cons, List.map_nil, List.cons_append, List.nil_append, List.getElem?_cons_zero, List.getElem?_cons_succ, ok1_some]
  exact name_ok hs hw ne fun n h' g s' b' lh => ⟨by simp [big], k (.use n) h' g rfl rfl s' b' lh⟩
/-- the room that is left, at q -/
def Room0 (h : Hm) (q : Nat) (r b : Int) : Prop := h[q]? = some (.lst [.int r, .int b])
end K1
end L2.Lv
end
section
set_option maxRecDepth 100000
set_option maxHeartbeats 1000000
set_option autoImplicit false
namespace L2.Lv
namespace K1
open PySem
theorem But.put {s p : Nat} {h h' : Hm} {o : Ob} (b : But s h h') (l : h.length ≤ p) : But s h (h'.set p o) :=
  ⟨by simp; exact b.1, fun n ob e q => by
    have ln := lt_of_at q
    rw [List.getElem?_set_ne (by omega)]
    exact b.2 n ob e q⟩
theorem Src0.put {s p : Nat} {h : Hm} {o : Ob} (q : Src0 h s) (ne : p ≠ s) : Src0 (h.set p o) s := by
  obtain ⟨a, b, e, r⟩ := q
  exact ⟨a, b, by rw [List.getElem?_set_ne ne]; exact e, r⟩
theorem Src0.lt {s : Nat} {h : Hm} (q : Src0 h s) : s < h.length := by
  obtain ⟨a, b, e, r⟩ := q
  exact lt_of_at e
theorem app_at {h : Hm} {o : Ob} : (h ++ [o])[h.length]? = some o := by simp
theorem app_old {h : Hm} {l : List Ob} {n : Nat} {o : Ob} (q : h[n]? = some o) : (h ++ l)[n]? = some o := by
  rw [List.getElem?_append_left (lt_of_at q)]
  exact q
/-- what a draw of a tree leaves -/
def GK (h : Hm) (s : Nat) (r b : Int) (P : D → Hm → Prop) : Prop := ∀ (t : Tr) (p q : Nat) (h' : Hm) (r' b' : Int), good t → p ≠ s → q ≠ s → h'[p]? = some (.lst [toD t, .ref q]) → Room0 h' q r' b' → 0 ≤ r' → r' + siz t ≤ r → 0 ≤ b' → b' + bnd t ≤ b → Src0 h' s → But s h h' → P (.ref p) h'
def Grows (n : Nat) : Prop := ∀ (m s w q : Nat) (h : Hm) (r b : Int) (P : D → Hm → Prop), r ≤ n → 1 ≤ r → 0 ≤ b → Src0 h s → Names h w → w ≠ s → Room0 h q r b → q ≠ s → GK h s r b P → Ok (cl (2 * n + 3 + m) 32 [.ref s, .ref w, .ref q] h) P
theorem draw_ok {m s l : Nat} {js : List Int} {h : Hm} {P : D → Hm → Prop} (hs : Src0 h s) (hl : h[l]? = some (.lst (js.map D.int))) (ne : l ≠ s) (h0 : 0 < js.length) (h1 : js.length < 100)
    (k : ∀ (j : Int) (h' : Hm), j ∈ js → Src0 h' s → But s h h' → h'.length = h.length → P (.int j) h') : Ok (cl (m + 2) 29 [.ref s, .ref l] h) P := by
  refine one_ok hs hl ne (by simpa using h0) (by simp; omega) fun d h' hd s' b' lh => ?_
  obtain ⟨n, hn, rfl⟩ := List.mem_map.mp hd
  exact k n h' hn s' b' lh
/-- the parts that were drawn so far, at pa; what is left, at the room in slot 4 -/
structure Parts (h0 h : Hm) (s pa lq : Nat) (r b rr bb : Int) (ts : List Tr) : Prop where
  pa_ : h[pa]? = some (.lst (toDs ts))
  ro : Room0 h lq rr bb
  r0 : 0 ≤ rr
  r1 : rr + sizs ts ≤ r
  b0 : 0 ≤ bb
  b1 : bb + bnds ts ≤ b
  e0 : ts = [] → rr = r
  gd : goods ts
  ls : lq ≠ s
  src : Src0 h s
  but : But s h0 h
/-- one more part: tree, left = grown(source, words, left); parts.append(tree) -/
theorem part_ok {n m s w q pa lq : Nat} {h0 h : Hm} {r b rr bb : Int} {ts : List Tr} {x5 x6 : Option D} {N : En → Hm → Prop} {R : D → Hm → Prop} (G : Grows n) (V : Parts h0 h s pa lq r b rr bb ts) (hl : 0 < rr) (hn : rr ≤ n) (hw : Names h0 w) (nw : w ≠ s) (np : pa ≠ s) (lp : h0.length ≤ pa) (lt : ts.length < 100)
    (k : ∀ (t : Tr) (lq' : Nat) (h' : Hm) (r' b' : Int), Parts h0 h' s pa lq' r b r' b' (ts ++ [t]) → N [some (.ref s), some (.ref w), some (.ref q), some (.ref pa), some (.ref lq'), x5, some (toD t)] h') :
    OkS (mSeq (mAsg (gTupM [(gSet 6), (gSet 4)]) (mCall (cl (2 * n + 3 + m) 32) (mCons (mVar 0) (mCons (mVar 1) (mCons (mVar 4) mNil))))) (mDrop (mMethL pAppend (mVar 3) (mCons (mVar 6) mNil))) [some (.ref s), some (.ref w), some (.ref q), some (.ref pa), some (.ref lq), x5, x6] h) N R := by
  simp only [w_seq, w_ifS, w_set, w_ret, w_par, w_asg, w_sub, w_drop, w_pass, w_bin, w_app, w_call, w_cons, w_nil, w_tup, w_lst, w_if, w_tb, w_not, w_and, w_or, w_c, w_v, w_un, w_int, w_intB, w_addI, w_subI, w_lt, w_le, w_gt, w_ge, w_eqI, w_methL, startE, List.map_cons, List.map_nil, List.cons_append, List.nil_append, List.getElem?_cons_zero, List.getElem?_cons_succ, List.set_cons_zero, List.set_cons_succ, ok1_some, at0, at1, at2, at3, w_ixT, List.length_cons, List.length_nil, Nat.reduceAdd, Nat.reduceSub, Nat.zero_add, List.replicate_succ, List.replicate_zero]
  refine G m s w lq h _ _ _ hn (by omega) V.b0 V.src (hw.but V.but nw) nw V.ro V.ls ?_
  intro t p q' h' r' b2 gt ps qs e1 ro r0 r1 b0 b1 s' b'
  have hp : h'[pa]? = some (.lst (toDs ts)) := b'.2 pa _ np V.pa_
  have sq : seqOf h' (.ref p) = some [toD t, .ref q'] := by
    show itemsOf h' p = _
    exact items_l e1
  refine ⟨[some (.ref s), some (.ref w), some (.ref q), some (.ref pa), some (.ref q'), x5, some (toD t)], ?_, ?_⟩
  · unfold gTupM
    rw [sq]
    rfl
  simp only [w_seq, w_ifS, w_set, w_ret, w_par, w_asg, w_sub, w_drop, w_pass, w_bin, w_app, w_call, w_cons, w_nil, w_tup, w_lst, w_if, w_tb, w_not, w_and, w_or, w_c, w_v, w_un, w_int, w_intB, w_addI, w_subI, w_lt, w_le, w_gt, w_ge, w_eqI, w_methL, startE, List.map_cons, List.map_nil, List.cons_append, List.nil_append, List.getElem?_cons_zero, List.getElem?_cons_succ, List.set_cons_zero, List.set_cons_succ, ok1_some, at0, at1, at2, at3, w_ixT, List.length_cons, List.length_nil, Nat.reduceAdd, Nat.reduceSub, Nat.zero_add, List.replicate_succ, List.replicate_zero]
  refine ⟨isLst_of (items_l hp), ?_⟩
  rw [w_append hp (by rw [toDs_map, List.length_map]; unfold big; omega)]
  have a1 := V.r1
  have a2 := V.b1
  refine k t q' _ r' b2 ⟨?_, ?_, r0, ?_, b0, ?_, fun z => by simp at z, (goods_app ts [t]).mpr ⟨V.gd, gt, trivial⟩, qs, s'.put np, (V.but.trans b').put lp⟩
  · rw [List.getElem?_set_self (lt_of_at hp), toDs_map, toDs_map, List.map_append]
    rfl
  · show (h'.set pa _)[q']? = _
    by_cases c : pa = q'
    · subst c
      have z := ro.symm.trans hp
      exfalso
      cases ts with
      | nil => simp [toDs] at z
      | cons a ts => cases a <;> simp [toDs, toD] at z
    · rw [List.getElem?_set_ne c]
      exact ro
  · rw [sizs_app]
    simp only [sizs]
    omega
  · rw [bnds_app]
    simp only [bnds]
    omega
end K1
end L2.Lv
end
section
set_option maxRecDepth 100000
set_option maxHeartbeats 1000000
set_option autoImplicit false
namespace L2.Lv
namespace K1
open PySem
theorem small_of {j : Int} (a : 0 ≤ j) (b : j ≤ 1000) : smallI j = true := by
  unfold smallI
  rw [Bool.and_eq_true]
  exact ⟨decide_eq_true (by omega), decide_eq_true (by omega)⟩
theorem intsR_len {lo : Int} {n : Nat} : (intsR lo n).length = n := by simp [intsR]
theorem bound_ok {n : Nat} (G : Grows n) {m s w q : Nat} {h : Hm} {r b : Int} {P : D → Hm → Prop} (hr : r ≤ n + 1) (r2 : 2 ≤ r) (rn : r < 90) (b1 : 1 ≤ b) (hs : Src0 h s) (hw : Names h w) (nw : w ≠ s) (ro : Room0 h q r b) (nq : q ≠ s) (k : GK h s r b P) : Ok (cl (2 * n + 4 + m) 33 [.ref s, .ref w, .ref q] h) P := by
  have lv : 2 * n + 4 + m = (2 * n + 3 + m) + 1 := by omega
  rw [lv, c_33]
  refine ok_body rfl ?_
  unfold b_33
  have it := items_l ro
  have z4 : (([] : List D).length ≤ big) := by simp [big]
  simp only [w_seq, w_ifS, w_set, w_ret, w_par, w_asg, w_sub, w_drop, w_pass, w_bin, w_app, w_call, w_cons, w_nil, w_tup, w_lst, w_if, w_tb, w_not, w_and, w_or, w_c, w_v, w_un, w_int, w_intB, w_addI, w_subI, w_lt, w_le, w_gt, w_ge, w_eqI, w_methL, startE, List.map_cons, List.map_nil, List.cons_append, List.nil_append, List.getElem?_cons_zero, List.getElem?_cons_succ, List.set_cons_zero, List.set_cons_succ, ok1_some, at0, at1, at2, at3, w_ixT, List.length_cons, List.length_nil, Nat.reduceAdd, Nat.reduceSub, Nat.zero_add, List.replicate_succ, List.replicate_zero]
  have e1 : (h ++ [Ob.lst []])[q]? = some (.lst [.int r, .int b]) := app_old ro
  refine ⟨by simp [big], ?_⟩
  rw [w_ixL (items_l e1)]
  refine ⟨_, at0, ?_⟩
  simp only [w_seq, w_ifS, w_set, w_ret, w_par, w_asg, w_sub, w_drop, w_pass, w_bin, w_app, w_call, w_cons, w_nil, w_tup, w_lst, w_if, w_tb, w_not, w_and, w_or, w_c, w_v, w_un, w_int, w_intB, w_addI, w_subI, w_lt, w_le, w_gt, w_ge, w_eqI, w_methL, startE, List.map_cons, List.map_nil, List.cons_append, List.nil_append, List.getElem?_cons_zero, List.getElem?_cons_succ, List.set_cons_zero, List.set_cons_succ, ok1_some, at0, at1, at2, at3, w_ixT, List.length_cons, List.length_nil, Nat.reduceAdd, Nat.reduceSub, Nat.zero_add, List.replicate_succ, List.replicate_zero]
  rw [w_ixL (items_l e1)]
  refine ⟨_, at1, ?_⟩
  simp only [w_seq, w_ifS, w_set, w_ret, w_par, w_asg, w_sub, w_drop, w_pass, w_bin, w_app, w_call, w_cons, w_nil, w_tup, w_lst, w_if, w_tb, w_not, w_and, w_or, w_c, w_v, w_un, w_int, w_intB, w_addI, w_subI, w_lt, w_le, w_gt, w_ge, w_eqI, w_methL, startE, List.map_cons, List.map_nil, List.cons_append, List.nil_append, List.getElem?_cons_zero, List.getElem?_cons_succ, List.set_cons_zero, List.set_cons_succ, ok1_some, at0, at1, at2, at3, w_ixT, List.length_cons, List.length_nil, Nat.reduceAdd, Nat.reduceSub, Nat.zero_add, List.replicate_succ, List.replicate_zero]
  refine ⟨by simp [big], _, _, rfl, ?_⟩
  have ls := hs.lt
  have lpa : h.length < (h ++ [Ob.lst []] ++ [Ob.lst [.int (r - 1), .int (b - 1)]]).length := by simp
  have V0 : Parts h (h ++ [Ob.lst []] ++ [Ob.lst [.int (r - 1), .int (b - 1)]]) s h.length (h ++ [Ob.lst []]).length (r - 1) (b - 1) (r - 1) (b - 1) [] := by
    refine ⟨app_old app_at, app_at, by omega, by simp [sizs], by omega, by simp [bnds], fun _ => rfl, trivial, by simp; omega, hs.app.app, But.app.trans But.app⟩
  generalize h ++ [Ob.lst []] ++ [Ob.lst [.int (r - 1), .int (b - 1)]] = h1 at V0 lpa ⊢
  generalize (h ++ [Ob.lst []]).length = lq at V0 ⊢
  have np : h.length ≠ s := by omega
  rw [w_for, w_rng1]
  simp only [w_seq, w_ifS, w_set, w_ret, w_par, w_asg, w_sub, w_drop, w_pass, w_bin, w_app, w_call, w_cons, w_nil, w_tup, w_lst, w_if, w_tb, w_not, w_and, w_or, w_c, w_v, w_un, w_int, w_intB, w_addI, w_subI, w_lt, w_le, w_gt, w_ge, w_eqI, w_methL, startE, List.map_cons, List.map_nil, List.cons_append, List.nil_append, List.getElem?_cons_zero, List.getElem?_cons_succ, List.set_cons_zero, List.set_cons_succ, ok1_some, at0, at1, at2, at3, w_ixT, List.length_cons, List.length_nil, Nat.reduceAdd, Nat.reduceSub, Nat.zero_add, List.replicate_succ, List.replicate_zero]
  refine ⟨by simp [big], ?_⟩
  have V1 : Parts h (h1 ++ [Ob.lst [D.int 0, D.int 0, D.int 0, D.int 1, D.int 1, D.int 2]]) s h.length lq (r - 1) (b - 1) (r - 1) (b - 1) [] := ⟨app_old V0.pa_, app_old V0.ro, V0.r0, V0.r1, V0.b0, V0.b1, V0.e0, V0.gd, V0.ls, V0.src.app, V0.but.trans But.app⟩
  have lv2 : 2 * n + 3 + m = (2 * n + 1 + m) + 2 := by omega
  rw [lv2]
  refine draw_ok (js := [0, 0, 0, 1, 1, 2]) V1.src app_at (by omega) (by simp) (by simp) fun j h2 hj s2 b2 _ => ?_
  have j2 : 0 ≤ j ∧ j ≤ 2 := by
    simp at hj
    omega
  refine ⟨j, rfl, small_of j2.1 (by omega), ?_⟩
  have V2 : Parts h h2 s h.length lq (r - 1) (b - 1) (r - 1) (b - 1) [] := ⟨b2.2 _ _ np V1.pa_, b2.2 _ _ V1.ls V1.ro, V1.r0, V1.r1, V1.b0, V1.b1, V1.e0, V1.gd, V1.ls, s2, V1.but.trans b2⟩
  rw [← lv2]
  have lj : (intsR 0 j.toNat).length = j.toNat := intsR_len
  refine loop_fix (fun i e hx => ∃ (ts : List Tr) (lq' : Nat) (x5 x6 : Option D) (rr bb : Int), e = [some (.ref s), some (.ref w), some (.ref q), some (.ref h.length), some (.ref lq'), x5, x6] ∧ Parts h hx s h.length lq' (r - 1) (b - 1) rr bb ts ∧ ts.length ≤ i) ?_ ?_ j.toNat lots 0 _ h2 (by rw [lj]; omega) (by unfold lots; omega) ⟨[], lq, none, none, _, _, rfl, V2, Nat.le_refl _⟩
  · rintro i x e hx hi ⟨ts, lq', x5, x6, rr, bb, rfl, V, tl⟩
    have il : i < j.toNat := by
      rw [← lj]
      exact (List.getElem?_eq_some_iff.mp hi).1
    refine ⟨_, rfl, ?_⟩
    show OkS (mIfS _ _ _ [some (.ref s), some (.ref w), some (.ref q), some (.ref h.length), some (.ref lq'), some x, x6] hx) _ _
    simp only [w_ifS, w_bin, w_app, w_call, w_cons, w_nil, w_tup, w_lst, w_if, w_tb, w_not, w_and, w_or, w_c, w_v, w_un, w_int, w_intB, w_addI, w_subI, w_lt, w_le, w_gt, w_ge, w_eqI, w_methL, startE, List.map_cons, List.map_nil, List.cons_append, List.nil_append, List.getElem?_cons_zero, List.getElem?_cons_succ, List.set_cons_zero, List.set_cons_succ, ok1_some, at0, at1, at2, at3, w_ixT, List.length_cons, List.length_nil, Nat.reduceAdd, Nat.reduceSub, Nat.zero_add, List.replicate_succ, List.replicate_zero]
    rw [w_ixL (items_l V.ro)]
    refine ⟨_, at0, ?_⟩
    simp only [w_ifS, w_bin, w_app, w_call, w_cons, w_nil, w_tup, w_lst, w_if, w_tb, w_not, w_and, w_or, w_c, w_v, w_un, w_int, w_intB, w_addI, w_subI, w_lt, w_le, w_gt, w_ge, w_eqI, w_methL, startE, List.map_cons, List.map_nil, List.cons_append, List.nil_append, List.getElem?_cons_zero, List.getElem?_cons_succ, List.set_cons_zero, List.set_cons_succ, ok1_some, at0, at1, at2, at3, w_ixT, List.length_cons, List.length_nil, Nat.reduceAdd, Nat.reduceSub, Nat.zero_add, List.replicate_succ, List.replicate_zero]
    refine ⟨_, rfl, ?_⟩
    by_cases c : (3 : Int) < rr
    · simp only [decide_eq_true c, if_true]
      have v1 := V.r1
      exact part_ok G V (by omega) (by omega) hw nw np (Nat.le_refl _) (by omega) fun t lq2 h3 r3 b3 V3 => ⟨ts ++ [t], lq2, some x, some (toD t), r3, b3, rfl, V3, by simp; omega⟩
    · simp only [decide_eq_false c, Bool.false_eq_true, if_false, w_pass]
      exact ⟨ts, lq', some x, x6, rr, bb, rfl, V, by omega⟩
  · rintro e hx ⟨ts, lq', x5, x6, rr, bb, rfl, V, tl⟩
    rw [lj] at tl
    simp only [w_ifS, w_bin, w_app, w_call, w_cons, w_nil, w_tup, w_lst, w_if, w_tb, w_not, w_and, w_or, w_c, w_v, w_un, w_int, w_intB, w_addI, w_subI, w_lt, w_le, w_gt, w_ge, w_eqI, w_methL, startE, List.map_cons, List.map_nil, List.cons_append, List.nil_append, List.getElem?_cons_zero, List.getElem?_cons_succ, List.set_cons_zero, List.set_cons_succ, ok1_some, at0, at1, at2, at3, w_ixT, List.length_cons, List.length_nil, Nat.reduceAdd, Nat.reduceSub, Nat.zero_add, List.replicate_succ, List.replicate_zero]
    rw [w_ixL (items_l V.ro)]
    refine ⟨_, at0, ?_⟩
    simp only [w_ifS, w_bin, w_app, w_call, w_cons, w_nil, w_tup, w_lst, w_if, w_tb, w_not, w_and, w_or, w_c, w_v, w_un, w_int, w_intB, w_addI, w_subI, w_lt, w_le, w_gt, w_ge, w_eqI, w_methL, startE, List.map_cons, List.map_nil, List.cons_append, List.nil_append, List.getElem?_cons_zero, List.getElem?_cons_succ, List.set_cons_zero, List.set_cons_succ, ok1_some, at0, at1, at2, at3, w_ixT, List.length_cons, List.length_nil, Nat.reduceAdd, Nat.reduceSub, Nat.zero_add, List.replicate_succ, List.replicate_zero]
    refine ⟨_, rfl, ?_⟩
    by_cases c : rr < 1
    · simp only [decide_eq_true c, if_true, w_seq, w_ifS, w_set, w_ret, w_par, w_asg, w_sub, w_drop, w_pass, w_bin, w_app, w_call, w_cons, w_nil, w_tup, w_lst, w_if, w_tb, w_not, w_and, w_or, w_c, w_v, w_un, w_int, w_intB, w_addI, w_subI, w_lt, w_le, w_gt, w_ge, w_eqI, w_methL, startE, List.map_cons, List.map_nil, List.cons_append, List.nil_append, List.getElem?_cons_zero, List.getElem?_cons_succ, List.set_cons_zero, List.set_cons_succ, ok1_some, at0, at1, at2, at3, w_ixT, List.length_cons, List.length_nil, Nat.reduceAdd, Nat.reduceSub, Nat.zero_add, List.replicate_succ, List.replicate_zero]
      rw [lv2]
      refine name_ok V.src (hw.but V.but nw) nw fun nm h3 gn s3 b3 _ => ?_
      cases ts with
      | nil =>
        have := V.e0 rfl
        omega
      | cons t ts =>
        have e3 : h3[h.length]? = some (.lst (toDs (t :: ts))) := b3.2 _ _ np V.pa_
        refine ⟨by simp [big], ?_⟩
        rw [w_ixL (items_l e3)]
        refine ⟨toD t, rfl, by simp [big], by simp [big], ?_⟩
        have v1 := V.r1
        have v2 := V.b1
        have v3 := V.r0
        have l3 := s3.lt
        refine k (.bind nm [] t) _ lq' _ rr bb ⟨gn, trivial, V.gd.1⟩ (by omega) V.ls app_at (app_old (b3.2 _ _ V.ls V.ro)) V.r0 ?_ V.b0 ?_ s3.app ((V.but.trans b3).trans But.app)
        · simp only [siz, sizs] at v1 ⊢
          omega
        · simp only [bnd, bnds] at v2 ⊢
          omega
    · simp only [decide_eq_false c, Bool.false_eq_true, if_false, w_seq, w_ifS, w_set, w_ret, w_par, w_asg, w_sub, w_drop, w_pass, w_bin, w_app, w_call, w_cons, w_nil, w_tup, w_lst, w_if, w_tb, w_not, w_and, w_or, w_c, w_v, w_un, w_int, w_intB, w_addI, w_subI, w_lt, w_le, w_gt, w_ge, w_eqI, w_methL, startE, List.map_cons, List.map_nil, List.cons_append, List.nil_append, List.getElem?_cons_zero, List.getElem?_cons_succ, List.set_cons_zero, List.set_cons_succ, ok1_some, at0, at1, at2, at3, w_ixT, List.length_cons, List.length_nil, Nat.reduceAdd, Nat.reduceSub, Nat.zero_add, List.replicate_succ, List.replicate_zero]
      have v1 := V.r1
      have v2 := V.b1
      refine G m s w lq' hx rr bb _ (by omega) (by omega) V.b0 V.src (hw.but V.but nw) nw V.ro V.ls ?_
      intro t p q' h3 r' b' gt ps qs e1 ro' r0 r1 b0 b1' s3 b3
      have sq : seqOf h3 (.ref p) = some [toD t, .ref q'] := by
        show itemsOf h3 p = _
        exact items_l e1
      refine ⟨[some (.ref s), some (.ref w), some (.ref q), some (.ref h.length), some (.ref q'), x5, some (toD t)], ?_, ?_⟩
      · unfold gTupM
        rw [sq]
        rfl
      simp only [w_seq, w_ifS, w_set, w_ret, w_par, w_asg, w_sub, w_drop, w_pass, w_bin, w_app, w_call, w_cons, w_nil, w_tup, w_lst, w_if, w_tb, w_not, w_and, w_or, w_c, w_v, w_un, w_int, w_intB, w_addI, w_subI, w_lt, w_le, w_gt, w_ge, w_eqI, w_methL, startE, List.map_cons, List.map_nil, List.cons_append, List.nil_append, List.getElem?_cons_zero, List.getElem?_cons_succ, List.set_cons_zero, List.set_cons_succ, ok1_some, at0, at1, at2, at3, w_ixT, List.length_cons, List.length_nil, Nat.reduceAdd, Nat.reduceSub, Nat.zero_add, List.replicate_succ, List.replicate_zero]
      rw [lv2]
      refine name_ok s3 ((hw.but V.but nw).but b3 nw) nw fun nm h4 gn s4 b4 _ => ?_
      have e4 : h4[h.length]? = some (.lst (toDs ts)) := b4.2 _ _ np (b3.2 _ _ np V.pa_)
      rw [w_tupleL (items_l e4) (by rw [toDs_map, List.length_map]; unfold big; omega)]
      have l4 := s4.lt
      refine ⟨by simp [big], by simp [big], ?_⟩
      refine k (.bind nm ts t) _ q' _ r' b' ⟨gn, V.gd, gt⟩ (by omega) qs app_at (app_old (b4.2 _ _ qs ro')) r0 ?_ b0 ?_ s4.app (((V.but.trans b3).trans b4).trans But.app)
      · simp only [siz]
        omega
      · simp only [bnd]
        omega
end K1
end L2.Lv
end
section
set_option maxRecDepth 100000
set_option maxHeartbeats 1000000
set_option autoImplicit false
namespace L2.Lv
namespace K1
open PySem
theorem grow_all : ∀ n : Nat, n ≤ 80 → Grows n
  | 0, _ => fun m s w q h r b P hr r1 => by omega
  | n + 1, hn => fun m s w q h r b P hr r1 b0 hs hw nw ro nq k => by
    have G := grow_all n (by omega)
    have lv : 2 * (n + 1) + 3 + m = (2 * n + 4 + m) + 1 := by omega
    rw [lv, c_32]
    refine ok_body rfl ?_
    unfold b_32
    have it := items_l ro
    have lv3 : 2 * n + 4 + m = (2 * n + 1 + m) + 3 := by omega
    have lv2 : 2 * n + 4 + m = (2 * n + 2 + m) + 2 := by omega
    have lv1 : 2 * n + 4 + m = (2 * n + 3 + m) + 1 := by omega
    -- a leaf
    have leaf : ∀ (h1 : Hm), Src0 h1 s → But s h h1 → Ok (cl (2 * n + 4 + m) 31 [.ref s, .ref w] h1) fun x h2 => Ok (pIdx (.ref q) (.int 0) h2) fun y h3 => Ok (pSub y (.int 1) h3) fun z h4 => Ok (pIdx (.ref q) (.int 1) h4) fun u h5 =>
        [z, u].length ≤ big ∧ [x, D.ref h5.length].length ≤ big ∧ P (.ref (h5 ++ [Ob.lst [z, u]]).length) (h5 ++ [Ob.lst [z, u]] ++ [Ob.lst [x, D.ref h5.length]]) := by
      intro h1 s1 b1
      rw [lv3]
      refine leaf_ok s1 (hw.but b1 nw) nw fun t h2 gt st bt s2 b2 _ => ?_
      have e2 : h2[q]? = some (.lst [.int r, .int b]) := b2.2 _ _ nq (b1.2 _ _ nq ro)
      rw [w_ixL (items_l e2)]
      refine ⟨_, at0, ?_⟩
      rw [w_subI, w_ixL (items_l e2)]
      have l2 := s2.lt
      refine ⟨_, at1, by simp [big], by simp [big], ?_⟩
      refine k t _ h2.length _ (r - 1) b gt (by simp; omega) (by omega) app_at (app_old app_at) (by omega) (by omega) b0 (by omega) s2.app.app (((b1.trans b2).trans But.app).trans But.app)
    rw [w_seq, w_ifS]
    simp only [w_ifS, w_bin, w_app, w_call, w_cons, w_nil, w_tup, w_lst, w_if, w_tb, w_not, w_and, w_or, w_c, w_v, w_un, w_int, w_intB, w_addI, w_subI, w_lt, w_le, w_gt, w_ge, w_eqI, w_methL, startE, List.map_cons, List.map_nil, List.cons_append, List.nil_append, List.getElem?_cons_zero, List.getElem?_cons_succ, List.set_cons_zero, List.set_cons_succ, ok1_some, at0, at1, at2, at3, w_ixT, List.length_cons, List.length_nil, Nat.reduceAdd, Nat.reduceSub, Nat.zero_add, List.replicate_succ, List.replicate_zero]
    rw [w_ixL it]
    refine ⟨_, at0, ?_⟩
    simp only [w_ifS, w_bin, w_app, w_call, w_cons, w_nil, w_tup, w_lst, w_if, w_tb, w_not, w_and, w_or, w_c, w_v, w_un, w_int, w_intB, w_addI, w_subI, w_lt, w_le, w_gt, w_ge, w_eqI, w_methL, startE, List.map_cons, List.map_nil, List.cons_append, List.nil_append, List.getElem?_cons_zero, List.getElem?_cons_succ, List.set_cons_zero, List.set_cons_succ, ok1_some, at0, at1, at2, at3, w_ixT, List.length_cons, List.length_nil, Nat.reduceAdd, Nat.reduceSub, Nat.zero_add, List.replicate_succ, List.replicate_zero]
    refine ⟨_, rfl, ?_⟩
    by_cases c : r < 3
    · simp only [decide_eq_true c, if_true, w_seq, w_ifS, w_set, w_ret, w_par, w_asg, w_sub, w_drop, w_pass, w_bin, w_app, w_call, w_cons, w_nil, w_tup, w_lst, w_if, w_tb, w_not, w_and, w_or, w_c, w_v, w_un, w_int, w_intB, w_addI, w_subI, w_lt, w_le, w_gt, w_ge, w_eqI, w_methL, startE, List.map_cons, List.map_nil, List.cons_append, List.nil_append, List.getElem?_cons_zero, List.getElem?_cons_succ, List.set_cons_zero, List.set_cons_succ, ok1_some, at0, at1, at2, at3, w_ixT, List.length_cons, List.length_nil, Nat.reduceAdd, Nat.reduceSub, Nat.zero_add, List.replicate_succ, List.replicate_zero]
      exact leaf h hs But.refl
    · simp only [decide_eq_false c, Bool.false_eq_true, if_false, w_ifS, w_bin, w_app, w_call, w_cons, w_nil, w_tup, w_lst, w_if, w_tb, w_not, w_and, w_or, w_c, w_v, w_un, w_int, w_intB, w_addI, w_subI, w_lt, w_le, w_gt, w_ge, w_eqI, w_methL, startE, List.map_cons, List.map_nil, List.cons_append, List.nil_append, List.getElem?_cons_zero, List.getElem?_cons_succ, List.set_cons_zero, List.set_cons_succ, ok1_some, at0, at1, at2, at3, w_ixT, List.length_cons, List.length_nil, Nat.reduceAdd, Nat.reduceSub, Nat.zero_add, List.replicate_succ, List.replicate_zero]
      rw [lv1]
      refine take_ok hs (by omega) (by omega) fun t1 h1 _ _ s1 b1 _ => ?_
      simp only [w_ifS, w_bin, w_app, w_call, w_cons, w_nil, w_tup, w_lst, w_if, w_tb, w_not, w_and, w_or, w_c, w_v, w_un, w_int, w_intB, w_addI, w_subI, w_lt, w_le, w_gt, w_ge, w_eqI, w_methL, startE, List.map_cons, List.map_nil, List.cons_append, List.nil_append, List.getElem?_cons_zero, List.getElem?_cons_succ, List.set_cons_zero, List.set_cons_succ, ok1_some, at0, at1, at2, at3, w_ixT, List.length_cons, List.length_nil, Nat.reduceAdd, Nat.reduceSub, Nat.zero_add, List.replicate_succ, List.replicate_zero]
      refine ⟨_, rfl, ?_⟩
      rw [← lv1]
      cases q1 : (t1 == 0) with
      | true =>
        simp only [if_true, w_seq, w_ifS, w_set, w_ret, w_par, w_asg, w_sub, w_drop, w_pass, w_bin, w_app, w_call, w_cons, w_nil, w_tup, w_lst, w_if, w_tb, w_not, w_and, w_or, w_c, w_v, w_un, w_int, w_intB, w_addI, w_subI, w_lt, w_le, w_gt, w_ge, w_eqI, w_methL, startE, List.map_cons, List.map_nil, List.cons_append, List.nil_append, List.getElem?_cons_zero, List.getElem?_cons_succ, List.set_cons_zero, List.set_cons_succ, ok1_some, at0, at1, at2, at3, w_ixT, List.length_cons, List.length_nil, Nat.reduceAdd, Nat.reduceSub, Nat.zero_add, List.replicate_succ, List.replicate_zero]
        exact leaf h1 s1 b1
      | false =>
        simp only [Bool.false_eq_true, if_false, w_pass]
        have e1 : h1[q]? = some (.lst [.int r, .int b]) := b1.2 _ _ nq ro
        -- a bind
        rw [w_seq, w_ifS]
        simp only [w_ifS, w_bin, w_app, w_call, w_cons, w_nil, w_tup, w_lst, w_if, w_tb, w_not, w_and, w_or, w_c, w_v, w_un, w_int, w_intB, w_addI, w_subI, w_lt, w_le, w_gt, w_ge, w_eqI, w_methL, startE, List.map_cons, List.map_nil, List.cons_append, List.nil_append, List.getElem?_cons_zero, List.getElem?_cons_succ, List.set_cons_zero, List.set_cons_succ, ok1_some, at0, at1, at2, at3, w_ixT, List.length_cons, List.length_nil, Nat.reduceAdd, Nat.reduceSub, Nat.zero_add, List.replicate_succ, List.replicate_zero]
        rw [w_ixL (items_l e1)]
        refine ⟨_, at1, ?_⟩
        simp only [w_ifS, w_bin, w_app, w_call, w_cons, w_nil, w_tup, w_lst, w_if, w_tb, w_not, w_and, w_or, w_c, w_v, w_un, w_int, w_intB, w_addI, w_subI, w_lt, w_le, w_gt, w_ge, w_eqI, w_methL, startE, List.map_cons, List.map_nil, List.cons_append, List.nil_append, List.getElem?_cons_zero, List.getElem?_cons_succ, List.set_cons_zero, List.set_cons_succ, ok1_some, at0, at1, at2, at3, w_ixT, List.length_cons, List.length_nil, Nat.reduceAdd, Nat.reduceSub, Nat.zero_add, List.replicate_succ, List.replicate_zero]
        refine ⟨_, rfl, ?_⟩
        have rest : ∀ h2 : Hm, Src0 h2 s → But s h h2 → OkS (mSeq (mPar 3 4 (mCons (mLst mNil) (mCons (mLst (mCons (mBin pSub (mBin pIdx (mVar 2) (mC (.int 0))) (mC (.int 1))) (mCons (mBin pIdx (mVar 2) (mC (.int 1))) mNil))) mNil)))
            (mSeq (mFor (mRng1 (mCons (mCall (cl (2 * n + 4 + m) 29) (mCons (mVar 0) (mCons (mLst (mCons (mC (.int 0)) (mCons (mC (.int 1)) (mCons (mC (.int 2)) (mCons (mC (.int 2)) (mCons (mC (.int 3)) mNil)))))) mNil))) mNil)) (gSet 5) (mIfS (mTb (mBin pGt (mBin pIdx (mVar 4) (mC (.int 0))) (mC (.int 0)))) (mSeq (mAsg (gTupM [(gSet 6), (gSet 4)]) (mCall (cl (2 * n + 4 + m) 32) (mCons (mVar 0) (mCons (mVar 1) (mCons (mVar 4) mNil)))))
              (mDrop (mMethL pAppend (mVar 3) (mCons (mVar 6) mNil)))) mPass))
            (mRet (mLst (mCons (mTup (mCons (mC (.str [106, 111, 105, 110])) (mCons (mCall (cl (2 * n + 4 + m) 29) (mCons (mVar 0) (mCons (mLst (mCons (mC (.str [102])) (mCons (mC (.str [120])) (mCons (mC (.str [106, 111, 105, 110])) mNil)))) mNil))) (mCons (mApp pTuple (mCons (mVar 3) mNil)) mNil)))) (mCons (mVar 4) mNil))))) [some (.ref s), some (.ref w), some (.ref q), none, none, none, none] h2) (fun _ h' => P .non h') P := by
          intro h2 s2 b2
          have e2 : h2[q]? = some (.lst [.int r, .int b]) := b2.2 _ _ nq ro
          have f2 : (h2 ++ [Ob.lst []])[q]? = some (.lst [.int r, .int b]) := app_old e2
          simp only [w_seq, w_ifS, w_set, w_ret, w_par, w_asg, w_sub, w_drop, w_pass, w_bin, w_app, w_call, w_cons, w_nil, w_tup, w_lst, w_if, w_tb, w_not, w_and, w_or, w_c, w_v, w_un, w_int, w_intB, w_addI, w_subI, w_lt, w_le, w_gt, w_ge, w_eqI, w_methL, startE, List.map_cons, List.map_nil, List.cons_append, List.nil_append, List.getElem?_cons_zero, List.getElem?_cons_succ, List.set_cons_zero, List.set_cons_succ, ok1_some, at0, at1, at2, at3, w_ixT, List.length_cons, List.length_nil, Nat.reduceAdd, Nat.reduceSub, Nat.zero_add, List.replicate_succ, List.replicate_zero]
          refine ⟨by simp [big], ?_⟩
          rw [w_ixL (items_l f2)]
          refine ⟨_, at0, ?_⟩
          simp only [w_seq, w_ifS, w_set, w_ret, w_par, w_asg, w_sub, w_drop, w_pass, w_bin, w_app, w_call, w_cons, w_nil, w_tup, w_lst, w_if, w_tb, w_not, w_and, w_or, w_c, w_v, w_un, w_int, w_intB, w_addI, w_subI, w_lt, w_le, w_gt, w_ge, w_eqI, w_methL, startE, List.map_cons, List.map_nil, List.cons_append, List.nil_append, List.getElem?_cons_zero, List.getElem?_cons_succ, List.set_cons_zero, List.set_cons_succ, ok1_some, at0, at1, at2, at3, w_ixT, List.length_cons, List.length_nil, Nat.reduceAdd, Nat.reduceSub, Nat.zero_add, List.replicate_succ, List.replicate_zero]
          rw [w_ixL (items_l f2)]
          refine ⟨_, at1, by simp [big], _, _, rfl, ?_⟩
          have ls := s2.lt
          have V0 : Parts h2 (h2 ++ [Ob.lst []] ++ [Ob.lst [.int (r - 1), .int b]]) s h2.length (h2 ++ [Ob.lst []]).length (r - 1) b (r - 1) b [] :=
            ⟨app_old app_at, app_at, by omega, by simp [sizs], by omega, by simp [bnds], fun _ => rfl, trivial, by simp; omega, s2.app.app, But.app.trans But.app⟩
          generalize h2 ++ [Ob.lst []] ++ [Ob.lst [.int (r - 1), .int b]] = h3 at V0 ⊢
          generalize (h2 ++ [Ob.lst []]).length = lq at V0 ⊢
          have np : h2.length ≠ s := by omega
          have hw2 := hw.but b2 nw
          rw [w_for, w_rng1]
          simp only [w_seq, w_ifS, w_set, w_ret, w_par, w_asg, w_sub, w_drop, w_pass, w_bin, w_app, w_call, w_cons, w_nil, w_tup, w_lst, w_if, w_tb, w_not, w_and, w_or, w_c, w_v, w_un, w_int, w_intB, w_addI, w_subI, w_lt, w_le, w_gt, w_ge, w_eqI, w_methL, startE, List.map_cons, List.map_nil, List.cons_append, List.nil_append, List.getElem?_cons_zero, List.getElem?_cons_succ, List.set_cons_zero, List.set_cons_succ, ok1_some, at0, at1, at2, at3, w_ixT, List.length_cons, List.length_nil, Nat.reduceAdd, Nat.reduceSub, Nat.zero_add, List.replicate_succ, List.replicate_zero]
          refine ⟨by simp [big], ?_⟩
          have V1 : Parts h2 (h3 ++ [Ob.lst [D.int 0, D.int 1, D.int 2, D.int 2, D.int 3]]) s h2.length lq (r - 1) b (r - 1) b [] := ⟨app_old V0.pa_, app_old V0.ro, V0.r0, V0.r1, V0.b0, V0.b1, V0.e0, V0.gd, V0.ls, V0.src.app, V0.but.trans But.app⟩
          rw [lv2]
          refine draw_ok (js := [0, 1, 2, 2, 3]) V1.src app_at (by have := V0.but.1; omega) (by simp) (by simp) fun j h4 hj s4 b4 _ => ?_
          have j2 : 0 ≤ j ∧ j ≤ 3 := by
            simp at hj
            omega
          refine ⟨j, rfl, small_of j2.1 (by omega), ?_⟩
          have V2 : Parts h2 h4 s h2.length lq (r - 1) b (r - 1) b [] := ⟨b4.2 _ _ np V1.pa_, b4.2 _ _ V1.ls V1.ro, V1.r0, V1.r1, V1.b0, V1.b1, V1.e0, V1.gd, V1.ls, s4, V1.but.trans b4⟩
          have lj : (intsR 0 j.toNat).length = j.toNat := intsR_len
          refine loop_fix (fun i e hx => ∃ (ts : List Tr) (lq' : Nat) (x5 x6 : Option D) (rr bb : Int), e = [some (.ref s), some (.ref w), some (.ref q), some (.ref h2.length), some (.ref lq'), x5, x6] ∧ Parts h2 hx s h2.length lq' (r - 1) b rr bb ts ∧ ts.length ≤ i) ?_ ?_ j.toNat lots 0 _ h4 (by rw [lj]; omega) (by unfold lots; omega) ⟨[], lq, none, none, _, _, rfl, V2, Nat.le_refl _⟩
          · rintro i x e hx hi ⟨ts, lq', x5, x6, rr, bb, rfl, V, tl⟩
            have il : i < j.toNat := by
              rw [← lj]
              exact (List.getElem?_eq_some_iff.mp hi).1
            refine ⟨_, rfl, ?_⟩
            show OkS (mIfS _ _ _ [some (.ref s), some (.ref w), some (.ref q), some (.ref h2.length), some (.ref lq'), some x, x6] hx) _ _
            simp only [w_ifS, w_bin, w_app, w_call, w_cons, w_nil, w_tup, w_lst, w_if, w_tb, w_not, w_and, w_or, w_c, w_v, w_un, w_int, w_intB, w_addI, w_subI, w_lt, w_le, w_gt, w_ge, w_eqI, w_methL, startE, List.map_cons, List.map_nil, List.cons_append, List.nil_append, List.getElem?_cons_zero, List.getElem?_cons_succ, List.set_cons_zero, List.set_cons_succ, ok1_some, at0, at1, at2, at3, w_ixT, List.length_cons, List.length_nil, Nat.reduceAdd, Nat.reduceSub, Nat.zero_add, List.replicate_succ, List.replicate_zero]
            rw [w_ixL (items_l V.ro)]
            refine ⟨_, at0, ?_⟩
            simp only [w_ifS, w_bin, w_app, w_call, w_cons, w_nil, w_tup, w_lst, w_if, w_tb, w_not, w_and, w_or, w_c, w_v, w_un, w_int, w_intB, w_addI, w_subI, w_lt, w_le, w_gt, w_ge, w_eqI, w_methL, startE, List.map_cons, List.map_nil, List.cons_append, List.nil_append, List.getElem?_cons_zero, List.getElem?_cons_succ, List.set_cons_zero, List.set_cons_succ, ok1_some, at0, at1, at2, at3, w_ixT, List.length_cons, List.length_nil, Nat.reduceAdd, Nat.reduceSub, Nat.zero_add, List.replicate_succ, List.replicate_zero]
            refine ⟨_, rfl, ?_⟩
            by_cases c2 : (0 : Int) < rr
            · simp only [decide_eq_true c2, if_true]
              have v1 := V.r1
              have lv5 : 2 * n + 2 + m + 2 = 2 * n + 3 + (m + 1) := by omega
              rw [lv5]
              exact part_ok G V c2 (by omega) hw2 nw np (Nat.le_refl _) (by omega) fun t lq2 h5 r5 b5 V5 => ⟨ts ++ [t], lq2, some x, some (toD t), r5, b5, rfl, V5, by simp; omega⟩
            · simp only [decide_eq_false c2, Bool.false_eq_true, if_false, w_pass]
              exact ⟨ts, lq', some x, x6, rr, bb, rfl, V, by omega⟩
          · rintro e hx ⟨ts, lq', x5, x6, rr, bb, rfl, V, tl⟩
            rw [lj] at tl
            simp only [w_seq, w_ifS, w_set, w_ret, w_par, w_asg, w_sub, w_drop, w_pass, w_bin, w_app, w_call, w_cons, w_nil, w_tup, w_lst, w_if, w_tb, w_not, w_and, w_or, w_c, w_v, w_un, w_int, w_intB, w_addI, w_subI, w_lt, w_le, w_gt, w_ge, w_eqI, w_methL, startE, List.map_cons, List.map_nil, List.cons_append, List.nil_append, List.getElem?_cons_zero, List.getElem?_cons_succ, List.set_cons_zero, List.set_cons_succ, ok1_some, at0, at1, at2, at3, w_ixT, List.length_cons, List.length_nil, Nat.reduceAdd, Nat.reduceSub, Nat.zero_add, List.replicate_succ, List.replicate_zero]
            refine ⟨by simp [big], ?_⟩
            have lx : hx.length ≠ s := by have := V.src.lt; omega
            refine one_ok (xs := [.str [102], .str [120], .str [106, 111, 105, 110]]) V.src.app app_at lx (by simp) (by simp) fun d h6 hd s6 b6 _ => ?_
            have e6 : h6[h2.length]? = some (.lst (toDs ts)) := b6.2 _ _ np (app_old V.pa_)
            rw [w_tupleL (items_l e6) (by rw [toDs_map, List.length_map]; unfold big; omega)]
            have l6 := s6.lt
            have v1 := V.r1
            have v2 := V.b1
            have fin : ∀ l : List Nat, goodN l = true → P (.ref h6.length) (h6 ++ [Ob.lst [D.tup [D.str [106, 111, 105, 110], D.str l, D.tup (toDs ts)], D.ref lq']]) := fun l gl => by
              refine k (.join l ts) _ lq' _ rr bb ⟨gl, V.gd⟩ (by omega) V.ls app_at (app_old (b6.2 _ _ V.ls (app_old V.ro))) V.r0 ?_ V.b0 ?_ s6.app ((((b2.trans V.but).trans But.app).trans b6).trans But.app)
              · simp only [siz]
                omega
              · simp only [bnd]
                omega
            refine ⟨by simp [big], by simp [big], ?_⟩
            simp only [List.mem_cons, List.not_mem_nil, or_false] at hd
            rcases hd with rfl | rfl | rfl
            · exact fin [102] (by decide +kernel)
            · exact fin [120] (by decide +kernel)
            · exact fin [106, 111, 105, 110] (by decide +kernel)
        by_cases c2 : (0 : Int) < b
        · simp only [decide_eq_true c2, if_true, w_ifS, w_bin, w_app, w_call, w_cons, w_nil, w_tup, w_lst, w_if, w_tb, w_not, w_and, w_or, w_c, w_v, w_un, w_int, w_intB, w_addI, w_subI, w_lt, w_le, w_gt, w_ge, w_eqI, w_methL, startE, List.map_cons, List.map_nil, List.cons_append, List.nil_append, List.getElem?_cons_zero, List.getElem?_cons_succ, List.set_cons_zero, List.set_cons_succ, ok1_some, at0, at1, at2, at3, w_ixT, List.length_cons, List.length_nil, Nat.reduceAdd, Nat.reduceSub, Nat.zero_add, List.replicate_succ, List.replicate_zero]
          rw [lv1]
          refine take_ok s1 (by omega) (by omega) fun t2 h2 _ _ s2 b2 _ => ?_
          simp only [w_ifS, w_bin, w_app, w_call, w_cons, w_nil, w_tup, w_lst, w_if, w_tb, w_not, w_and, w_or, w_c, w_v, w_un, w_int, w_intB, w_addI, w_subI, w_lt, w_le, w_gt, w_ge, w_eqI, w_methL, startE, List.map_cons, List.map_nil, List.cons_append, List.nil_append, List.getElem?_cons_zero, List.getElem?_cons_succ, List.set_cons_zero, List.set_cons_succ, ok1_some, at0, at1, at2, at3, w_ixT, List.length_cons, List.length_nil, Nat.reduceAdd, Nat.reduceSub, Nat.zero_add, List.replicate_succ, List.replicate_zero]
          refine ⟨_, rfl, ?_⟩
          rw [← lv1]
          cases q2 : decide (0 < t2) with
          | true =>
            simp only [if_true, w_seq, w_ifS, w_set, w_ret, w_par, w_asg, w_sub, w_drop, w_pass, w_bin, w_app, w_call, w_cons, w_nil, w_tup, w_lst, w_if, w_tb, w_not, w_and, w_or, w_c, w_v, w_un, w_int, w_intB, w_addI, w_subI, w_lt, w_le, w_gt, w_ge, w_eqI, w_methL, startE, List.map_cons, List.map_nil, List.cons_append, List.nil_append, List.getElem?_cons_zero, List.getElem?_cons_succ, List.set_cons_zero, List.set_cons_succ, ok1_some, at0, at1, at2, at3, w_ixT, List.length_cons, List.length_nil, Nat.reduceAdd, Nat.reduceSub, Nat.zero_add, List.replicate_succ, List.replicate_zero]
            have e2 : h2[q]? = some (.lst [.int r, .int b]) := b2.2 _ _ nq e1
            refine bound_ok G (by omega) (by omega) (by omega) (by omega) s2 (hw.but (b1.trans b2) nw) nw e2 nq ?_
            intro t p q' h' r' b' gt ps qs z1 z2 z3 z4 z5 z6 z7 z8
            exact k t p q' h' r' b' gt ps qs z1 z2 z3 z4 z5 z6 z7 ((b1.trans b2).trans z8)
          | false =>
            simp only [Bool.false_eq_true, if_false, w_pass]
            exact rest h2 s2 (b1.trans b2)
        · simp only [decide_eq_false c2, Bool.false_eq_true, if_false, w_pass]
          exact rest h1 s1 b1
end K1
end L2.Lv
end
section
set_option maxRecDepth 100000
set_option maxHeartbeats 1000000
set_option autoImplicit false
namespace L2.Lv
namespace K1
open PySem
/-! ### data at hand -/
mutual
theorem okD_tree {h : Hm} : ∀ (t : Tr) (n : Nat), 2 * siz t + 1 ≤ n → good t → okD n h (toD t) = true
  | .use a, n, hn, g => by
    obtain ⟨k, rfl⟩ : ∃ k, n = k + 2 := ⟨n - 2, by simp [siz] at hn; omega⟩
    have g : goodN a = true := g
    unfold goodN at g
    simp only [Bool.and_eq_true] at g
    simp only [toD, okD, List.all_cons, List.all_nil, Bool.and_true, Bool.and_eq_true]
    exact ⟨by decide, g.2⟩
  | .join l ts, n, hn, g => by
    obtain ⟨k, rfl⟩ : ∃ k, n = k + 2 := ⟨n - 2, by simp [siz] at hn; omega⟩
    obtain ⟨gl, gt⟩ := g
    unfold goodN at gl
    simp only [Bool.and_eq_true] at gl
    simp only [toD, okD, List.all_cons, List.all_nil, Bool.and_true, Bool.and_eq_true]
    refine ⟨by decide, gl.2, okD_trees ts k (by simp only [siz] at hn; omega) gt⟩
  | .bind a ah b, n, hn, g => by
    obtain ⟨k, rfl⟩ : ∃ k, n = k + 2 := ⟨n - 2, by simp [siz] at hn; omega⟩
    obtain ⟨gl, gt, gb⟩ := g
    unfold goodN at gl
    simp only [Bool.and_eq_true] at gl
    have h1 := okD_tree (h := h) b (k + 1) (by simp only [siz] at hn; omega) gb
    simp only [toD, List.all_cons, List.all_nil, Bool.and_true, Bool.and_eq_true]
    show (okD (k + 1) h (.str tBind) && (okD (k + 1) h (.str a) && (okD (k + 1) h (.tup (toDs ah)) && (okD (k + 1) h (toD b) && true)))) = true
    rw [h1]
    simp only [okD, Bool.and_true, Bool.and_eq_true]
    exact ⟨by decide, gl.2, okD_trees ah k (by simp only [siz] at hn; omega) gt⟩
theorem okD_trees {h : Hm} : ∀ (ts : List Tr) (n : Nat), 2 * sizs ts + 1 ≤ n → goods ts → (toDs ts).all (okD n h) = true
  | [], _, _, _ => rfl
  | t :: ts, n, hn, g => by
    simp only [toDs, List.all_cons, Bool.and_eq_true]
    simp only [sizs] at hn
    exact ⟨okD_tree t n (by omega) g.1, okD_trees ts n (by omega) g.2⟩
end
theorem eqL_refl {f : D → D → Bool} : ∀ {l : List D}, (∀ x ∈ l, f x x = true) → eqL f l l = true
  | [], _ => rfl
  | x :: l, h => by
    unfold eqL
    rw [h x List.mem_cons_self, eqL_refl fun y hy => h y (List.mem_cons_of_mem _ hy)]
    rfl
theorem eqB_refl {h : Hm} : ∀ (n : Nat) (d : D), okD n h d = true → eqB n h d d = true
  | 0, _, e => by cases e
  | n + 1, d, e => by
    cases d with
    | non => rfl
    | bl b => simp [eqB]
    | int i => simp [eqB]
    | str s => simp [eqB]
    | tup xs =>
      show eqL (eqB n h) xs xs = true
      exact eqL_refl fun x hx => eqB_refl n x (List.all_eq_true.mp e x hx)
    | ref i =>
      obtain ⟨xs, e1, e2⟩ := okD_ref e
      show (match itemsOf h i, itemsOf h i with | some xs, some ys => eqL (eqB n h) xs ys | _, _ => false) = true
      rw [e1]
      exact eqL_refl fun x hx => eqB_refl n x (List.all_eq_true.mp e2 x hx)
/-- two lists at hand with the same values -/
theorem okD_lst {h : Hm} {i n : Nat} {xs : List D} (e : itemsOf h i = some xs) (q : xs.all (okD n h) = true) : okD (n + 1) h (.ref i) = true := by
  unfold okD
  unfold itemsOf at e
  cases z : h[i]? with
  | none => rw [z] at e; cases e
  | some ob =>
    rw [z] at e
    cases ob <;> cases e <;> (simp only [z]; exact q)
theorem eqB_lsts {h : Hm} {i j n : Nat} {xs ys : List D} (e1 : itemsOf h i = some xs) (e2 : itemsOf h j = some ys) : eqB (n + 1) h (.ref i) (.ref j) = eqL (eqB n h) xs ys := by
  show (match itemsOf h i, itemsOf h j with | some xs, some ys => eqL (eqB n h) xs ys | _, _ => false) = _
  rw [e1, e2]
theorem w_eq {x y : D} {h : Hm} {P : D → Hm → Prop} (a : okD deep h x = true) (b : okD deep h y = true) : Ok (pEq x y h) P ↔ P (.bl (eqB deep h x y)) h := by
  unfold pEq
  rw [a, b]
  exact Iff.rfl
theorem w_ne {x y : D} {h : Hm} {P : D → Hm → Prop} (a : okD deep h x = true) (b : okD deep h y = true) : Ok (pNe x y h) P ↔ P (.bl (!eqB deep h x y)) h := by
  unfold pNe
  rw [a, b]
  exact Iff.rfl
/-! ### leaves, nested trees -/
theorem leaves_ok {m s w i k : Nat} {e0 : En} {h : Hm} {P : D → Hm → Prop} (hs : Src0 h s) (hw : Names h w) (nw : w ≠ s) (i0 : i ≠ 0) (i1 : i ≠ 1) (q0 : e0[0]? = some (some (.ref s))) (q1 : e0[1]? = some (some (.ref w))) (hk : k < 100)
    (kk : ∀ (ts : List Tr) (h' : Hm), ts.length = k → goods ts → sizs ts = k → bnds ts = 0 → h'[h.length]? = some (.lst (toDs ts)) → Src0 h' s → But s h h' → P (.ref h.length) h') :
    Ok (mCLoop (.fix (intsR 0 k)) (gSet i) mYes (mCall (cl (m + 3) 31) (mCons (mVar 0) (mCons (mVar 1) mNil))) e0 h.length lots 0 (h ++ [.lst []])) P := by
  have ls := hs.lt
  have np : h.length ≠ s := by omega
  have lk : (intsR 0 k).length = k := intsR_len
  refine cloop_fix (fun j acc hx => ∃ ts : List Tr, acc = toDs ts ∧ ts.length = j ∧ goods ts ∧ sizs ts = j ∧ bnds ts = 0 ∧ hx[h.length]? = some (.lst acc) ∧ Src0 hx s ∧ But s h hx) (fun j acc hx v => ?_) (fun j x acc hx hj v => ?_) (fun acc hx v => ?_) k lots 0 [] _ (by rw [lk]; omega) (by unfold lots; omega) ⟨[], rfl, rfl, trivial, rfl, rfl, app_at, hs.app, But.app⟩
  · obtain ⟨_, _, _, _, _, _, q, _⟩ := v
    exact q
  · obtain ⟨ts, rfl, tl, g, sz, bz, q, s1, b1⟩ := v
    have jl : j < k := by
      rw [← lk]
      exact (List.getElem?_eq_some_iff.mp hj).1
    refine ⟨_, rfl, ?_⟩
    have r0 : (e0.set i (some x))[0]? = some (some (.ref s)) := by rw [List.getElem?_set_ne i0]; exact q0
    have r1 : (e0.set i (some x))[1]? = some (some (.ref w)) := by rw [List.getElem?_set_ne i1]; exact q1
    simp only [w_call, w_cons, w_nil, w_var r0, w_var r1]
    refine leaf_ok s1 (hw.but b1 nw) nw fun t h2 gt st bt s2 b2 _ => ?_
    have q2 := b2.2 _ _ np q
    refine ⟨_, q2, by rw [toDs_map, List.length_map]; unfold big; omega, ts ++ [t], ?_, by simp [tl], (goods_app ts [t]).mpr ⟨g, gt, trivial⟩, ?_, ?_, ?_, s2.put np, (b1.trans b2).put (Nat.le_refl _)⟩
    · rw [toDs_map, toDs_map, List.map_append]
      rfl
    · rw [sizs_app]
      simp [sizs, sz, st]
    · rw [bnds_app]
      simp [bnds, bz, bt]
    · rw [List.getElem?_set_self (lt_of_at q2)]
  · obtain ⟨ts, rfl, tl, g, sz, bz, q, s1, b1⟩ := v
    rw [lk] at tl sz
    exact kk ts hx tl g sz bz q s1 b1
end K1
end L2.Lv
end
section
set_option maxRecDepth 100000
set_option maxHeartbeats 1000000
set_option autoImplicit false
namespace L2.Lv
namespace K1
open PySem
theorem w_addL {i j : Nat} {xs ys : List D} {h : Hm} {P : D → Hm → Prop} (e1 : h[i]? = some (.lst xs)) (e2 : h[j]? = some (.lst ys)) (c : xs.length + ys.length ≤ big) : Ok (pAdd (.ref i) (.ref j) h) P ↔ P (.ref h.length) (h ++ [.lst (xs ++ ys)]) := by
  unfold pAdd
  simp only [e1, e2]
  rw [if_pos c]
  exact Iff.rfl
theorem nested_ok {m s w : Nat} {dp : Int} {h : Hm} {P : D → Hm → Prop} (hs : Src0 h s) (hw : Names h w) (nw : w ≠ s) (d0 : 0 ≤ dp) (d1 : dp ≤ 3)
    (k : ∀ (t : Tr) (h' : Hm), good t → siz t ≤ 17 → bnd t ≤ 3 → Src0 h' s → But s h h' → P (toD t) h') : Ok (cl (m + 4) 34 [.ref s, .ref w, .int dp] h) P := by
  rw [c_34]
  refine ok_body rfl ?_
  unfold b_34
  rw [w_seq, w_set]
  simp only [w_ifS, w_bin, w_app, w_call, w_cons, w_nil, w_tup, w_lst, w_if, w_tb, w_not, w_and, w_or, w_c, w_v, w_un, w_int, w_intB, w_addI, w_subI, w_lt, w_le, w_gt, w_ge, w_eqI, w_methL, startE, List.map_cons, List.map_nil, List.cons_append, List.nil_append, List.getElem?_cons_zero, List.getElem?_cons_succ, List.set_cons_zero, List.set_cons_succ, ok1_some, at0, at1, at2, at3, w_ixT, List.length_cons, List.length_nil, Nat.reduceAdd, Nat.reduceSub, Nat.zero_add, List.replicate_succ, List.replicate_zero]
  rw [w_comp, w_rng1]
  simp only [w_ifS, w_bin, w_app, w_call, w_cons, w_nil, w_tup, w_lst, w_if, w_tb, w_not, w_and, w_or, w_c, w_v, w_un, w_int, w_intB, w_addI, w_subI, w_lt, w_le, w_gt, w_ge, w_eqI, w_methL, startE, List.map_cons, List.map_nil, List.cons_append, List.nil_append, List.getElem?_cons_zero, List.getElem?_cons_succ, List.set_cons_zero, List.set_cons_succ, ok1_some, at0, at1, at2, at3, w_ixT, List.length_cons, List.length_nil, Nat.reduceAdd, Nat.reduceSub, Nat.zero_add, List.replicate_succ, List.replicate_zero]
  have lv1 : m + 3 = (m + 2) + 1 := rfl
  have lv2 : m + 3 = (m + 1) + 2 := rfl
  rw [lv1]
  refine take_ok hs (by omega) (by omega) fun t1 h1 t10 t11 s1 b1 _ => ?_
  simp only [w_ifS, w_bin, w_app, w_call, w_cons, w_nil, w_tup, w_lst, w_if, w_tb, w_not, w_and, w_or, w_c, w_v, w_un, w_int, w_intB, w_addI, w_subI, w_lt, w_le, w_gt, w_ge, w_eqI, w_methL, startE, List.map_cons, List.map_nil, List.cons_append, List.nil_append, List.getElem?_cons_zero, List.getElem?_cons_succ, List.set_cons_zero, List.set_cons_succ, ok1_some, at0, at1, at2, at3, w_ixT, List.length_cons, List.length_nil, Nat.reduceAdd, Nat.reduceSub, Nat.zero_add, List.replicate_succ, List.replicate_zero]
  refine ⟨_, rfl, small_of (by omega) (by omega), ?_⟩
  refine leaves_ok (m := m) s1 (hw.but b1 nw) nw (by decide) (by decide) rfl rfl (by omega) fun ts0 h2 tl g2 sz2 bz2 q2 s2 b2 => ?_
  rw [w_tupleL (items_l q2) (by rw [toDs_map, List.length_map]; unfold big; omega)]
  refine ⟨by simp [big], ?_⟩
  rw [w_seq, w_for, w_rng1]
  simp only [w_ifS, w_bin, w_app, w_call, w_cons, w_nil, w_tup, w_lst, w_if, w_tb, w_not, w_and, w_or, w_c, w_v, w_un, w_int, w_intB, w_addI, w_subI, w_lt, w_le, w_gt, w_ge, w_eqI, w_methL, startE, List.map_cons, List.map_nil, List.cons_append, List.nil_append, List.getElem?_cons_zero, List.getElem?_cons_succ, List.set_cons_zero, List.set_cons_succ, ok1_some, at0, at1, at2, at3, w_ixT, List.length_cons, List.length_nil, Nat.reduceAdd, Nat.reduceSub, Nat.zero_add, List.replicate_succ, List.replicate_zero]
  refine ⟨dp, rfl, small_of d0 (by omega), ?_⟩
  have lj : (intsR 0 dp.toNat).length = dp.toNat := intsR_len
  have g0 : good (.join [102] ts0) := ⟨by decide +kernel, g2⟩
  refine loop_fix (fun i e hx => ∃ (t : Tr) (x4 x5 x6 x7 x8 : Option D), e = [some (.ref s), some (.ref w), some (.int dp), some (toD t), x4, x5, x6, x7, x8] ∧ good t ∧ siz t ≤ 5 + 4 * i ∧ bnd t = i ∧ Src0 hx s ∧ But s h hx) ?_ ?_ dp.toNat lots 0 _ h2 (by rw [lj]; omega) (by unfold lots; omega)
    ⟨.join [102] ts0, none, none, none, none, none, rfl, g0, by simp only [siz]; omega, by simp only [bnd]; omega, s2, b1.trans b2⟩
  · rintro i x e hx hi ⟨t, x4, x5, x6, x7, x8, rfl, gt, st, bt, s3, b3⟩
    have il : i < dp.toNat := by
      rw [← lj]
      exact (List.getElem?_eq_some_iff.mp hi).1
    refine ⟨_, rfl, ?_⟩
    show OkS (mSeq _ _ [some (.ref s), some (.ref w), some (.int dp), some (toD t), some x, x5, x6, x7, x8] hx) _ _
    rw [w_seq, w_set, w_comp, w_rng1]
    simp only [w_ifS, w_bin, w_app, w_call, w_cons, w_nil, w_tup, w_lst, w_if, w_tb, w_not, w_and, w_or, w_c, w_v, w_un, w_int, w_intB, w_addI, w_subI, w_lt, w_le, w_gt, w_ge, w_eqI, w_methL, startE, List.map_cons, List.map_nil, List.cons_append, List.nil_append, List.getElem?_cons_zero, List.getElem?_cons_succ, List.set_cons_zero, List.set_cons_succ, ok1_some, at0, at1, at2, at3, w_ixT, List.length_cons, List.length_nil, Nat.reduceAdd, Nat.reduceSub, Nat.zero_add, List.replicate_succ, List.replicate_zero]
    refine take_ok s3 (by omega) (by omega) fun t2 h3 t20 t21 s4 b4 _ => ?_
    refine ⟨t2, rfl, small_of t20 (by omega), ?_⟩
    have b34 := b3.trans b4
    refine leaves_ok (m := m) s4 (hw.but b34 nw) nw (by decide) (by decide) rfl rfl (by omega) fun ts h4 tl4 g4 sz4 bz4 q4 s5 b5 => ?_
    have b35 := b34.trans b5
    have l3 := s4.lt
    have np : h3.length ≠ s := by omega
    -- the core
    have core : ∃ c : Tr, good c ∧ siz c ≤ siz t + 2 ∧ bnd c = bnd t ∧ ∀ (N : D → Hm → Prop), (∀ h5, Src0 h5 s → But s h4 h5 → N (toD c) h5) →
        Ok (mIf (mTb (mBin pEq (mVar 5) (mLst mNil))) (mVar 3) (mTup (mCons (mC (.str [106, 111, 105, 110])) (mCons (mC (.str [103])) (mCons (mApp pTuple (mCons (mBin pAdd (mVar 5) (mLst (mCons (mVar 3) mNil))) mNil)) mNil)))) [some (.ref s), some (.ref w), some (.int dp), some (toD t), some x, some (.ref h3.length), x6, x7, x8] h4) N := by
      have q5 : (h4 ++ [Ob.lst []])[h3.length]? = some (.lst (toDs ts)) := app_old q4
      have q6 : (h4 ++ [Ob.lst []])[h4.length]? = some (.lst []) := app_at
      have o1 : okD deep (h4 ++ [Ob.lst []]) (.ref h3.length) = true := okD_lst (n := 109) (items_l q5) (okD_trees ts 109 (by omega) g4)
      have o2 : okD deep (h4 ++ [Ob.lst []]) (.ref h4.length) = true := okD_lst (n := 109) (items_l q6) rfl
      have ev := eqB_lsts (n := 109) (items_l q5) (items_l q6)
      cases ts with
      | nil =>
        refine ⟨t, gt, by omega, rfl, fun N hN => ?_⟩
        simp only [w_ifS, w_bin, w_app, w_call, w_cons, w_nil, w_tup, w_lst, w_if, w_tb, w_not, w_and, w_or, w_c, w_v, w_un, w_int, w_intB, w_addI, w_subI, w_lt, w_le, w_gt, w_ge, w_eqI, w_methL, startE, List.map_cons, List.map_nil, List.cons_append, List.nil_append, List.getElem?_cons_zero, List.getElem?_cons_succ, List.set_cons_zero, List.set_cons_succ, ok1_some, at0, at1, at2, at3, w_ixT, List.length_cons, List.length_nil, Nat.reduceAdd, Nat.reduceSub, Nat.zero_add, List.replicate_succ, List.replicate_zero]
        refine ⟨by simp [big], ?_⟩
        rw [w_eq o1 o2]
        refine ⟨true, by rw [show deep = 109 + 1 from rfl, ev]; rfl, ?_⟩
        simp only [if_true, w_ifS, w_bin, w_app, w_call, w_cons, w_nil, w_tup, w_lst, w_if, w_tb, w_not, w_and, w_or, w_c, w_v, w_un, w_int, w_intB, w_addI, w_subI, w_lt, w_le, w_gt, w_ge, w_eqI, w_methL, startE, List.map_cons, List.map_nil, List.cons_append, List.nil_append, List.getElem?_cons_zero, List.getElem?_cons_succ, List.set_cons_zero, List.set_cons_succ, ok1_some, at0, at1, at2, at3, w_ixT, List.length_cons, List.length_nil, Nat.reduceAdd, Nat.reduceSub, Nat.zero_add, List.replicate_succ, List.replicate_zero]
        exact hN _ s5.app But.app
      | cons a ts =>
        refine ⟨.join [103] ((a :: ts) ++ [t]), ⟨by decide +kernel, (goods_app _ _).mpr ⟨g4, gt, trivial⟩⟩, ?_, ?_, fun N hN => ?_⟩
        · simp only [siz, sizs_app]
          simp only [sizs] at sz4 ⊢
          omega
        · simp only [bnd, bnds_app]
          simp only [bnds] at bz4 ⊢
          omega
        simp only [w_ifS, w_bin, w_app, w_call, w_cons, w_nil, w_tup, w_lst, w_if, w_tb, w_not, w_and, w_or, w_c, w_v, w_un, w_int, w_intB, w_addI, w_subI, w_lt, w_le, w_gt, w_ge, w_eqI, w_methL, startE, List.map_cons, List.map_nil, List.cons_append, List.nil_append, List.getElem?_cons_zero, List.getElem?_cons_succ, List.set_cons_zero, List.set_cons_succ, ok1_some, at0, at1, at2, at3, w_ixT, List.length_cons, List.length_nil, Nat.reduceAdd, Nat.reduceSub, Nat.zero_add, List.replicate_succ, List.replicate_zero]
        refine ⟨by simp [big], ?_⟩
        rw [w_eq o1 o2]
        refine ⟨false, by rw [show deep = 109 + 1 from rfl, ev]; rfl, ?_⟩
        simp only [Bool.false_eq_true, if_false, w_ifS, w_bin, w_app, w_call, w_cons, w_nil, w_tup, w_lst, w_if, w_tb, w_not, w_and, w_or, w_c, w_v, w_un, w_int, w_intB, w_addI, w_subI, w_lt, w_le, w_gt, w_ge, w_eqI, w_methL, startE, List.map_cons, List.map_nil, List.cons_append, List.nil_append, List.getElem?_cons_zero, List.getElem?_cons_succ, List.set_cons_zero, List.set_cons_succ, ok1_some, at0, at1, at2, at3, w_ixT, List.length_cons, List.length_nil, Nat.reduceAdd, Nat.reduceSub, Nat.zero_add, List.replicate_succ, List.replicate_zero]
        refine ⟨by simp [big], ?_⟩
        have q7 : (h4 ++ [Ob.lst []] ++ [Ob.lst [toD t]])[h3.length]? = some (.lst (toDs (a :: ts))) := app_old q5
        rw [w_addL q7 app_at (by rw [toDs_map, List.length_map]; simp only [List.length_cons, List.length_nil] at tl4 ⊢; unfold big; omega)]
        rw [w_tupleL (items_l app_at) (by rw [toDs_map, List.length_append, List.length_map]; simp only [List.length_cons, List.length_nil] at tl4 ⊢; unfold big; omega)]
        refine ⟨by simp [big], ?_⟩
        have ee : toDs (a :: ts) ++ [toD t] = toDs ((a :: ts) ++ [t]) := by
          rw [toDs_map, toDs_map, List.map_append]
          rfl
        rw [ee]
        exact hN _ s5.app.app.app ((But.app.trans But.app).trans But.app)
    obtain ⟨c, gc, sc, bc, kc⟩ := core
    rw [w_seq, w_set]
    refine kc _ fun h5 s6 b6 => ?_
    rw [w_seq, w_set]
    have b36 := b35.trans b6
    simp only [w_ifS, w_bin, w_app, w_call, w_cons, w_nil, w_tup, w_lst, w_if, w_tb, w_not, w_and, w_or, w_c, w_v, w_un, w_int, w_intB, w_addI, w_subI, w_lt, w_le, w_gt, w_ge, w_eqI, w_methL, startE, List.map_cons, List.map_nil, List.cons_append, List.nil_append, List.getElem?_cons_zero, List.getElem?_cons_succ, List.set_cons_zero, List.set_cons_succ, ok1_some, at0, at1, at2, at3, w_ixT, List.length_cons, List.length_nil, Nat.reduceAdd, Nat.reduceSub, Nat.zero_add, List.replicate_succ, List.replicate_zero]
    refine take_ok s6 (by omega) (by omega) fun t3 h6 t30 t31 s7 b7 _ => ?_
    simp only [w_ifS, w_bin, w_app, w_call, w_cons, w_nil, w_tup, w_lst, w_if, w_tb, w_not, w_and, w_or, w_c, w_v, w_un, w_int, w_intB, w_addI, w_subI, w_lt, w_le, w_gt, w_ge, w_eqI, w_methL, startE, List.map_cons, List.map_nil, List.cons_append, List.nil_append, List.getElem?_cons_zero, List.getElem?_cons_succ, List.set_cons_zero, List.set_cons_succ, ok1_some, at0, at1, at2, at3, w_ixT, List.length_cons, List.length_nil, Nat.reduceAdd, Nat.reduceSub, Nat.zero_add, List.replicate_succ, List.replicate_zero]
    refine ⟨_, rfl, ?_⟩
    have b37 := b36.trans b7
    have fin : ∀ (ah : List Tr) (h7 : Hm), goods ah → ah.length ≤ 1 → sizs ah ≤ 1 → bnds ah = 0 → Src0 h7 s → But s h h7 → ∀ p : Nat, h7[p]? = some (.lst (toDs ah)) → p ≠ s →
        OkS (mSet 3 (mTup (mCons (mC (.str [98, 105, 110, 100])) (mCons (mCall (cl (m + 3) 29) (mCons (mVar 0) (mCons (mVar 1) mNil))) (mCons (mApp pTuple (mCons (mVar 8) mNil)) (mCons (mVar 7) mNil))))) [some (.ref s), some (.ref w), some (.int dp), some (toD t), some x, some (.ref h3.length), x6, some (toD c), some (.ref p)] h7)
          (fun e hx => ∃ (t : Tr) (x4 x5 x6 x7 x8 : Option D), e = [some (.ref s), some (.ref w), some (.int dp), some (toD t), x4, x5, x6, x7, x8] ∧ good t ∧ siz t ≤ 5 + 4 * (i + 1) ∧ bnd t = i + 1 ∧ Src0 hx s ∧ But s h hx) P := by
      intro ah h7 ga la sa ba s8 b8 p qp nps
      rw [w_set]
      simp only [w_ifS, w_bin, w_app, w_call, w_cons, w_nil, w_tup, w_lst, w_if, w_tb, w_not, w_and, w_or, w_c, w_v, w_un, w_int, w_intB, w_addI, w_subI, w_lt, w_le, w_gt, w_ge, w_eqI, w_methL, startE, List.map_cons, List.map_nil, List.cons_append, List.nil_append, List.getElem?_cons_zero, List.getElem?_cons_succ, List.set_cons_zero, List.set_cons_succ, ok1_some, at0, at1, at2, at3, w_ixT, List.length_cons, List.length_nil, Nat.reduceAdd, Nat.reduceSub, Nat.zero_add, List.replicate_succ, List.replicate_zero]
      rw [lv2]
      refine name_ok s8 (hw.but b8 nw) nw fun nm h8 gn s9 b9 _ => ?_
      rw [w_tupleL (items_l (b9.2 _ _ nps qp)) (by rw [toDs_map, List.length_map]; unfold big; omega)]
      refine ⟨by simp [big], .bind nm ah c, _, _, _, _, _, rfl, ⟨gn, ga, gc⟩, ?_, ?_, s9, b8.trans b9⟩
      · simp only [siz]
        omega
      · simp only [bnd]
        omega
    cases q9 : (t3 == 0) with
    | true =>
      simp only [if_true, w_ifS, w_bin, w_app, w_call, w_cons, w_nil, w_tup, w_lst, w_if, w_tb, w_not, w_and, w_or, w_c, w_v, w_un, w_int, w_intB, w_addI, w_subI, w_lt, w_le, w_gt, w_ge, w_eqI, w_methL, startE, List.map_cons, List.map_nil, List.cons_append, List.nil_append, List.getElem?_cons_zero, List.getElem?_cons_succ, List.set_cons_zero, List.set_cons_succ, ok1_some, at0, at1, at2, at3, w_ixT, List.length_cons, List.length_nil, Nat.reduceAdd, Nat.reduceSub, Nat.zero_add, List.replicate_succ, List.replicate_zero]
      refine leaf_ok s7 (hw.but b37 nw) nw fun lf h7 gl sl bl s8 b8 _ => ?_
      have l7 := s8.lt
      refine ⟨by simp [big], ?_⟩
      exact fin [lf] _ ⟨gl, trivial⟩ (by simp) (by simp [sizs, sl]) (by simp [bnds, bl]) s8.app ((b37.trans b8).trans But.app) _ app_at (by omega)
    | false =>
      simp only [Bool.false_eq_true, if_false, w_ifS, w_bin, w_app, w_call, w_cons, w_nil, w_tup, w_lst, w_if, w_tb, w_not, w_and, w_or, w_c, w_v, w_un, w_int, w_intB, w_addI, w_subI, w_lt, w_le, w_gt, w_ge, w_eqI, w_methL, startE, List.map_cons, List.map_nil, List.cons_append, List.nil_append, List.getElem?_cons_zero, List.getElem?_cons_succ, List.set_cons_zero, List.set_cons_succ, ok1_some, at0, at1, at2, at3, w_ixT, List.length_cons, List.length_nil, Nat.reduceAdd, Nat.reduceSub, Nat.zero_add, List.replicate_succ, List.replicate_zero]
      have l6 := s7.lt
      refine ⟨by simp [big], ?_⟩
      exact fin [] _ trivial (by simp) (by simp [sizs]) (by simp [bnds]) s7.app (b37.trans But.app) _ app_at (by omega)
  · rintro e hx ⟨t, x4, x5, x6, x7, x8, rfl, gt, st, bt, s3, b3⟩
    rw [lj] at st bt
    simp only [w_seq, w_ifS, w_set, w_ret, w_par, w_asg, w_sub, w_drop, w_pass, w_bin, w_app, w_call, w_cons, w_nil, w_tup, w_lst, w_if, w_tb, w_not, w_and, w_or, w_c, w_v, w_un, w_int, w_intB, w_addI, w_subI, w_lt, w_le, w_gt, w_ge, w_eqI, w_methL, startE, List.map_cons, List.map_nil, List.cons_append, List.nil_append, List.getElem?_cons_zero, List.getElem?_cons_succ, List.set_cons_zero, List.set_cons_succ, ok1_some, at0, at1, at2, at3, w_ixT, List.length_cons, List.length_nil, Nat.reduceAdd, Nat.reduceSub, Nat.zero_add, List.replicate_succ, List.replicate_zero]
    exact k t hx gt (by omega) (by omega) s3 b3
end K1
end L2.Lv
end
section
set_option maxRecDepth 100000
set_option maxHeartbeats 1000000
set_option autoImplicit false
namespace L2.Lv
namespace K1
open PySem
theorem words_ok {m s : Nat} {h : Hm} {P : D → Hm → Prop} (hs : Src0 h s) (k : ∀ (w : Nat) (h' : Hm), Names h' w → w ≠ s → Src0 h' s → But s h h' → P (.ref w) h') : Ok (cl (m + 3) 30 [.ref s] h) P := by
  rw [c_30]
  refine ok_body rfl ?_
  unfold b_30
  simp only [w_seq, w_ifS, w_set, w_ret, w_par, w_asg, w_sub, w_drop, w_pass, w_bin, w_app, w_call, w_cons, w_nil, w_tup, w_lst, w_if, w_tb, w_not, w_and, w_or, w_c, w_v, w_un, w_int, w_intB, w_addI, w_subI, w_lt, w_le, w_gt, w_ge, w_eqI, w_methL, startE, List.map_cons, List.map_nil, List.cons_append, List.nil_append, List.getElem?_cons_zero, List.getElem?_cons_succ, List.set_cons_zero, List.set_cons_succ, ok1_some, at0, at1, at2, at3, w_ixT, List.length_cons, List.length_nil, Nat.reduceAdd, Nat.reduceSub, Nat.zero_add, List.replicate_succ, List.replicate_zero]
  have ls := hs.lt
  refine ⟨by simp [big], by simp [big], by simp [big], by simp [big], by simp [big], ?_⟩
  have s5 := (((((hs.app (l := [Ob.lst [D.str [120], D.str [121]]])).app (l := [Ob.lst [D.str [120], D.str [121], D.str [122], D.str [97]]])).app (l := [Ob.lst [D.str [97], D.str [98], D.str [99], D.str [100], D.str [101], D.str [102]]])).app (l := [Ob.lst [D.str [120], D.str [97, 98, 99, 100, 101, 102, 103, 104], D.str [97, 97], D.str [98], D.str [122, 122]]])))
  refine one_ok (xs := [.ref h.length, .ref (h ++ [Ob.lst [D.str [120], D.str [121]]]).length, .ref (h ++ [Ob.lst [D.str [120], D.str [121]]] ++ [Ob.lst [D.str [120], D.str [121], D.str [122], D.str [97]]]).length, .ref (h ++ [Ob.lst [D.str [120], D.str [121]]] ++ [Ob.lst [D.str [120], D.str [121], D.str [122], D.str [97]]] ++ [Ob.lst [D.str [97], D.str [98], D.str [99], D.str [100], D.str [101], D.str [102]]]).length]) s5.app app_at (by simp; omega) (by simp) (by simp) fun d h6 hd s6 b6 _ => ?_
  have nm : ∀ (w : Nat) (ws : List (List Nat)), w ≠ s → (h ++ [Ob.lst [D.str [120], D.str [121]]] ++ [Ob.lst [D.str [120], D.str [121], D.str [122], D.str [97]]] ++ [Ob.lst [D.str [97], D.str [98], D.str [99], D.str [100], D.str [101], D.str [102]]] ++ [Ob.lst [D.str [120], D.str [97, 98, 99, 100, 101, 102, 103, 104], D.str [97, 97], D.str [98], D.str [122, 122]]])[w]? = some (.lst (ws.map D.str)) →
      0 < ws.length → ws.length < 100 → (∀ n ∈ ws, goodN n = true) → P (.ref w) h6 := fun w ws nw e l0 l1 g =>
    k w h6 ⟨ws, b6.2 _ _ nw (app_old e), l0, l1, g⟩ nw s6 (((((But.app.trans But.app).trans But.app).trans But.app).trans But.app).trans b6)
  simp only [List.mem_cons, List.not_mem_nil, or_false] at hd
  rcases hd with rfl | rfl | rfl | rfl
  · exact nm _ [[120], [121]] (by omega) (app_old (app_old (app_old app_at))) (by simp) (by simp) (by decide +kernel)
  · exact nm _ [[120], [121], [122], [97]] (by simp; omega) (app_old (app_old app_at)) (by simp) (by simp) (by decide +kernel)
  · exact nm _ [[97], [98], [99], [100], [101], [102]] (by simp; omega) (app_old app_at) (by simp) (by simp) (by decide +kernel)
  · exact nm _ [[120], [97, 98, 99, 100, 101, 102, 103, 104], [97, 97], [98], [122, 122]] (by simp; omega) app_at (by simp) (by simp) (by decide +kernel)
theorem w_min2 {i j : Int} {h : Hm} {P : D → Hm → Prop} : Ok (pMM minI [.int i, .int j] h) P ↔ P (.int (minI i j)) h := Iff.rfl
theorem w_max2 {i j : Int} {h : Hm} {P : D → Hm → Prop} : Ok (pMM maxI [.int i, .int j] h) P ↔ P (.int (maxI i j)) h := Iff.rfl
/-- grow from a room that is written here: the tree alone -/
theorem grow_ok {m s w q : Nat} {h : Hm} {r b : Int} {P : D → Hm → Prop} (hr : r ≤ 20) (r1 : 1 ≤ r) (b0 : 0 ≤ b) (hs : Src0 h s) (hw : Names h w) (nw : w ≠ s) (ro : Room0 h q r b) (nq : q ≠ s)
    (k : ∀ (t : Tr) (h' : Hm), good t → (siz t : Int) ≤ r → (bnd t : Int) ≤ b → Src0 h' s → But s h h' → P (toD t) h') : Ok (cl (43 + m) 32 [.ref s, .ref w, .ref q] h) fun x h1 => Ok (pIdx x (.int 0) h1) P := by
  refine grow_all 20 (by omega) m s w q h r b _ (by omega) r1 b0 hs hw nw ro nq ?_
  intro t p q' h' r' b' gt ps qs e1 ro' r0 rs b0' bs s' bt
  rw [w_ixL (items_l e1)]
  exact ⟨_, at0, k t h' gt (by omega) (by omega) s' bt⟩
theorem tree_ok {m s : Nat} {h : Hm} {P : D → Hm → Prop} (hs : Src0 h s) (k : ∀ (t : Tr) (h' : Hm), good t → siz t ≤ 21 → bnd t ≤ 20 → Src0 h' s → But s h h' → P (toD t) h') : Ok (cl (44 + m) 35 [.ref s, .int 20, .int 6] h) P := by
  rw [show 44 + m = (43 + m) + 1 by omega, c_35]
  refine ok_body rfl ?_
  unfold b_35
  have lv3 : 43 + m = (40 + m) + 3 := by omega
  have lv1 : 43 + m = (42 + m) + 1 := by omega
  have lv4 : 43 + m = (39 + m) + 4 := by omega
  rw [w_seq, w_par]
  simp only [w_ifS, w_bin, w_app, w_call, w_cons, w_nil, w_tup, w_lst, w_if, w_tb, w_not, w_and, w_or, w_c, w_v, w_un, w_int, w_intB, w_addI, w_subI, w_lt, w_le, w_gt, w_ge, w_eqI, w_methL, startE, List.map_cons, List.map_nil, List.cons_append, List.nil_append, List.getElem?_cons_zero, List.getElem?_cons_succ, List.set_cons_zero, List.set_cons_succ, ok1_some, at0, at1, at2, at3, w_ixT, List.length_cons, List.length_nil, Nat.reduceAdd, Nat.reduceSub, Nat.zero_add, List.replicate_succ, List.replicate_zero]
  rw [lv3]
  refine words_ok hs fun w h1 hw nw s1 b1 => ?_
  rw [← lv3, lv1]
  refine take_ok s1 (by omega) (by omega) fun t1 h2 t10 t11 s2 b2 _ => ?_
  have hw2 := hw.but b2 nw
  have b02 := b1.trans b2
  refine ⟨_, _, rfl, ?_⟩
  rw [w_seq]
  simp only [w_ifS, w_bin, w_app, w_call, w_cons, w_nil, w_tup, w_lst, w_if, w_tb, w_not, w_and, w_or, w_c, w_v, w_un, w_int, w_intB, w_addI, w_subI, w_lt, w_le, w_gt, w_ge, w_eqI, w_methL, startE, List.map_cons, List.map_nil, List.cons_append, List.nil_append, List.getElem?_cons_zero, List.getElem?_cons_succ, List.set_cons_zero, List.set_cons_succ, ok1_some, at0, at1, at2, at3, w_ixT, List.length_cons, List.length_nil, Nat.reduceAdd, Nat.reduceSub, Nat.zero_add, List.replicate_succ, List.replicate_zero]
  refine ⟨_, rfl, ?_⟩
  cases q1 : (t1 == 0) with
  | true =>
    simp only [if_true, w_seq, w_ifS, w_set, w_ret, w_par, w_asg, w_sub, w_drop, w_pass, w_bin, w_app, w_call, w_cons, w_nil, w_tup, w_lst, w_if, w_tb, w_not, w_and, w_or, w_c, w_v, w_un, w_int, w_intB, w_addI, w_subI, w_lt, w_le, w_gt, w_ge, w_eqI, w_methL, startE, List.map_cons, List.map_nil, List.cons_append, List.nil_append, List.getElem?_cons_zero, List.getElem?_cons_succ, List.set_cons_zero, List.set_cons_succ, ok1_some, at0, at1, at2, at3, w_ixT, List.length_cons, List.length_nil, Nat.reduceAdd, Nat.reduceSub, Nat.zero_add, List.replicate_succ, List.replicate_zero]
    rw [w_fd (by decide), w_min2]
    try simp only [w_ifS, w_bin, w_app, w_call, w_cons, w_nil, w_tup, w_lst, w_if, w_tb, w_not, w_and, w_or, w_c, w_v, w_un, w_int, w_intB, w_addI, w_subI, w_lt, w_le, w_gt, w_ge, w_eqI, w_methL, startE, List.map_cons, List.map_nil, List.cons_append, List.nil_append, List.getElem?_cons_zero, List.getElem?_cons_succ, List.set_cons_zero, List.set_cons_succ, ok1_some, at0, at1, at2, at3, w_ixT, List.length_cons, List.length_nil, Nat.reduceAdd, Nat.reduceSub, Nat.zero_add, List.replicate_succ, List.replicate_zero]
    refine take_ok s2 (by decide) (by decide) fun t2 h3 t20 t21 s3 b3 _ => ?_
    rw [← lv1, lv4]
    have h3' : t2 < 4 := by
      have : minI 6 (20 / 6) + 1 = 4 := by decide
      omega
    refine nested_ok s3 (hw2.but b3 nw) nw t20 (by omega) fun t h4 gt st bt s4 b4 => ?_
    exact k t h4 gt (by omega) (by omega) s4 ((b02.trans b3).trans b4)
  | false =>
    simp only [Bool.false_eq_true, if_false, w_pass]
    rw [w_seq]
    simp only [w_ifS, w_bin, w_app, w_call, w_cons, w_nil, w_tup, w_lst, w_if, w_tb, w_not, w_and, w_or, w_c, w_v, w_un, w_int, w_intB, w_addI, w_subI, w_lt, w_le, w_gt, w_ge, w_eqI, w_methL, startE, List.map_cons, List.map_nil, List.cons_append, List.nil_append, List.getElem?_cons_zero, List.getElem?_cons_succ, List.set_cons_zero, List.set_cons_succ, ok1_some, at0, at1, at2, at3, w_ixT, List.length_cons, List.length_nil, Nat.reduceAdd, Nat.reduceSub, Nat.zero_add, List.replicate_succ, List.replicate_zero]
    refine ⟨_, rfl, ?_⟩
    rw [← lv1]
    have l2 := s2.lt
    cases q2 : (t1 == 1) with
    | true =>
      simp only [if_true, w_seq, w_ifS, w_set, w_ret, w_par, w_asg, w_sub, w_drop, w_pass, w_bin, w_app, w_call, w_cons, w_nil, w_tup, w_lst, w_if, w_tb, w_not, w_and, w_or, w_c, w_v, w_un, w_int, w_intB, w_addI, w_subI, w_lt, w_le, w_gt, w_ge, w_eqI, w_methL, startE, List.map_cons, List.map_nil, List.cons_append, List.nil_append, List.getElem?_cons_zero, List.getElem?_cons_succ, List.set_cons_zero, List.set_cons_succ, ok1_some, at0, at1, at2, at3, w_ixT, List.length_cons, List.length_nil, Nat.reduceAdd, Nat.reduceSub, Nat.zero_add, List.replicate_succ, List.replicate_zero]
      rw [w_fd (by decide), w_fd (by decide)]
      refine ⟨by simp [big], ?_⟩
      have nq : h2.length ≠ s := by omega
      refine grow_ok (r := 10) (b := 3) (by omega) (by omega) (by omega) s2.app (hw2.but But.app nw) nw app_at nq fun ta h3 ga sa ba s3 b3 => ?_
      have e3 : Room0 h3 h2.length 10 3 := b3.2 _ _ nq app_at
      refine grow_ok (r := 10) (b := 3) (by omega) (by omega) (by omega) s3 ((hw2.but But.app nw).but b3 nw) nw e3 nq fun tb h4 gb sb bb s4 b4 => ?_
      refine ⟨_, _, rfl, ?_⟩
      refine ⟨by simp [big], by simp [big], ?_⟩
      exact k (.join [102] [ta, tb]) h4 ⟨by decide +kernel, ga, gb, trivial⟩ (by simp only [siz, sizs]; omega) (by simp only [bnd, bnds]; omega) s4 (((b02.trans But.app).trans b3).trans b4)
    | false =>
      simp only [Bool.false_eq_true, if_false, w_seq, w_ifS, w_set, w_ret, w_par, w_asg, w_sub, w_drop, w_pass, w_bin, w_app, w_call, w_cons, w_nil, w_tup, w_lst, w_if, w_tb, w_not, w_and, w_or, w_c, w_v, w_un, w_int, w_intB, w_addI, w_subI, w_lt, w_le, w_gt, w_ge, w_eqI, w_methL, startE, List.map_cons, List.map_nil, List.cons_append, List.nil_append, List.getElem?_cons_zero, List.getElem?_cons_succ, List.set_cons_zero, List.set_cons_succ, ok1_some, at0, at1, at2, at3, w_ixT, List.length_cons, List.length_nil, Nat.reduceAdd, Nat.reduceSub, Nat.zero_add, List.replicate_succ, List.replicate_zero]
      refine ⟨by simp [big], ?_⟩
      have nq : h2.length ≠ s := by omega
      refine grow_ok (r := 20) (b := 6) (by omega) (by omega) (by omega) s2.app (hw2.but But.app nw) nw app_at nq fun ta h3 ga sa ba s3 b3 => ?_
      exact k ta h3 ga (by omega) (by omega) s3 ((b02.trans But.app).trans b3)
end K1
end L2.Lv
end
section
set_option maxRecDepth 100000
set_option maxHeartbeats 1000000
set_option autoImplicit false
namespace L2.Lv
namespace K1
open PySem
theorem w_pw {i j : Int} {h : Hm} {P : D → Hm → Prop} (q : cPw i j = true) : Ok (pPw (.int i) (.int j) h) P ↔ P (.int (i ^ j.toNat)) h := by
  unfold pPw pInt
  simp only [q, if_true]
  exact Iff.rfl
theorem w_negI {a : ME} {e : En} {h : Hm} {P : D → Hm → Prop} : Ok (mNeg a e h) P ↔ Ok (a e h) fun x h1 => ∃ i, x = .int i ∧ P (.int (-i)) h1 := w_neg
theorem items_f {h : Hm} {n : Nat} {xs : List D} (q : h[n]? = some (.frz xs)) : itemsOf h n = some xs := by unfold itemsOf; rw [q]
theorem pool_ok {m sc : Nat} {ns : List Int} {kk : Int} {h : Hm} {P : D → Hm → Prop} (hs : h[sc]? = some (.frz (ns.map D.int))) (k0 : 0 ≤ kk) (k1 : kk < 100)
    (k : ∀ (s : Nat) (h' : Hm), s = h.length → Src0 h' s → (∀ (n : Nat) (ob : Ob), h[n]? = some ob → h'[n]? = some ob) → P (.ref s) h') : Ok (cl (m + 1) 27 [.ref sc, .int kk] h) P := by
  rw [c_27]
  refine ok_body rfl ?_
  unfold b_27
  have it := items_f hs
  rw [w_seq, w_set]
  simp only [w_ifS, w_bin, w_app, w_call, w_cons, w_nil, w_tup, w_lst, w_if, w_tb, w_not, w_and, w_or, w_c, w_v, w_un, w_int, w_intB, w_addI, w_subI, w_lt, w_le, w_gt, w_ge, w_eqI, w_methL, startE, List.map_cons, List.map_nil, List.cons_append, List.nil_append, List.getElem?_cons_zero, List.getElem?_cons_succ, List.set_cons_zero, List.set_cons_succ, ok1_some, at0, at1, at2, at3, w_ixT, List.length_cons, List.length_nil, Nat.reduceAdd, Nat.reduceSub, Nat.zero_add, List.replicate_succ, List.replicate_zero]
  rw [w_seq]
  simp only [w_ifS, w_bin, w_app, w_call, w_cons, w_nil, w_tup, w_lst, w_if, w_tb, w_not, w_and, w_or, w_c, w_v, w_un, w_int, w_intB, w_addI, w_subI, w_lt, w_le, w_gt, w_ge, w_eqI, w_methL, startE, List.map_cons, List.map_nil, List.cons_append, List.nil_append, List.getElem?_cons_zero, List.getElem?_cons_succ, List.set_cons_zero, List.set_cons_succ, ok1_some, at0, at1, at2, at3, w_ixT, List.length_cons, List.length_nil, Nat.reduceAdd, Nat.reduceSub, Nat.zero_add, List.replicate_succ, List.replicate_zero]
  rw [w_lenL it]
  refine ⟨_, rfl, ?_⟩
  have rest : ∀ cell : Int, OkS (mSeq (mSet 3 (mApp (pMM maxI) (mCons (mApp pInt1 (mCons (mVar 2) mNil)) (mCons (mApp pInt1 (mCons (mBin pSub (mNeg (mC (.int 1))) (mVar 2)) mNil)) mNil))))
      (mSeq (mSet 4 (mBin pMd (mApp pInt1 (mCons (mBin pMulA (mBin pAdd (mBin pAdd (mBin pAdd (mBin pMd (mApp pInt1 (mCons (mVar 3) mNil)) (mC (.int 2147483629))) (mBin pMulA (mBin pMulA (mC (.int 7919)) (mVar 1)) (mVar 1))) (mBin pMulA (mC (.int 31)) (mVar 1))) (mC (.int 17))) (mC (.int 48271))) mNil)) (mC (.int 2147483647))))
      (mRet (mLst (mCons (mBin pMulA (mVar 3) (mApp pInt1 (mCons (mBin pGe (mVar 3) (mBin pPw (mC (.int 10)) (mC (.int 18)))) mNil))) (mCons (mVar 4) mNil))))) [some (.ref sc), some (.int kk), some (.int cell), none, none] h) (fun _ h' => P .non h') P := by
    intro cell
    simp only [w_seq, w_ifS, w_set, w_ret, w_par, w_asg, w_sub, w_drop, w_pass, w_bin, w_app, w_call, w_cons, w_nil, w_tup, w_lst, w_if, w_tb, w_not, w_and, w_or, w_c, w_v, w_un, w_int, w_intB, w_addI, w_subI, w_lt, w_le, w_gt, w_ge, w_eqI, w_methL, startE, List.map_cons, List.map_nil, List.cons_append, List.nil_append, List.getElem?_cons_zero, List.getElem?_cons_succ, List.set_cons_zero, List.set_cons_succ, ok1_some, at0, at1, at2, at3, w_ixT, List.length_cons, List.length_nil, Nat.reduceAdd, Nat.reduceSub, Nat.zero_add, List.replicate_succ, List.replicate_zero, w_negI]
    refine ⟨_, rfl, ?_⟩
    simp only [w_seq, w_ifS, w_set, w_ret, w_par, w_asg, w_sub, w_drop, w_pass, w_bin, w_app, w_call, w_cons, w_nil, w_tup, w_lst, w_if, w_tb, w_not, w_and, w_or, w_c, w_v, w_un, w_int, w_intB, w_addI, w_subI, w_lt, w_le, w_gt, w_ge, w_eqI, w_methL, startE, List.map_cons, List.map_nil, List.cons_append, List.nil_append, List.getElem?_cons_zero, List.getElem?_cons_succ, List.set_cons_zero, List.set_cons_succ, ok1_some, at0, at1, at2, at3, w_ixT, List.length_cons, List.length_nil, Nat.reduceAdd, Nat.reduceSub, Nat.zero_add, List.replicate_succ, List.replicate_zero, w_max2]
    have p1 : (0 : Int) < 2147483647 := by decide
    have p2 : (0 : Int) < 2147483629 := by decide
    generalize maxI cell (-1 - cell) = bg
    rw [w_md p2, w_mul (mul_l (by decide) (by decide)), w_mul (mul_r (by omega) (by omega))]
    simp only [w_seq, w_ifS, w_set, w_ret, w_par, w_asg, w_sub, w_drop, w_pass, w_bin, w_app, w_call, w_cons, w_nil, w_tup, w_lst, w_if, w_tb, w_not, w_and, w_or, w_c, w_v, w_un, w_int, w_intB, w_addI, w_subI, w_lt, w_le, w_gt, w_ge, w_eqI, w_methL, startE, List.map_cons, List.map_nil, List.cons_append, List.nil_append, List.getElem?_cons_zero, List.getElem?_cons_succ, List.set_cons_zero, List.set_cons_succ, ok1_some, at0, at1, at2, at3, w_ixT, List.length_cons, List.length_nil, Nat.reduceAdd, Nat.reduceSub, Nat.zero_add, List.replicate_succ, List.replicate_zero]
    rw [w_mul (mul_l (by decide) (by decide))]
    simp only [w_seq, w_ifS, w_set, w_ret, w_par, w_asg, w_sub, w_drop, w_pass, w_bin, w_app, w_call, w_cons, w_nil, w_tup, w_lst, w_if, w_tb, w_not, w_and, w_or, w_c, w_v, w_un, w_int, w_intB, w_addI, w_subI, w_lt, w_le, w_gt, w_ge, w_eqI, w_methL, startE, List.map_cons, List.map_nil, List.cons_append, List.nil_append, List.getElem?_cons_zero, List.getElem?_cons_succ, List.set_cons_zero, List.set_cons_succ, ok1_some, at0, at1, at2, at3, w_ixT, List.length_cons, List.length_nil, Nat.reduceAdd, Nat.reduceSub, Nat.zero_add, List.replicate_succ, List.replicate_zero]
    rw [w_mul (mul_r (by decide) (by decide))]
    simp only [w_seq, w_ifS, w_set, w_ret, w_par, w_asg, w_sub, w_drop, w_pass, w_bin, w_app, w_call, w_cons, w_nil, w_tup, w_lst, w_if, w_tb, w_not, w_and, w_or, w_c, w_v, w_un, w_int, w_intB, w_addI, w_subI, w_lt, w_le, w_gt, w_ge, w_eqI, w_methL, startE, List.map_cons, List.map_nil, List.cons_append, List.nil_append, List.getElem?_cons_zero, List.getElem?_cons_succ, List.set_cons_zero, List.set_cons_succ, ok1_some, at0, at1, at2, at3, w_ixT, List.length_cons, List.length_nil, Nat.reduceAdd, Nat.reduceSub, Nat.zero_add, List.replicate_succ, List.replicate_zero]
    rw [w_md p1, w_pw (by decide)]
    simp only [w_seq, w_ifS, w_set, w_ret, w_par, w_asg, w_sub, w_drop, w_pass, w_bin, w_app, w_call, w_cons, w_nil, w_tup, w_lst, w_if, w_tb, w_not, w_and, w_or, w_c, w_v, w_un, w_int, w_intB, w_addI, w_subI, w_lt, w_le, w_gt, w_ge, w_eqI, w_methL, startE, List.map_cons, List.map_nil, List.cons_append, List.nil_append, List.getElem?_cons_zero, List.getElem?_cons_succ, List.set_cons_zero, List.set_cons_succ, ok1_some, at0, at1, at2, at3, w_ixT, List.length_cons, List.length_nil, Nat.reduceAdd, Nat.reduceSub, Nat.zero_add, List.replicate_succ, List.replicate_zero]
    rw [w_mul (by split <;> exact mul_r (by decide) (by decide))]
    refine ⟨by simp [big], ?_⟩
    refine k _ _ rfl ⟨_, _, app_at, Int.emod_nonneg _ (by decide), Int.emod_lt_of_pos _ p1⟩ fun n ob q => app_old q
  by_cases c : kk < (ns.map D.int).length
  · simp only [decide_eq_true c, if_true, w_set, w_ifS, w_bin, w_app, w_call, w_cons, w_nil, w_tup, w_lst, w_if, w_tb, w_not, w_and, w_or, w_c, w_v, w_un, w_int, w_intB, w_addI, w_subI, w_lt, w_le, w_gt, w_ge, w_eqI, w_methL, startE, List.map_cons, List.map_nil, List.cons_append, List.nil_append, List.getElem?_cons_zero, List.getElem?_cons_succ, List.set_cons_zero, List.set_cons_succ, ok1_some, at0, at1, at2, at3, w_ixT, List.length_cons, List.length_nil, Nat.reduceAdd, Nat.reduceSub, Nat.zero_add, List.replicate_succ, List.replicate_zero]
    rw [w_ixL it]
    have c2 : kk.toNat < ns.length := by
      rw [List.length_map] at c
      omega
    refine ⟨.int ns[kk.toNat], ?_, rest _⟩
    unfold atD
    rw [if_pos k0, List.getElem?_map, List.getElem?_eq_getElem c2]
    rfl
  · simp only [decide_eq_false c, Bool.false_eq_true, if_false, w_pass]
    exact rest 0
end K1
end L2.Lv
end
section
set_option maxRecDepth 100000
set_option maxHeartbeats 1000000
set_option autoImplicit false
namespace L2.Lv
/-! ### walks in general -/
section
variable {P : D → Hm → Prop} {N : En → Hm → Prop} {R : D → Hm → Prop} {src src1 : Src} {g g1 : MG} {b : MS} {t t1 : MT} {el : ME} {e0 : En} {n : Nat} {xs : List D}
theorem loop_of (Inv : Nat → En → Hm → Prop) (hx : ∀ j e h, Inv j e h → nxt src j h = some xs[j]?) (step : ∀ (j : Nat) (x : D) (e : En) (h : Hm), xs[j]? = some x → Inv j e h → ∃ e1, g x e h = some e1 ∧ OkS (b e1 h) (Inv (j + 1)) R) (fin : ∀ e h, Inv xs.length e h → N e h) :
    ∀ (k f j : Nat) (e : En) (h : Hm), j + k = xs.length → k < f → Inv j e h → OkS (mLoop src g b f j e h) N R
  | 0, f + 1, j, e, h, hj, _, v => by
    have q : xs[j]? = none := List.getElem?_eq_none (by omega)
    unfold mLoop
    simp only [hx j e h v, q]
    have ej : j = xs.length := by omega
    subst ej
    exact fin e h v
  | k + 1, f + 1, j, e, h, hj, hf, v => by
    have hl : j < xs.length := by omega
    have q : xs[j]? = some xs[j] := List.getElem?_eq_getElem hl
    obtain ⟨e1, ge, o⟩ := step j _ e h q v
    unfold mLoop
    simp only [hx j e h v, q, ge]
    revert o
    cases b e1 h with
    | nx e2 h2 => exact fun o => loop_of Inv hx step fin k f (j + 1) e2 h2 (by omega) (by omega) o
    | rt d h2 => exact fun o => o
    | bk e2 h2 => exact fun o => o.elim
    | ct e2 h2 => exact fun o => o.elim
    | ex c d e2 h2 => exact fun o => o.elim
    | no => exact fun o => o.elim
theorem cloop_of (Inv : Nat → Hm → Prop) (hx : ∀ j h, Inv j h → nxt src j h = some xs[j]?)
    (step : ∀ (j : Nat) (x : D) (h : Hm), xs[j]? = some x → Inv j h → ∃ e1, g x e0 h = some e1 ∧ Ok (t e1 h) fun c h1 => if c = true then Ok (el e1 h1) fun y h2 => ∃ acc2, h2[n]? = some (.lst acc2) ∧ acc2.length < big ∧ Inv (j + 1) (h2.set n (.lst (acc2 ++ [y]))) else Inv (j + 1) h1) (fin : ∀ h, Inv xs.length h → P (.ref n) h) :
    ∀ (k f j : Nat) (h : Hm), j + k = xs.length → k < f → Inv j h → Ok (mCLoop src g t el e0 n f j h) P
  | 0, f + 1, j, h, hj, _, v => by
    have q : xs[j]? = none := List.getElem?_eq_none (by omega)
    unfold mCLoop
    simp only [hx j h v, q]
    have ej : j = xs.length := by omega
    subst ej
    exact fin h v
  | k + 1, f + 1, j, h, hj, hf, v => by
    have hl : j < xs.length := by omega
    have q : xs[j]? = some xs[j] := List.getElem?_eq_getElem hl
    obtain ⟨e1, ge, o⟩ := step j _ h q v
    unfold mCLoop
    simp only [hx j h v, q, ge]
    revert o
    cases t e1 h with
    | ok c h1 =>
      cases c with
      | false => exact fun o => cloop_of Inv hx step fin k f (j + 1) h1 (by omega) (by omega) o
      | true =>
        intro o
        have o : Ok (el e1 h1) _ := o
        simp only
        revert o
        cases el e1 h1 with
        | ok y h2 =>
          intro o
          obtain ⟨acc2, e2, c, v2⟩ := o
          simp only [e2]
          rw [if_pos c]
          exact cloop_of Inv hx step fin k f (j + 1) _ (by omega) (by omega) v2
        | ex c d h2 => exact fun o => o.elim
        | no => exact fun o => o.elim
    | ex c d h2 => exact fun o => o.elim
    | no => exact fun o => o.elim
/-- the inner walk of a comprehension of two clauses -/
theorem cin_of {P : Unit → Hm → Prop} (Inv : Nat → Hm → Prop) (hx : ∀ j h, Inv j h → nxt src j h = some xs[j]?)
    (step : ∀ (j : Nat) (x : D) (h : Hm), xs[j]? = some x → Inv j h → ∃ e1, g x e0 h = some e1 ∧ Ok (el e1 h) fun y h2 => ∃ acc2, h2[n]? = some (.lst acc2) ∧ acc2.length < big ∧ Inv (j + 1) (h2.set n (.lst (acc2 ++ [y])))) (fin : ∀ h, Inv xs.length h → P () h) :
    ∀ (k f j : Nat) (h : Hm), j + k = xs.length → k < f → Inv j h → Ok (mCIn src g mYes el e0 n f j h) P
  | 0, f + 1, j, h, hj, _, v => by
    have q : xs[j]? = none := List.getElem?_eq_none (by omega)
    unfold mCIn
    simp only [hx j h v, q]
    have ej : j = xs.length := by omega
    subst ej
    exact fin h v
  | k + 1, f + 1, j, h, hj, hf, v => by
    have hl : j < xs.length := by omega
    have q : xs[j]? = some xs[j] := List.getElem?_eq_getElem hl
    obtain ⟨e1, ge, o⟩ := step j _ h q v
    unfold mCIn
    simp only [hx j h v, q, ge, mYes]
    revert o
    cases el e1 h with
    | ok y h2 =>
      intro o
      obtain ⟨acc2, e2, c, v2⟩ := o
      simp only [e2]
      rw [if_pos c]
      exact cin_of Inv hx step fin k f (j + 1) _ (by omega) (by omega) v2
    | ex c d h2 => exact fun o => o.elim
    | no => exact fun o => o.elim
theorem cloop2_of {it1 : MI} {vs1 : List Nat} (Inv : Nat → Hm → Prop) (hx : ∀ j h, Inv j h → nxt src j h = some xs[j]?)
    (step : ∀ (j : Nat) (x : D) (h : Hm), xs[j]? = some x → Inv j h → ∃ e1, g x e0 h = some e1 ∧ Ok (it1 e1 h) fun s1 h1 => Ok (mCIn s1 g1 t1 el (wipeE e1 vs1) n lots 0 h1) fun _ h2 => Inv (j + 1) h2) (fin : ∀ h, Inv xs.length h → P (.ref n) h) :
    ∀ (k f j : Nat) (h : Hm), j + k = xs.length → k < f → Inv j h → Ok (mCLoop2 src g mYes it1 g1 t1 el e0 vs1 n f j h) P
  | 0, f + 1, j, h, hj, _, v => by
    have q : xs[j]? = none := List.getElem?_eq_none (by omega)
    unfold mCLoop2
    simp only [hx j h v, q]
    have ej : j = xs.length := by omega
    subst ej
    exact fin h v
  | k + 1, f + 1, j, h, hj, hf, v => by
    have hl : j < xs.length := by omega
    have q : xs[j]? = some xs[j] := List.getElem?_eq_getElem hl
    obtain ⟨e1, ge, o⟩ := step j _ h q v
    unfold mCLoop2
    simp only [hx j h v, q, ge, mYes]
    revert o
    cases it1 e1 h with
    | ok s1 h1 =>
      intro o
      have o : Ok (mCIn s1 g1 t1 el (wipeE e1 vs1) n lots 0 h1) _ := o
      simp only
      rw [ok_bind]
      exact o.mono fun _ h2 v2 => cloop2_of Inv hx step fin k f (j + 1) h2 (by omega) (by omega) v2
    | ex c d h2 => exact fun o => o.elim
    | no => exact fun o => o.elim
theorem w_comp2 {it it1 : MI} {vs vs1 : List Nat} {e : En} {h : Hm} : Ok (mComp2 it g t it1 g1 t1 el vs vs1 e h) P ↔ Ok (it e h) fun src h1 => Ok (mCLoop2 src g t it1 g1 t1 el (wipeE e vs) vs1 h1.length lots 0 (h1 ++ [.lst []])) P := by unfold mComp2; rw [ok_bind]
theorem while_of (Inv : Nat → En → Hm → Prop) (step : ∀ k e h, Inv k e h → Ok (t e h) fun c h1 => if c = true then OkS (b e h1) (fun e2 h2 => ∃ k', k' < k ∧ Inv k' e2 h2) R else N e h1) :
    ∀ (f k : Nat) (e : En) (h : Hm), k < f → Inv k e h → OkS (mWhileN t b f e h) N R
  | f + 1, k, e, h, hk, v => by
    unfold mWhileN
    rw [ok_bs]
    refine (step k e h v).mono fun c h1 o => ?_
    cases c with
    | false => exact o
    | true =>
      have o : OkS (b e h1) _ R := o
      simp only [if_true]
      revert o
      cases b e h1 with
      | nx e2 h2 =>
        intro o
        obtain ⟨k', lt, v2⟩ := o
        exact while_of Inv step f k' e2 h2 (by omega) v2
      | rt d h2 => exact fun o => o
      | bk e2 h2 => exact fun o => o.elim
      | ct e2 h2 => exact fun o => o.elim
      | ex c d e2 h2 => exact fun o => o.elim
      | no => exact fun o => o.elim
theorem w_src {a : ME} {e : En} {h : Hm} {P : Src → Hm → Prop} (o : Ok (a e h) fun d h1 => (∃ xs, d = .tup xs ∧ P (.fix xs) h1) ∨ ∃ n xs, d = .ref n ∧ itemsOf h1 n = some xs ∧ P (.live n) h1) : Ok (mSrc a e h) P := by
  unfold mSrc
  rw [ok_bind]
  refine o.mono fun d h1 q => ?_
  rcases q with ⟨xs, rfl, q⟩ | ⟨n, xs, rfl, it, q⟩
  · exact q
  · simp only [it]
    exact q
end
/-- what was at hand stays -/
def Ext (h h' : Hm) : Prop := ∀ (n : Nat) (ob : Ob), h[n]? = some ob → h'[n]? = some ob
theorem Ext.refl {h : Hm} : Ext h h := fun _ _ q => q
theorem Ext.trans {h h1 h2 : Hm} (a : Ext h h1) (b : Ext h1 h2) : Ext h h2 := fun n ob q => b n ob (a n ob q)
theorem Ext.app {h : Hm} {l : List Ob} : Ext h (h ++ l) := fun n ob q => K1.app_old q
theorem Ext.items {h h' : Hm} {n : Nat} {xs : List D} (x : Ext h h') (q : itemsOf h n = some xs) : itemsOf h' n = some xs := by
  unfold itemsOf at q ⊢
  cases e : h[n]? with
  | none => rw [e] at q; cases q
  | some ob => rw [x n ob e]; rw [e] at q; exact q
theorem Ext.le {h h' : Hm} (x : Ext h h') : h.length ≤ h'.length := by
  cases q : h.length with
  | zero => omega
  | succ k =>
    have e : h[k]? = some h[k] := List.getElem?_eq_getElem (by omega)
    have := K1.lt_of_at (x _ _ e)
    omega
theorem Ext.put {h h' : Hm} {p : Nat} {o : Ob} (x : Ext h h') (l : h.length ≤ p) : Ext h (h'.set p o) := fun n ob q => by
  have := K1.lt_of_at q
  rw [List.getElem?_set_ne (by omega)]
  exact x n ob q
theorem nxt_live {h : Hm} {p j : Nat} {xs : List D} (q : itemsOf h p = some xs) : nxt (.live p) j h = some xs[j]? := by
  simp only [nxt, q]
end L2.Lv
end
section
set_option maxRecDepth 100000
set_option maxHeartbeats 1000000
set_option autoImplicit false
namespace L2.Lv
namespace K1
open PySem
def below : Tr → List Tr
  | .use _ => []
  | .join _ ts => ts
  | .bind _ ah b => ah ++ [b]
def tag : Tr → List Nat
  | .use _ => tUse
  | .join _ _ => tJoin
  | .bind _ _ _ => tBind
theorem toDs_app (a b : List Tr) : toDs (a ++ b) = toDs a ++ toDs b := by rw [toDs_map, toDs_map, toDs_map, List.map_append]
theorem toDs_len (a : List Tr) : (toDs a).length = a.length := by rw [toDs_map, List.length_map]
theorem toDs_at {ts : List Tr} {j : Nat} {x : D} (q : (toDs ts)[j]? = some x) : ∃ t, ts[j]? = some t ∧ x = toD t := by
  rw [toDs_map, List.getElem?_map] at q
  cases e : ts[j]? with
  | none => rw [e] at q; cases q
  | some t => rw [e] at q; exact ⟨t, rfl, (Option.some.inj q).symm⟩
theorem toDs_take {ts : List Tr} {j : Nat} {t : Tr} (q : ts[j]? = some t) : toDs (ts.take j) ++ [toD t] = toDs (ts.take (j + 1)) := by
  rw [List.take_succ, q, toDs_app]
  rfl
def goodW (n : List Nat) : Bool := Txt.isascii ⟨n.toArray⟩ && Txt.isalpha ⟨n.toArray⟩ && Txt.islower ⟨n.toArray⟩ && decide (n.length ≤ 8)
theorem w_of_good {n : List Nat} (g : goodN n = true) : goodW n = true := by
  unfold goodN at g
  unfold goodW
  simp only [Bool.and_eq_true] at g ⊢
  exact g.1.1
mutual
/-- a right tree, whatever its names -/
def okT : Tr → Prop
  | .use n => goodW n = true
  | .join l ts => goodW l = true ∧ okTs ts
  | .bind n ah b => goodW n = true ∧ okTs ah ∧ okT b
def okTs : List Tr → Prop
  | [] => True
  | t :: ts => okT t ∧ okTs ts
end
mutual
theorem ok_of_good : ∀ {t : Tr}, good t → okT t
  | .use _, g => w_of_good g
  | .join _ _, g => ⟨w_of_good g.1, oks_of_good g.2⟩
  | .bind _ _ _, g => ⟨w_of_good g.1, oks_of_good g.2.1, ok_of_good g.2.2⟩
theorem oks_of_good : ∀ {ts : List Tr}, goods ts → okTs ts
  | [], _ => trivial
  | _ :: _, g => ⟨ok_of_good g.1, oks_of_good g.2⟩
end
theorem oks_app : ∀ a b : List Tr, okTs (a ++ b) ↔ okTs a ∧ okTs b
  | [], b => by simp [okTs]
  | t :: a, b => by simp only [List.cons_append, okTs, oks_app a b, and_assoc]
theorem ok_mem : ∀ {ts : List Tr} {t : Tr}, okTs ts → t ∈ ts → okT t
  | t :: ts, _, g, .head _ => g.1
  | t :: ts, _, g, .tail _ m => ok_mem g.2 m
theorem ok_below {t : Tr} (g : okT t) : okTs (below t) := by
  cases t with
  | use n => trivial
  | join l ts => exact g.2
  | bind n ah b => exact (oks_app ah [b]).mpr ⟨g.2.1, g.2.2, trivial⟩
theorem good_mem : ∀ {ts : List Tr} {t : Tr}, goods ts → t ∈ ts → good t
  | t :: ts, _, g, .head _ => g.1
  | t :: ts, _, g, .tail _ m => good_mem g.2 m
theorem goods_of : ∀ {ts : List Tr}, (∀ t ∈ ts, good t) → goods ts
  | [], _ => trivial
  | t :: ts, h => ⟨h t List.mem_cons_self, goods_of fun x hx => h x (List.mem_cons_of_mem _ hx)⟩
theorem good_below {t : Tr} (g : good t) : goods (below t) := by
  cases t with
  | use n => trivial
  | join l ts => exact g.2
  | bind n ah b => exact (goods_app ah [b]).mpr ⟨g.2.1, g.2.2, trivial⟩
theorem siz_below (t : Tr) : siz t = 1 + sizs (below t) := by
  cases t with
  | use n => rfl
  | join l ts => rfl
  | bind n ah b =>
    simp only [siz, below, sizs_app, sizs]
    omega
theorem len_sizs : ∀ ts : List Tr, ts.length ≤ sizs ts
  | [] => Nat.le_refl _
  | t :: ts => by
    have := siz_pos t
    have := len_sizs ts
    simp only [List.length_cons, sizs]
    omega
theorem siz_mem : ∀ {ts : List Tr} {t : Tr}, t ∈ ts → siz t ≤ sizs ts
  | t :: ts, _, .head _ => by simp only [sizs]; omega
  | a :: ts, _, .tail _ m => by
    have := siz_mem m
    simp only [sizs]
    omega
/-! values of trees -/
theorem d0 (t : Tr) : ∃ xs, toD t = .tup (.str (tag t) :: xs) := by cases t <;> exact ⟨_, rfl⟩
theorem w_eqS {s t : List Nat} {h : Hm} {P : D → Hm → Prop} (a : (s.all fun c => decide (c < 1114112)) = true) (b : (t.all fun c => decide (c < 1114112)) = true) : Ok (pEq (.str s) (.str t) h) P ↔ P (.bl (decide (s = t))) h := by
  rw [w_eq (by simpa [okD, deep] using a) (by simpa [okD, deep] using b)]
  exact Iff.rfl
theorem w_isi {nc : Nat} {ks : List Nat} {d : D} {h : Hm} {P : D → Hm → Prop} (c : kd h d < 7 + nc) : Ok (pIsi nc ks d h) P ↔ P (.bl (ks.contains (kd h d))) h := by
  unfold pIsi
  rw [if_pos c]
  exact Iff.rfl
theorem w_strT {f : Str → Bool} {s : List Nat} {h : Hm} {P : D → Hm → Prop} : Ok (pStrT f (.str s) h) P ↔ P (.bl (f ⟨s.toArray⟩)) h := Iff.rfl
theorem w_lenS {s : List Nat} {h : Hm} {P : D → Hm → Prop} (c : s.length ≤ big) : Ok (pLen [.str s] h) P ↔ P (.int s.length) h := by
  unfold pLen
  simp only
  rw [if_pos c]
  exact Iff.rfl
theorem w_lenT {xs : List D} {h : Hm} {P : D → Hm → Prop} : Ok (pLen [.tup xs] h) P ↔ P (.int xs.length) h := Iff.rfl
theorem tru_bl {h : Hm} {b c : Bool} : (truD h (.bl b) = some c) ↔ b = c := by simp [truD]
/-- is_name of a good name -/
theorem isname_ok {m : Nat} {n : List Nat} {h : Hm} {P : D → Hm → Prop} (g : goodW n = true) (k : P (.bl true) h) : Ok (cl (m + 1) 4 [.str n] h) P := by
  rw [c_4]
  refine ok_body rfl ?_
  unfold b_4
  unfold goodW at g
  simp only [Bool.and_eq_true, decide_eq_true_eq] at g
  obtain ⟨⟨⟨g1, g2⟩, g3⟩, g4⟩ := g
  simp only [w_seq, w_ifS, w_set, w_ret, w_par, w_asg, w_sub, w_drop, w_pass, w_bin, w_app, w_call, w_cons, w_nil, w_tup, w_lst, w_if, w_tb, w_not, w_and, w_or, w_c, w_v, w_un, w_int, w_intB, w_addI, w_subI, w_lt, w_le, w_gt, w_ge, w_eqI, w_methL, startE, List.map_cons, List.map_nil, List.cons_append, List.nil_append, List.getElem?_cons_zero, List.getElem?_cons_succ, List.set_cons_zero, List.set_cons_succ, ok1_some, at0, at1, at2, at3, w_ixT, List.length_cons, List.length_nil, Nat.reduceAdd, Nat.reduceSub, Nat.zero_add, List.replicate_succ, List.replicate_zero, w_tru, w_andV, w_strT, w_lenS (show n.length ≤ big by unfold big; omega)]
  rw [w_isi (by simp [kd])]
  refine ⟨true, rfl, ?_⟩
  simp only [Bool.not_true, Bool.false_eq_true, if_false]
  have c : ¬ ((8 : Int) < n.length) := by omega
  refine ⟨false, by rw [decide_eq_false c], ?_⟩
  simp only [Bool.false_eq_true, if_false]
  refine ⟨true, by rw [g1]; rfl, ?_⟩
  simp only [if_true]
  refine ⟨true, by rw [g2]; rfl, ?_⟩
  simp only [if_true, g3]
  exact k
theorem tag_ok (t : Tr) : ((tag t).all fun c => decide (c < 1114112)) = true := by cases t <;> rfl
theorem getK {t : Tr} {h : Hm} {P : D → Hm → Prop} : Ok (pGetK kv_SIZES (.str (tag t)) h) P ↔ P (.int (match t with | .use _ => 2 | .join _ _ => 3 | .bind _ _ _ => 4)) h := by
  cases t <;> exact Iff.rfl
theorem w_neI {i j : Int} {h : Hm} {P : D → Hm → Prop} : Ok (pNe (.int i) (.int j) h) P ↔ P (.bl (!(i == j))) h := by
  unfold pNe
  rw [if_pos (by rfl)]
  exact Iff.rfl
theorem form_ok {m : Nat} {t : Tr} {h : Hm} {P : D → Hm → Prop} (g : okT t) (k : P (.bl true) h) : Ok (cl (m + 2) 7 [toD t] h) P := by
  rw [c_7]
  refine ok_body rfl ?_
  unfold b_7
  cases t with
  | use n =>
    simp only [toD, w_seq, w_ifS, w_set, w_ret, w_par, w_asg, w_sub, w_drop, w_pass, w_bin, w_app, w_call, w_cons, w_nil, w_tup, w_lst, w_if, w_tb, w_not, w_and, w_or, w_c, w_v, w_un, w_int, w_intB, w_addI, w_subI, w_lt, w_le, w_gt, w_ge, w_eqI, w_methL, startE, List.map_cons, List.map_nil, List.cons_append, List.nil_append, List.getElem?_cons_zero, List.getElem?_cons_succ, List.set_cons_zero, List.set_cons_succ, ok1_some, at0, at1, at2, at3, w_ixT, List.length_cons, List.length_nil, Nat.reduceAdd, Nat.reduceSub, Nat.zero_add, List.replicate_succ, List.replicate_zero, w_tru, w_lenT, w_andV, w_orV]
    rw [w_isi (by simp [kd])]
    refine ⟨true, rfl, ?_⟩
    simp only [Bool.not_true, Bool.false_eq_true, if_false]
    refine ⟨false, rfl, ?_⟩
    simp only [Bool.false_eq_true, if_false, w_seq, w_ifS, w_set, w_ret, w_par, w_asg, w_sub, w_drop, w_pass, w_bin, w_app, w_call, w_cons, w_nil, w_tup, w_lst, w_if, w_tb, w_not, w_and, w_or, w_c, w_v, w_un, w_int, w_intB, w_addI, w_subI, w_lt, w_le, w_gt, w_ge, w_eqI, w_methL, startE, List.map_cons, List.map_nil, List.cons_append, List.nil_append, List.getElem?_cons_zero, List.getElem?_cons_succ, List.set_cons_zero, List.set_cons_succ, ok1_some, at0, at1, at2, at3, w_ixT, List.length_cons, List.length_nil, Nat.reduceAdd, Nat.reduceSub, Nat.zero_add, List.replicate_succ, List.replicate_zero]
    refine ⟨_, rfl, ?_⟩
    rw [w_isi (by simp [kd])]
    refine ⟨true, rfl, ?_⟩
    simp only [Bool.not_true, Bool.false_eq_true, if_false, w_seq, w_ifS, w_set, w_ret, w_par, w_asg, w_sub, w_drop, w_pass, w_bin, w_app, w_call, w_cons, w_nil, w_tup, w_lst, w_if, w_tb, w_not, w_and, w_or, w_c, w_v, w_un, w_int, w_intB, w_addI, w_subI, w_lt, w_le, w_gt, w_ge, w_eqI, w_methL, startE, List.map_cons, List.map_nil, List.cons_append, List.nil_append, List.getElem?_cons_zero, List.getElem?_cons_succ, List.set_cons_zero, List.set_cons_succ, ok1_some, at0, at1, at2, at3, w_ixT, List.length_cons, List.length_nil, Nat.reduceAdd, Nat.reduceSub, Nat.zero_add, List.replicate_succ, List.replicate_zero]
    rw [show (D.str tUse) = D.str (tag (.use n)) from rfl, getK, w_neI]
    refine ⟨false, rfl, ?_⟩
    simp only [Bool.false_eq_true, if_false, w_seq, w_ifS, w_set, w_ret, w_par, w_asg, w_sub, w_drop, w_pass, w_bin, w_app, w_call, w_cons, w_nil, w_tup, w_lst, w_if, w_tb, w_not, w_and, w_or, w_c, w_v, w_un, w_int, w_intB, w_addI, w_subI, w_lt, w_le, w_gt, w_ge, w_eqI, w_methL, startE, List.map_cons, List.map_nil, List.cons_append, List.nil_append, List.getElem?_cons_zero, List.getElem?_cons_succ, List.set_cons_zero, List.set_cons_succ, ok1_some, at0, at1, at2, at3, w_ixT, List.length_cons, List.length_nil, Nat.reduceAdd, Nat.reduceSub, Nat.zero_add, List.replicate_succ, List.replicate_zero]
    refine ⟨_, rfl, isname_ok g ⟨true, rfl, ?_⟩⟩
    simp only [if_true]
    rw [w_eqS (by rfl) (by rfl)]
    refine ⟨true, rfl, ?_⟩
    exact k
  | join l ts =>
    simp only [toD, w_seq, w_ifS, w_set, w_ret, w_par, w_asg, w_sub, w_drop, w_pass, w_bin, w_app, w_call, w_cons, w_nil, w_tup, w_lst, w_if, w_tb, w_not, w_and, w_or, w_c, w_v, w_un, w_int, w_intB, w_addI, w_subI, w_lt, w_le, w_gt, w_ge, w_eqI, w_methL, startE, List.map_cons, List.map_nil, List.cons_append, List.nil_append, List.getElem?_cons_zero, List.getElem?_cons_succ, List.set_cons_zero, List.set_cons_succ, ok1_some, at0, at1, at2, at3, w_ixT, List.length_cons, List.length_nil, Nat.reduceAdd, Nat.reduceSub, Nat.zero_add, List.replicate_succ, List.replicate_zero, w_tru, w_lenT, w_andV, w_orV]
    rw [w_isi (by simp [kd])]
    refine ⟨true, rfl, ?_⟩
    simp only [Bool.not_true, Bool.false_eq_true, if_false]
    refine ⟨false, rfl, ?_⟩
    simp only [Bool.false_eq_true, if_false, w_seq, w_ifS, w_set, w_ret, w_par, w_asg, w_sub, w_drop, w_pass, w_bin, w_app, w_call, w_cons, w_nil, w_tup, w_lst, w_if, w_tb, w_not, w_and, w_or, w_c, w_v, w_un, w_int, w_intB, w_addI, w_subI, w_lt, w_le, w_gt, w_ge, w_eqI, w_methL, startE, List.map_cons, List.map_nil, List.cons_append, List.nil_append, List.getElem?_cons_zero, List.getElem?_cons_succ, List.set_cons_zero, List.set_cons_succ, ok1_some, at0, at1, at2, at3, w_ixT, List.length_cons, List.length_nil, Nat.reduceAdd, Nat.reduceSub, Nat.zero_add, List.replicate_succ, List.replicate_zero]
    refine ⟨_, rfl, ?_⟩
    rw [w_isi (by simp [kd])]
    refine ⟨true, rfl, ?_⟩
    simp only [Bool.not_true, Bool.false_eq_true, if_false, w_seq, w_ifS, w_set, w_ret, w_par, w_asg, w_sub, w_drop, w_pass, w_bin, w_app, w_call, w_cons, w_nil, w_tup, w_lst, w_if, w_tb, w_not, w_and, w_or, w_c, w_v, w_un, w_int, w_intB, w_addI, w_subI, w_lt, w_le, w_gt, w_ge, w_eqI, w_methL, startE, List.map_cons, List.map_nil, List.cons_append, List.nil_append, List.getElem?_cons_zero, List.getElem?_cons_succ, List.set_cons_zero, List.set_cons_succ, ok1_some, at0, at1, at2, at3, w_ixT, List.length_cons, List.length_nil, Nat.reduceAdd, Nat.reduceSub, Nat.zero_add, List.replicate_succ, List.replicate_zero]
    rw [show (D.str tJoin) = D.str (tag (.join l ts)) from rfl, getK, w_neI]
    refine ⟨false, rfl, ?_⟩
    simp only [Bool.false_eq_true, if_false, w_seq, w_ifS, w_set, w_ret, w_par, w_asg, w_sub, w_drop, w_pass, w_bin, w_app, w_call, w_cons, w_nil, w_tup, w_lst, w_if, w_tb, w_not, w_and, w_or, w_c, w_v, w_un, w_int, w_intB, w_addI, w_subI, w_lt, w_le, w_gt, w_ge, w_eqI, w_methL, startE, List.map_cons, List.map_nil, List.cons_append, List.nil_append, List.getElem?_cons_zero, List.getElem?_cons_succ, List.set_cons_zero, List.set_cons_succ, ok1_some, at0, at1, at2, at3, w_ixT, List.length_cons, List.length_nil, Nat.reduceAdd, Nat.reduceSub, Nat.zero_add, List.replicate_succ, List.replicate_zero]
    refine ⟨_, rfl, isname_ok g.1 ⟨true, rfl, ?_⟩⟩
    simp only [if_true]
    rw [w_eqS (by rfl) (by rfl)]
    refine ⟨false, rfl, ?_⟩
    simp only [Bool.false_eq_true, if_false]
    refine ⟨_, rfl, ?_⟩
    rw [w_isi (by simp [kd])]
    exact k
  | bind n ah b =>
    simp only [toD, w_seq, w_ifS, w_set, w_ret, w_par, w_asg, w_sub, w_drop, w_pass, w_bin, w_app, w_call, w_cons, w_nil, w_tup, w_lst, w_if, w_tb, w_not, w_and, w_or, w_c, w_v, w_un, w_int, w_intB, w_addI, w_subI, w_lt, w_le, w_gt, w_ge, w_eqI, w_methL, startE, List.map_cons, List.map_nil, List.cons_append, List.nil_append, List.getElem?_cons_zero, List.getElem?_cons_succ, List.set_cons_zero, List.set_cons_succ, ok1_some, at0, at1, at2, at3, w_ixT, List.length_cons, List.length_nil, Nat.reduceAdd, Nat.reduceSub, Nat.zero_add, List.replicate_succ, List.replicate_zero, w_tru, w_lenT, w_andV, w_orV]
    rw [w_isi (by simp [kd])]
    refine ⟨true, rfl, ?_⟩
    simp only [Bool.not_true, Bool.false_eq_true, if_false]
    refine ⟨false, rfl, ?_⟩
    simp only [Bool.false_eq_true, if_false, w_seq, w_ifS, w_set, w_ret, w_par, w_asg, w_sub, w_drop, w_pass, w_bin, w_app, w_call, w_cons, w_nil, w_tup, w_lst, w_if, w_tb, w_not, w_and, w_or, w_c, w_v, w_un, w_int, w_intB, w_addI, w_subI, w_lt, w_le, w_gt, w_ge, w_eqI, w_methL, startE, List.map_cons, List.map_nil, List.cons_append, List.nil_append, List.getElem?_cons_zero, List.getElem?_cons_succ, List.set_cons_zero, List.set_cons_succ, ok1_some, at0, at1, at2, at3, w_ixT, List.length_cons, List.length_nil, Nat.reduceAdd, Nat.reduceSub, Nat.zero_add, List.replicate_succ, List.replicate_zero]
    refine ⟨_, rfl, ?_⟩
    rw [w_isi (by simp [kd])]
    refine ⟨true, rfl, ?_⟩
    simp only [Bool.not_true, Bool.false_eq_true, if_false, w_seq, w_ifS, w_set, w_ret, w_par, w_asg, w_sub, w_drop, w_pass, w_bin, w_app, w_call, w_cons, w_nil, w_tup, w_lst, w_if, w_tb, w_not, w_and, w_or, w_c, w_v, w_un, w_int, w_intB, w_addI, w_subI, w_lt, w_le, w_gt, w_ge, w_eqI, w_methL, startE, List.map_cons, List.map_nil, List.cons_append, List.nil_append, List.getElem?_cons_zero, List.getElem?_cons_succ, List.set_cons_zero, List.set_cons_succ, ok1_some, at0, at1, at2, at3, w_ixT, List.length_cons, List.length_nil, Nat.reduceAdd, Nat.reduceSub, Nat.zero_add, List.replicate_succ, List.replicate_zero]
    rw [show (D.str tBind) = D.str (tag (.bind n ah b)) from rfl, getK, w_neI]
    refine ⟨false, rfl, ?_⟩
    simp only [Bool.false_eq_true, if_false, w_seq, w_ifS, w_set, w_ret, w_par, w_asg, w_sub, w_drop, w_pass, w_bin, w_app, w_call, w_cons, w_nil, w_tup, w_lst, w_if, w_tb, w_not, w_and, w_or, w_c, w_v, w_un, w_int, w_intB, w_addI, w_subI, w_lt, w_le, w_gt, w_ge, w_eqI, w_methL, startE, List.map_cons, List.map_nil, List.cons_append, List.nil_append, List.getElem?_cons_zero, List.getElem?_cons_succ, List.set_cons_zero, List.set_cons_succ, ok1_some, at0, at1, at2, at3, w_ixT, List.length_cons, List.length_nil, Nat.reduceAdd, Nat.reduceSub, Nat.zero_add, List.replicate_succ, List.replicate_zero]
    refine ⟨_, rfl, isname_ok g.1 ⟨true, rfl, ?_⟩⟩
    simp only [if_true]
    rw [w_eqS (by rfl) (by rfl)]
    refine ⟨false, rfl, ?_⟩
    simp only [Bool.false_eq_true, if_false]
    refine ⟨_, rfl, ?_⟩
    rw [w_isi (by simp [kd])]
    exact k
theorem w_star {a : ME} {r : MA} {e : En} {h : Hm} {P : List D → Hm → Prop} (o : Ok (a e h) fun x h1 => ∃ xs, seqOf h1 x = some xs ∧ Ok (r e h1) fun ys h2 => P (xs ++ ys) h2) : Ok (mStar a r e h) P := by
  unfold mStar
  rw [ok_bind]
  refine o.mono fun x h1 q => ?_
  obtain ⟨xs, sx, q⟩ := q
  simp only [sx]
  rw [ok_bind]
  exact q
/-- trees_below -/
theorem below_ok {m : Nat} {t : Tr} {h : Hm} {P : D → Hm → Prop} (hz : siz t ≤ 1000) (k : P (.tup (toDs (below t))) h) : Ok (cl (m + 1) 8 [toD t] h) P := by
  rw [c_8]
  refine ok_body rfl ?_
  unfold b_8
  cases t with
  | use n =>
    simp only [toD, w_seq, w_ifS, w_set, w_ret, w_par, w_asg, w_sub, w_drop, w_pass, w_bin, w_app, w_call, w_cons, w_nil, w_tup, w_lst, w_if, w_tb, w_not, w_and, w_or, w_c, w_v, w_un, w_int, w_intB, w_addI, w_subI, w_lt, w_le, w_gt, w_ge, w_eqI, w_methL, startE, List.map_cons, List.map_nil, List.cons_append, List.nil_append, List.getElem?_cons_zero, List.getElem?_cons_succ, List.set_cons_zero, List.set_cons_succ, ok1_some, at0, at1, at2, at3, w_ixT, List.length_cons, List.length_nil, Nat.reduceAdd, Nat.reduceSub, Nat.zero_add, List.replicate_succ, List.replicate_zero]
    refine ⟨_, rfl, ?_⟩
    rw [w_eqS (by rfl) (by rfl)]
    refine ⟨true, rfl, ?_⟩
    simp only [if_true, w_seq, w_ifS, w_set, w_ret, w_par, w_asg, w_sub, w_drop, w_pass, w_bin, w_app, w_call, w_cons, w_nil, w_tup, w_lst, w_if, w_tb, w_not, w_and, w_or, w_c, w_v, w_un, w_int, w_intB, w_addI, w_subI, w_lt, w_le, w_gt, w_ge, w_eqI, w_methL, startE, List.map_cons, List.map_nil, List.cons_append, List.nil_append, List.getElem?_cons_zero, List.getElem?_cons_succ, List.set_cons_zero, List.set_cons_succ, ok1_some, at0, at1, at2, at3, w_ixT, List.length_cons, List.length_nil, Nat.reduceAdd, Nat.reduceSub, Nat.zero_add, List.replicate_succ, List.replicate_zero]
    exact ⟨by simp [big], k⟩
  | join l ts =>
    simp only [toD, w_seq, w_ifS, w_set, w_ret, w_par, w_asg, w_sub, w_drop, w_pass, w_bin, w_app, w_call, w_cons, w_nil, w_tup, w_lst, w_if, w_tb, w_not, w_and, w_or, w_c, w_v, w_un, w_int, w_intB, w_addI, w_subI, w_lt, w_le, w_gt, w_ge, w_eqI, w_methL, startE, List.map_cons, List.map_nil, List.cons_append, List.nil_append, List.getElem?_cons_zero, List.getElem?_cons_succ, List.set_cons_zero, List.set_cons_succ, ok1_some, at0, at1, at2, at3, w_ixT, List.length_cons, List.length_nil, Nat.reduceAdd, Nat.reduceSub, Nat.zero_add, List.replicate_succ, List.replicate_zero]
    refine ⟨_, rfl, ?_⟩
    rw [w_eqS (by rfl) (by rfl)]
    refine ⟨false, rfl, ?_⟩
    simp only [Bool.false_eq_true, if_false, w_seq, w_ifS, w_set, w_ret, w_par, w_asg, w_sub, w_drop, w_pass, w_bin, w_app, w_call, w_cons, w_nil, w_tup, w_lst, w_if, w_tb, w_not, w_and, w_or, w_c, w_v, w_un, w_int, w_intB, w_addI, w_subI, w_lt, w_le, w_gt, w_ge, w_eqI, w_methL, startE, List.map_cons, List.map_nil, List.cons_append, List.nil_append, List.getElem?_cons_zero, List.getElem?_cons_succ, List.set_cons_zero, List.set_cons_succ, ok1_some, at0, at1, at2, at3, w_ixT, List.length_cons, List.length_nil, Nat.reduceAdd, Nat.reduceSub, Nat.zero_add, List.replicate_succ, List.replicate_zero]
    refine ⟨_, rfl, ?_⟩
    rw [w_eqS (by rfl) (by rfl)]
    refine ⟨true, rfl, ?_⟩
    simp only [if_true, w_seq, w_ifS, w_set, w_ret, w_par, w_asg, w_sub, w_drop, w_pass, w_bin, w_app, w_call, w_cons, w_nil, w_tup, w_lst, w_if, w_tb, w_not, w_and, w_or, w_c, w_v, w_un, w_int, w_intB, w_addI, w_subI, w_lt, w_le, w_gt, w_ge, w_eqI, w_methL, startE, List.map_cons, List.map_nil, List.cons_append, List.nil_append, List.getElem?_cons_zero, List.getElem?_cons_succ, List.set_cons_zero, List.set_cons_succ, ok1_some, at0, at1, at2, at3, w_ixT, List.length_cons, List.length_nil, Nat.reduceAdd, Nat.reduceSub, Nat.zero_add, List.replicate_succ, List.replicate_zero]
    exact ⟨_, rfl, k⟩
  | bind n ah b =>
    simp only [toD, w_seq, w_ifS, w_set, w_ret, w_par, w_asg, w_sub, w_drop, w_pass, w_bin, w_app, w_call, w_cons, w_nil, w_tup, w_lst, w_if, w_tb, w_not, w_and, w_or, w_c, w_v, w_un, w_int, w_intB, w_addI, w_subI, w_lt, w_le, w_gt, w_ge, w_eqI, w_methL, startE, List.map_cons, List.map_nil, List.cons_append, List.nil_append, List.getElem?_cons_zero, List.getElem?_cons_succ, List.set_cons_zero, List.set_cons_succ, ok1_some, at0, at1, at2, at3, w_ixT, List.length_cons, List.length_nil, Nat.reduceAdd, Nat.reduceSub, Nat.zero_add, List.replicate_succ, List.replicate_zero]
    refine ⟨_, rfl, ?_⟩
    rw [w_eqS (by rfl) (by rfl)]
    refine ⟨false, rfl, ?_⟩
    simp only [Bool.false_eq_true, if_false, w_seq, w_ifS, w_set, w_ret, w_par, w_asg, w_sub, w_drop, w_pass, w_bin, w_app, w_call, w_cons, w_nil, w_tup, w_lst, w_if, w_tb, w_not, w_and, w_or, w_c, w_v, w_un, w_int, w_intB, w_addI, w_subI, w_lt, w_le, w_gt, w_ge, w_eqI, w_methL, startE, List.map_cons, List.map_nil, List.cons_append, List.nil_append, List.getElem?_cons_zero, List.getElem?_cons_succ, List.set_cons_zero, List.set_cons_succ, ok1_some, at0, at1, at2, at3, w_ixT, List.length_cons, List.length_nil, Nat.reduceAdd, Nat.reduceSub, Nat.zero_add, List.replicate_succ, List.replicate_zero]
    refine ⟨_, rfl, ?_⟩
    rw [w_eqS (by rfl) (by rfl)]
    refine ⟨false, rfl, ?_⟩
    simp only [Bool.false_eq_true, if_false, w_seq, w_ifS, w_set, w_ret, w_par, w_asg, w_sub, w_drop, w_pass, w_bin, w_app, w_call, w_cons, w_nil, w_tup, w_lst, w_if, w_tb, w_not, w_and, w_or, w_c, w_v, w_un, w_int, w_intB, w_addI, w_subI, w_lt, w_le, w_gt, w_ge, w_eqI, w_methL, startE, List.map_cons, List.map_nil, List.cons_append, List.nil_append, List.getElem?_cons_zero, List.getElem?_cons_succ, List.set_cons_zero, List.set_cons_succ, ok1_some, at0, at1, at2, at3, w_ixT, List.length_cons, List.length_nil, Nat.reduceAdd, Nat.reduceSub, Nat.zero_add, List.replicate_succ, List.replicate_zero]
    refine w_star ?_
    simp only [w_seq, w_ifS, w_set, w_ret, w_par, w_asg, w_sub, w_drop, w_pass, w_bin, w_app, w_call, w_cons, w_nil, w_tup, w_lst, w_if, w_tb, w_not, w_and, w_or, w_c, w_v, w_un, w_int, w_intB, w_addI, w_subI, w_lt, w_le, w_gt, w_ge, w_eqI, w_methL, startE, List.map_cons, List.map_nil, List.cons_append, List.nil_append, List.getElem?_cons_zero, List.getElem?_cons_succ, List.set_cons_zero, List.set_cons_succ, ok1_some, at0, at1, at2, at3, w_ixT, List.length_cons, List.length_nil, Nat.reduceAdd, Nat.reduceSub, Nat.zero_add, List.replicate_succ, List.replicate_zero]
    refine ⟨_, rfl, _, rfl, _, rfl, ?_⟩
    have l1 := len_sizs ah
    simp only [siz] at hz
    rw [show toDs (below (.bind n ah b)) = toDs ah ++ [toD b] by rw [show below (.bind n ah b) = ah ++ [b] from rfl, toDs_app]; rfl] at k
    refine ⟨?_, k⟩
    rw [List.length_append, toDs_len]
    simp [big]
    omega
end K1
end L2.Lv
end
section
set_option maxRecDepth 100000
set_option maxHeartbeats 1000000
set_option autoImplicit false
namespace L2.Lv
namespace K1
open PySem
def rowB : List Tr → List Tr
  | [] => []
  | t :: ts => below t ++ rowB ts
theorem rowB_app : ∀ a b : List Tr, rowB (a ++ b) = rowB a ++ rowB b
  | [], _ => rfl
  | t :: a, b => by simp only [List.cons_append, rowB, rowB_app a b, List.append_assoc]
theorem rowB_take {ts : List Tr} {j : Nat} {t : Tr} (q : ts[j]? = some t) : rowB (ts.take (j + 1)) = rowB (ts.take j) ++ below t := by
  rw [List.take_succ, q, rowB_app]
  simp [rowB]
theorem sizs_row : ∀ ts : List Tr, sizs (rowB ts) + ts.length = sizs ts
  | [] => rfl
  | t :: ts => by
    have := sizs_row ts
    have := siz_below t
    simp only [rowB, sizs_app, sizs, List.length_cons]
    omega
theorem oks_row : ∀ {ts : List Tr}, okTs ts → okTs (rowB ts)
  | [], _ => trivial
  | t :: ts, g => (oks_app _ _).mpr ⟨ok_below g.1, oks_row g.2⟩
theorem sizs_take (ts : List Tr) (j : Nat) : sizs (ts.take j) ≤ sizs ts := by
  have e := sizs_app (ts.take j) (ts.drop j)
  rw [List.take_append_drop] at e
  omega
theorem row_ok {m p : Nat} {ts : List Tr} {h : Hm} {P : D → Hm → Prop} (it : itemsOf h p = some (toDs ts)) (hz : sizs ts ≤ 1000) (k : ∀ (q : Nat) (h' : Hm), h'[q]? = some (.lst (toDs (rowB ts))) → Ext h h' → h.length ≤ q → P (.ref q) h') : Ok (cl (m + 2) 9 [.ref p] h) P := by
  rw [c_9]
  refine ok_body rfl ?_
  unfold b_9
  rw [w_ret, w_comp2]
  refine w_src ?_
  simp only [w_seq, w_ifS, w_set, w_ret, w_par, w_asg, w_sub, w_drop, w_pass, w_bin, w_app, w_call, w_cons, w_nil, w_tup, w_lst, w_if, w_tb, w_not, w_and, w_or, w_c, w_v, w_un, w_int, w_intB, w_addI, w_subI, w_lt, w_le, w_gt, w_ge, w_eqI, w_methL, startE, List.map_cons, List.map_nil, List.cons_append, List.nil_append, List.getElem?_cons_zero, List.getElem?_cons_succ, List.set_cons_zero, List.set_cons_succ, ok1_some, at0, at1, at2, at3, w_ixT, List.length_cons, List.length_nil, Nat.reduceAdd, Nat.reduceSub, Nat.zero_add, List.replicate_succ, List.replicate_zero]
  refine .inr ⟨p, _, rfl, it, ?_⟩
  refine cloop2_of (xs := toDs ts) (fun j hx => Ext h hx ∧ hx[h.length]? = some (.lst (toDs (rowB (ts.take j))))) (fun j hx v => nxt_live (v.1.items it)) ?_ ?_ (toDs ts).length lots 0 _ (by omega) (by rw [toDs_len]; have := len_sizs ts; unfold lots; omega) ⟨Ext.app, app_at⟩
  · rintro j x hx hj ⟨v1, v2⟩
    obtain ⟨t, ht, rfl⟩ := toDs_at hj
    have mt : t ∈ ts := List.mem_of_getElem? ht
    have st := siz_mem mt
    refine ⟨[some (.ref p), some (toD t), none], rfl, ?_⟩
    refine w_src ?_
    simp only [w_seq, w_ifS, w_set, w_ret, w_par, w_asg, w_sub, w_drop, w_pass, w_bin, w_app, w_call, w_cons, w_nil, w_tup, w_lst, w_if, w_tb, w_not, w_and, w_or, w_c, w_v, w_un, w_int, w_intB, w_addI, w_subI, w_lt, w_le, w_gt, w_ge, w_eqI, w_methL, startE, List.map_cons, List.map_nil, List.cons_append, List.nil_append, List.getElem?_cons_zero, List.getElem?_cons_succ, List.set_cons_zero, List.set_cons_succ, ok1_some, at0, at1, at2, at3, w_ixT, List.length_cons, List.length_nil, Nat.reduceAdd, Nat.reduceSub, Nat.zero_add, List.replicate_succ, List.replicate_zero]
    refine below_ok (by omega) (.inl ⟨_, rfl, ?_⟩)
    have lb : (below t).length ≤ siz t := by
      have := siz_below t
      have := len_sizs (below t)
      omega
    refine cin_of (xs := toDs (below t)) (fun i hy => Ext h hy ∧ hy[h.length]? = some (.lst (toDs (rowB (ts.take j)) ++ (toDs (below t)).take i))) (fun _ _ _ => rfl) ?_ ?_ (toDs (below t)).length lots 0 hx (by omega) (by rw [toDs_len]; unfold lots; omega) ⟨v1, by simpa using v2⟩
    · rintro i y hy hi ⟨u1, u2⟩
      refine ⟨[some (.ref p), some (toD t), some y], rfl, ?_⟩
      simp only [w_seq, w_ifS, w_set, w_ret, w_par, w_asg, w_sub, w_drop, w_pass, w_bin, w_app, w_call, w_cons, w_nil, w_tup, w_lst, w_if, w_tb, w_not, w_and, w_or, w_c, w_v, w_un, w_int, w_intB, w_addI, w_subI, w_lt, w_le, w_gt, w_ge, w_eqI, w_methL, startE, List.map_cons, List.map_nil, List.cons_append, List.nil_append, List.getElem?_cons_zero, List.getElem?_cons_succ, List.set_cons_zero, List.set_cons_succ, ok1_some, at0, at1, at2, at3, w_ixT, List.length_cons, List.length_nil, Nat.reduceAdd, Nat.reduceSub, Nat.zero_add, List.replicate_succ, List.replicate_zero]
      refine ⟨_, u2, ?_, u1.put (Nat.le_refl _), ?_⟩
      · rw [List.length_append, toDs_len, List.length_take]
        have a1 := len_sizs (rowB (ts.take j))
        have a2 := sizs_row (ts.take j)
        have a3 := sizs_take ts j
        have a4 := toDs_len (below t)
        unfold big
        omega
      · rw [List.getElem?_set_self (lt_of_at u2), List.take_succ, hi]
        simp
    · rintro hy ⟨u1, u2⟩
      refine ⟨u1, ?_⟩
      rw [rowB_take ht, toDs_app]
      rw [List.take_of_length_le (Nat.le_refl _)] at u2
      exact u2
  · rintro hx ⟨v1, v2⟩
    rw [toDs_len, List.take_of_length_le (Nat.le_refl _)] at v2
    exact k _ hx v2 v1 (Nat.le_refl _)
theorem tru_ref {h : Hm} {p : Nat} {xs : List D} (q : itemsOf h p = some xs) : truD h (.ref p) = some (!xs.isEmpty) := by
  unfold itemsOf at q
  unfold truD
  cases e : h[p]? with
  | none => rw [e] at q; cases q
  | some ob =>
    rw [e] at q
    cases ob <;> cases q <;> simp only [e]
theorem bls_rep : ∀ n : Nat, blsD (List.replicate n (D.bl true)) = some (List.replicate n true)
  | 0 => rfl
  | n + 1 => by rw [List.replicate_succ, blsD, bls_rep n]; rfl
theorem istree_ok {m : Nat} {t : Tr} {h : Hm} {P : D → Hm → Prop} (g : okT t) (hz : siz t ≤ 1000) (k : ∀ h' : Hm, Ext h h' → P (.bl true) h') : Ok (cl (m + 3) 6 [toD t] h) P := by
  rw [c_6]
  refine ok_body rfl ?_
  unfold b_6
  rw [w_seq, w_set]
  simp only [w_ifS, w_bin, w_app, w_call, w_cons, w_nil, w_tup, w_lst, w_if, w_tb, w_not, w_and, w_or, w_c, w_v, w_un, w_int, w_intB, w_addI, w_subI, w_lt, w_le, w_gt, w_ge, w_eqI, w_methL, startE, List.map_cons, List.map_nil, List.cons_append, List.nil_append, List.getElem?_cons_zero, List.getElem?_cons_succ, List.set_cons_zero, List.set_cons_succ, ok1_some, at0, at1, at2, at3, w_ixT, List.length_cons, List.length_nil, Nat.reduceAdd, Nat.reduceSub, Nat.zero_add, List.replicate_succ, List.replicate_zero]
  refine ⟨by simp [big], ?_⟩
  rw [w_seq]
  unfold mWhile
  have q0 : itemsOf (h ++ [Ob.lst [toD t]]) h.length = some (toDs [t]) := items_l app_at
  refine while_of (fun n e hx => ∃ (ts : List Tr) (p : Nat) (x2 : Option D), e = [some (toD t), some (.ref p), x2] ∧ itemsOf hx p = some (toDs ts) ∧ okTs ts ∧ sizs ts = n ∧ n ≤ 1000 ∧ Ext h hx) ?_ lots (siz t) _ _ (by unfold lots; omega) ⟨[t], _, _, rfl, q0, ⟨g, trivial⟩, by simp [sizs], hz, Ext.app⟩
  rintro n e hx ⟨ts, p, x2, rfl, it, gt, sz, nz, ex⟩
  simp only [w_ifS, w_bin, w_app, w_call, w_cons, w_nil, w_tup, w_lst, w_if, w_tb, w_not, w_and, w_or, w_c, w_v, w_un, w_int, w_intB, w_addI, w_subI, w_lt, w_le, w_gt, w_ge, w_eqI, w_methL, startE, List.map_cons, List.map_nil, List.cons_append, List.nil_append, List.getElem?_cons_zero, List.getElem?_cons_succ, List.set_cons_zero, List.set_cons_succ, ok1_some, at0, at1, at2, at3, w_ixT, List.length_cons, List.length_nil, Nat.reduceAdd, Nat.reduceSub, Nat.zero_add, List.replicate_succ, List.replicate_zero, w_tru]
  refine ⟨_, tru_ref it, ?_⟩
  cases ts with
  | nil =>
    simp only [toDs, List.isEmpty_nil, Bool.not_true, Bool.false_eq_true, if_false, w_seq, w_ifS, w_set, w_ret, w_par, w_asg, w_sub, w_drop, w_pass, w_bin, w_app, w_call, w_cons, w_nil, w_tup, w_lst, w_if, w_tb, w_not, w_and, w_or, w_c, w_v, w_un, w_int, w_intB, w_addI, w_subI, w_lt, w_le, w_gt, w_ge, w_eqI, w_methL, startE, List.map_cons, List.map_nil, List.cons_append, List.nil_append, List.getElem?_cons_zero, List.getElem?_cons_succ, List.set_cons_zero, List.set_cons_succ, ok1_some, at0, at1, at2, at3, w_ixT, List.length_cons, List.length_nil, Nat.reduceAdd, Nat.reduceSub, Nat.zero_add, List.replicate_succ, List.replicate_zero]
    exact k hx ex
  | cons a ts =>
    simp only [toDs, List.isEmpty_cons, Bool.not_false, if_true]
    rw [w_seq]
    simp only [w_ifS, w_bin, w_app, w_call, w_cons, w_nil, w_tup, w_lst, w_if, w_tb, w_not, w_and, w_or, w_c, w_v, w_un, w_int, w_intB, w_addI, w_subI, w_lt, w_le, w_gt, w_ge, w_eqI, w_methL, startE, List.map_cons, List.map_nil, List.cons_append, List.nil_append, List.getElem?_cons_zero, List.getElem?_cons_succ, List.set_cons_zero, List.set_cons_succ, ok1_some, at0, at1, at2, at3, w_ixT, List.length_cons, List.length_nil, Nat.reduceAdd, Nat.reduceSub, Nat.zero_add, List.replicate_succ, List.replicate_zero, w_tru, w_comp]
    refine w_src ?_
    simp only [w_ifS, w_bin, w_app, w_call, w_cons, w_nil, w_tup, w_lst, w_if, w_tb, w_not, w_and, w_or, w_c, w_v, w_un, w_int, w_intB, w_addI, w_subI, w_lt, w_le, w_gt, w_ge, w_eqI, w_methL, startE, List.map_cons, List.map_nil, List.cons_append, List.nil_append, List.getElem?_cons_zero, List.getElem?_cons_succ, List.set_cons_zero, List.set_cons_succ, ok1_some, at0, at1, at2, at3, w_ixT, List.length_cons, List.length_nil, Nat.reduceAdd, Nat.reduceSub, Nat.zero_add, List.replicate_succ, List.replicate_zero]
    refine .inr ⟨p, _, rfl, it, ?_⟩
    have ll : (toDs (a :: ts)).length ≤ 1000 := by
      rw [toDs_len]
      have := len_sizs (a :: ts)
      omega
    refine cloop_of (xs := toDs (a :: ts)) (fun j hy => Ext hx hy ∧ hy[hx.length]? = some (.lst (List.replicate j (D.bl true)))) (fun j hy v => nxt_live (v.1.items it)) ?_ ?_ (toDs (a :: ts)).length lots 0 _ (by omega) (by unfold lots; omega) ⟨Ext.app, app_at⟩
    · rintro j x hy hj ⟨v1, v2⟩
      obtain ⟨u, hu, rfl⟩ := toDs_at hj
      refine ⟨[some (toD t), some (.ref p), some (toD u)], rfl, ?_⟩
      show Ok (Re.ok true hy) _
      rw [ok_ok]
      simp only [if_true, w_ifS, w_bin, w_app, w_call, w_cons, w_nil, w_tup, w_lst, w_if, w_tb, w_not, w_and, w_or, w_c, w_v, w_un, w_int, w_intB, w_addI, w_subI, w_lt, w_le, w_gt, w_ge, w_eqI, w_methL, startE, List.map_cons, List.map_nil, List.cons_append, List.nil_append, List.getElem?_cons_zero, List.getElem?_cons_succ, List.set_cons_zero, List.set_cons_succ, ok1_some, at0, at1, at2, at3, w_ixT, List.length_cons, List.length_nil, Nat.reduceAdd, Nat.reduceSub, Nat.zero_add, List.replicate_succ, List.replicate_zero]
      refine form_ok (ok_mem gt (List.mem_of_getElem? hu)) ⟨_, v2, ?_, v1.put (Nat.le_refl _), ?_⟩
      · rw [List.length_replicate]
        have := (List.getElem?_eq_some_iff.mp hj).1
        unfold big
        omega
      · rw [List.getElem?_set_self (lt_of_at v2), ← List.replicate_succ, List.replicate_succ']
    · rintro hy ⟨v1, v2⟩
      have e1 : Ok (pAA (fun bs => bs.all id) [.ref hx.length] hy) (fun d h1 => d = .bl true ∧ h1 = hy) := by
        unfold pAA
        simp only [items_l v2, bls_rep]
        refine ⟨?_, rfl⟩
        congr 1
        simp [List.all_replicate]
      refine e1.mono fun d h1 z => ?_
      obtain ⟨rfl, rfl⟩ := z
      refine ⟨true, rfl, ?_⟩
      simp only [Bool.not_true, Bool.false_eq_true, if_false, w_seq, w_ifS, w_set, w_ret, w_par, w_asg, w_sub, w_drop, w_pass, w_bin, w_app, w_call, w_cons, w_nil, w_tup, w_lst, w_if, w_tb, w_not, w_and, w_or, w_c, w_v, w_un, w_int, w_intB, w_addI, w_subI, w_lt, w_le, w_gt, w_ge, w_eqI, w_methL, startE, List.map_cons, List.map_nil, List.cons_append, List.nil_append, List.getElem?_cons_zero, List.getElem?_cons_succ, List.set_cons_zero, List.set_cons_succ, ok1_some, at0, at1, at2, at3, w_ixT, List.length_cons, List.length_nil, Nat.reduceAdd, Nat.reduceSub, Nat.zero_add, List.replicate_succ, List.replicate_zero]
      refine row_ok (v1.items it) (by omega) fun q h2 hq x2' _ => ?_
      have s1 := sizs_row (a :: ts)
      simp only [List.length_cons] at s1
      refine ⟨_, ?_, rowB (a :: ts), q, _, rfl, items_l hq, oks_row gt, rfl, by omega, (ex.trans v1).trans x2'⟩
      omega
end K1
end L2.Lv
end
section
set_option maxRecDepth 100000
set_option maxHeartbeats 1000000
set_option autoImplicit false
namespace L2.Lv
section
variable {P : D → Hm → Prop} {N : En → Hm → Prop} {R : D → Hm → Prop} {e : En} {h : Hm}
theorem w_methL0 {p : D → List D → Hm → Re D} {o : ME} : Ok (mMethL0 p o e h) P ↔ Ok (o e h) fun x h1 => isLst h1 x = true ∧ Ok (p x [] h1) P := by
  unfold mMethL0
  rw [ok_bind]
  constructor <;> intro w <;> refine w.mono fun x h1 q => ?_
  · rw [ok_ite] at q
    split at q
    · rename_i c
      exact ⟨c, q⟩
    · exact q.elim
  · rw [if_pos q.1]; exact q.2
theorem w_pop {n : Nat} {xs : List D} {d : D} (q : h[n]? = some (.lst (xs ++ [d]))) : Ok (pPop (.ref n) [] h) P ↔ P d (h.set n (.lst xs)) := by
  unfold pPop
  simp only [q]
  have e1 : (xs ++ [d])[(xs ++ [d]).length - 1]? = some d := by simp
  rw [e1]
  simp only [List.dropLast_concat]
  exact Iff.rfl
theorem w_extT {n : Nat} {xs ys : List D} (q : h[n]? = some (.lst xs)) (c : xs.length + ys.length ≤ big) : Ok (pExtendA (.ref n) [.tup ys] h) P ↔ P .non (h.set n (.lst (xs ++ ys))) := by
  unfold pExtendA
  simp only [q]
  rw [if_pos c]
  exact Iff.rfl
theorem w_revT {xs : List D} : Ok (pRevT (.tup xs) h) P ↔ P (.tup xs.reverse) h := Iff.rfl
theorem w_aug {i : Nat} {p : D → D → Hm → Re D} {a : ME} : OkS (mAug i p a e h) N R ↔ ok1 e[i]? fun d => Ok (a e h) fun d' h1 => Ok (p d d' h1) fun d2 h2 => N (e.set i (some d2)) h2 := by
  unfold mAug ok1
  cases e[i]? with
  | none => exact Iff.rfl
  | some o =>
    cases o with
    | none => exact Iff.rfl
    | some d =>
      dsimp only
      rw [ok_bs]
      simp only [ok_bs]
      exact Iff.rfl
end
namespace K1
open PySem
mutual
def nod : Tr → List Tr
  | .use n => [.use n]
  | .join l ts => .join l ts :: nods ts
  | .bind n ah b => .bind n ah b :: (nods ah ++ nod b)
def nods : List Tr → List Tr
  | [] => []
  | t :: ts => nod t ++ nods ts
end
theorem nods_app : ∀ a b : List Tr, nods (a ++ b) = nods a ++ nods b
  | [], _ => rfl
  | t :: a, b => by simp only [List.cons_append, nods, nods_app a b, List.append_assoc]
theorem nod_below (t : Tr) : nod t = t :: nods (below t) := by
  cases t with
  | use n => rfl
  | join l ts => rfl
  | bind n ah b => simp only [nod, below, nods_app, nods, List.append_nil]
mutual
theorem nod_len : ∀ t : Tr, (nod t).length = siz t
  | .use _ => rfl
  | .join _ ts => by simp only [nod, siz, List.length_cons, nods_len ts]; omega
  | .bind _ ah b => by simp only [nod, siz, List.length_cons, List.length_append, nods_len ah, nod_len b]; omega
theorem nods_len : ∀ ts : List Tr, (nods ts).length = sizs ts
  | [] => rfl
  | t :: ts => by simp only [nods, sizs, List.length_append, nod_len t, nods_len ts]
end
mutual
theorem nod_good : ∀ t : Tr, good t → ∀ u ∈ nod t, good u ∧ siz u ≤ siz t
  | .use n, g, u, m => by
    simp only [nod, List.mem_singleton] at m
    subst m
    exact ⟨g, Nat.le_refl _⟩
  | .join l ts, g, u, m => by
    simp only [nod, List.mem_cons] at m
    rcases m with rfl | m
    · exact ⟨g, Nat.le_refl _⟩
    · have z := nods_good ts g.2 u m
      exact ⟨z.1, by simp only [siz]; omega⟩
  | .bind n ah b, g, u, m => by
    simp only [nod, List.mem_cons, List.mem_append] at m
    rcases m with rfl | m | m
    · exact ⟨g, Nat.le_refl _⟩
    · have z := nods_good ah g.2.1 u m
      exact ⟨z.1, by simp only [siz]; omega⟩
    · have z := nod_good b g.2.2 u m
      exact ⟨z.1, by simp only [siz]; omega⟩
theorem nods_good : ∀ ts : List Tr, goods ts → ∀ u ∈ nods ts, good u ∧ siz u ≤ sizs ts
  | [], _, u, m => by simp [nods] at m
  | t :: ts, g, u, m => by
    simp only [nods, List.mem_append] at m
    rcases m with m | m
    · have z := nod_good t g.1 u m
      exact ⟨z.1, by simp only [sizs]; omega⟩
    · have z := nods_good ts g.2 u m
      exact ⟨z.1, by simp only [sizs]; omega⟩
end
theorem nodes_ok {m : Nat} {t : Tr} {h : Hm} {P : D → Hm → Prop} (hz : siz t ≤ 1000) (k : ∀ (q : Nat) (h' : Hm), h'[q]? = some (.lst (toDs (nod t))) → Ext h h' → h.length ≤ q → P (.ref q) h') : Ok (cl (m + 2) 10 [toD t] h) P := by
  rw [c_10]
  refine ok_body rfl ?_
  unfold b_10
  rw [w_seq, w_set]
  simp only [w_ifS, w_bin, w_app, w_call, w_cons, w_nil, w_tup, w_lst, w_if, w_tb, w_not, w_and, w_or, w_c, w_v, w_un, w_int, w_intB, w_addI, w_subI, w_lt, w_le, w_gt, w_ge, w_eqI, w_methL, startE, List.map_cons, List.map_nil, List.cons_append, List.nil_append, List.getElem?_cons_zero, List.getElem?_cons_succ, List.set_cons_zero, List.set_cons_succ, ok1_some, at0, at1, at2, at3, w_ixT, List.length_cons, List.length_nil, Nat.reduceAdd, Nat.reduceSub, Nat.zero_add, List.replicate_succ, List.replicate_zero]
  refine ⟨by simp [big], ?_⟩
  rw [w_seq, w_set]
  simp only [w_ifS, w_bin, w_app, w_call, w_cons, w_nil, w_tup, w_lst, w_if, w_tb, w_not, w_and, w_or, w_c, w_v, w_un, w_int, w_intB, w_addI, w_subI, w_lt, w_le, w_gt, w_ge, w_eqI, w_methL, startE, List.map_cons, List.map_nil, List.cons_append, List.nil_append, List.getElem?_cons_zero, List.getElem?_cons_succ, List.set_cons_zero, List.set_cons_succ, ok1_some, at0, at1, at2, at3, w_ixT, List.length_cons, List.length_nil, Nat.reduceAdd, Nat.reduceSub, Nat.zero_add, List.replicate_succ, List.replicate_zero]
  refine ⟨by simp [big], ?_⟩
  rw [w_seq]
  unfold mWhile
  have z1 : (h ++ [Ob.lst []] ++ [Ob.lst [toD t]])[h.length]? = some (.lst (toDs [])) := app_old app_at
  have z2 : (h ++ [Ob.lst []] ++ [Ob.lst [toD t]])[(h ++ [Ob.lst []]).length]? = some (.lst (toDs [t])) := app_at
  have np : h.length ≠ (h ++ [Ob.lst []]).length := by simp
  have lw : h.length ≤ (h ++ [Ob.lst []]).length := by simp
  generalize (h ++ [Ob.lst []]).length = pw at z2 np lw ⊢
  refine while_of (fun n e hx => ∃ (dn ws : List Tr) (x3 : Option D), e = [some (toD t), some (.ref h.length), some (.ref pw), x3] ∧ hx[h.length]? = some (.lst (toDs dn)) ∧ hx[pw]? = some (.lst (toDs ws)) ∧ dn ++ nods ws.reverse = nod t ∧ sizs ws = n ∧ n ≤ 1000 ∧ Ext h hx) ?_ lots (siz t) _ _ (by unfold lots; omega)
    ⟨[], [t], none, rfl, z1, z2, by simp [nods], by simp [sizs], hz, Ext.app.trans Ext.app⟩
  rintro n e hx ⟨dn, ws, x3, rfl, q1, q2, eq, sz, nz, ex⟩
  simp only [w_ifS, w_bin, w_app, w_call, w_cons, w_nil, w_tup, w_lst, w_if, w_tb, w_not, w_and, w_or, w_c, w_v, w_un, w_int, w_intB, w_addI, w_subI, w_lt, w_le, w_gt, w_ge, w_eqI, w_methL, startE, List.map_cons, List.map_nil, List.cons_append, List.nil_append, List.getElem?_cons_zero, List.getElem?_cons_succ, List.set_cons_zero, List.set_cons_succ, ok1_some, at0, at1, at2, at3, w_ixT, List.length_cons, List.length_nil, Nat.reduceAdd, Nat.reduceSub, Nat.zero_add, List.replicate_succ, List.replicate_zero, w_tru]
  refine ⟨_, tru_ref (items_l q2), ?_⟩
  rcases List.eq_nil_or_concat ws with rfl | ⟨ws', u, rfl⟩
  · simp only [toDs, List.isEmpty_nil, Bool.not_true, Bool.false_eq_true, if_false, w_seq, w_ifS, w_set, w_ret, w_par, w_asg, w_sub, w_drop, w_pass, w_bin, w_app, w_call, w_cons, w_nil, w_tup, w_lst, w_if, w_tb, w_not, w_and, w_or, w_c, w_v, w_un, w_int, w_intB, w_addI, w_subI, w_lt, w_le, w_gt, w_ge, w_eqI, w_methL, startE, List.map_cons, List.map_nil, List.cons_append, List.nil_append, List.getElem?_cons_zero, List.getElem?_cons_succ, List.set_cons_zero, List.set_cons_succ, ok1_some, at0, at1, at2, at3, w_ixT, List.length_cons, List.length_nil, Nat.reduceAdd, Nat.reduceSub, Nat.zero_add, List.replicate_succ, List.replicate_zero]
    simp only [List.reverse_nil, nods, List.append_nil] at eq
    rw [eq] at q1
    exact k _ hx q1 ex (Nat.le_refl _)
  · have ne : (toDs (ws'.concat u)).isEmpty = false := by
      rw [List.concat_eq_append, toDs_app]
      simp [toDs]
    rw [List.concat_eq_append] at q2 sz eq
    rw [ne]
    simp only [Bool.not_false, if_true]
    rw [toDs_app] at q2
    have su : siz u ≤ 1000 := by
      rw [sizs_app] at sz
      simp only [sizs] at sz
      omega
    have lds : dn.length + sizs (ws' ++ [u]) = siz t := by
      have e2 := congrArg List.length eq
      rw [List.length_append, nods_len, nod_len] at e2
      have e3 : ∀ l : List Tr, sizs l.reverse = sizs l := fun l => by
        induction l with
        | nil => rfl
        | cons a l ih => rw [List.reverse_cons, sizs_app, ih]; simp only [sizs]; omega
      rw [e3] at e2
      exact e2
    simp only [w_seq, w_ifS, w_set, w_ret, w_par, w_asg, w_sub, w_drop, w_pass, w_bin, w_app, w_call, w_cons, w_nil, w_tup, w_lst, w_if, w_tb, w_not, w_and, w_or, w_c, w_v, w_un, w_int, w_intB, w_addI, w_subI, w_lt, w_le, w_gt, w_ge, w_eqI, w_methL, startE, List.map_cons, List.map_nil, List.cons_append, List.nil_append, List.getElem?_cons_zero, List.getElem?_cons_succ, List.set_cons_zero, List.set_cons_succ, ok1_some, at0, at1, at2, at3, w_ixT, List.length_cons, List.length_nil, Nat.reduceAdd, Nat.reduceSub, Nat.zero_add, List.replicate_succ, List.replicate_zero, w_methL0]
    refine ⟨isLst_of (items_l q2), ?_⟩
    rw [w_pop q2]
    have r1 : (hx.set pw (.lst (toDs ws')))[h.length]? = some (.lst (toDs dn)) := by rw [List.getElem?_set_ne (Ne.symm np)]; exact q1
    refine ⟨isLst_of (items_l r1), ?_⟩
    rw [w_append r1 (by rw [toDs_len]; unfold big; omega)]
    have r2 : ((hx.set pw (.lst (toDs ws'))).set h.length (.lst (toDs dn ++ [toD u])))[pw]? = some (.lst (toDs ws')) := by
      rw [List.getElem?_set_ne np, List.getElem?_set_self (lt_of_at q2)]
    have r3 : ((hx.set pw (.lst (toDs ws'))).set h.length (.lst (toDs dn ++ [toD u])))[h.length]? = some (.lst (toDs dn ++ [toD u])) := List.getElem?_set_self (lt_of_at r1)
    refine ⟨isLst_of (items_l r2), ?_⟩
    refine below_ok su ?_
    rw [w_revT]
    have lb := siz_below u
    have lb2 := len_sizs (below u)
    have lw2 := len_sizs ws'
    rw [sizs_app] at sz lds
    simp only [sizs] at sz lds
    rw [w_extT r2 (by rw [List.length_reverse, toDs_len, toDs_len]; unfold big; omega)]
    have er : (toDs (below u)).reverse = toDs (below u).reverse := by rw [toDs_map, toDs_map, List.map_reverse]
    have e3 : ∀ l : List Tr, sizs l.reverse = sizs l := fun l => by
      induction l with
      | nil => rfl
      | cons a l ih => rw [List.reverse_cons, sizs_app, ih]; simp only [sizs]; omega
    refine ⟨sizs (ws' ++ (below u).reverse), ?_, dn ++ [u], ws' ++ (below u).reverse, _, rfl, ?_, ?_, ?_, rfl, ?_, ((ex.put lw).put (Nat.le_refl _)).put lw⟩
    · rw [sizs_app, e3]
      omega
    · rw [List.getElem?_set_ne (Ne.symm np), r3, toDs_app]
      rfl
    · rw [List.getElem?_set_self (lt_of_at r2), er, toDs_app]
    · rw [← eq, List.reverse_append, List.reverse_append, List.reverse_reverse]
      simp only [List.reverse_cons, List.reverse_nil, List.nil_append, List.singleton_append]
      rw [nods_app, show nods (u :: ws'.reverse) = nod u ++ nods ws'.reverse from rfl, nod_below u]
      simp
    · rw [sizs_app, e3]
      omega
end K1
end L2.Lv
end
section
set_option maxRecDepth 100000
set_option maxHeartbeats 1000000
set_option autoImplicit false
namespace L2.Lv
namespace K1
open PySem
theorem w_enum {a : MA} {e : En} {h : Hm} {P : Src → Hm → Prop} (o : Ok (a e h) fun ds h1 => ∃ n xs, ds = [.ref n] ∧ itemsOf h1 n = some xs ∧ P (.enm n) h1) : Ok (mEnum a e h) P := by
  unfold mEnum
  rw [ok_bind]
  refine o.mono fun ds h1 q => ?_
  obtain ⟨n, xs, rfl, it, q⟩ := q
  simp only [it]
  exact q
/-- the numbers of the nodes of a kind -/
def nums (kd : List Nat) : Nat → List Tr → List D
  | _, [] => []
  | i, t :: ts => if tag t = kd then .int (i : Nat) :: nums kd (i + 1) ts else nums kd (i + 1) ts
def prs : Nat → List Tr → List D
  | _, [] => []
  | i, t :: ts => .tup [.int (i : Nat), toD t] :: prs (i + 1) ts
theorem prs_at : ∀ (ts : List Tr) (i j : Nat), (prs i ts)[j]? = (ts[j]?).map fun t => .tup [.int ((i + j : Nat) : Int), toD t]
  | [], _, _ => by simp [prs]
  | t :: ts, i, 0 => by simp [prs]
  | t :: ts, i, j + 1 => by
    simp only [prs, List.getElem?_cons_succ]
    rw [prs_at ts (i + 1) j, show i + 1 + j = i + (j + 1) by omega]
theorem prs_len : ∀ (ts : List Tr) (i : Nat), (prs i ts).length = ts.length
  | [], _ => rfl
  | t :: ts, i => by simp only [prs, List.length_cons, prs_len ts]
theorem nums_app (kd : List Nat) : ∀ (i : Nat) (a b : List Tr), nums kd i (a ++ b) = nums kd i a ++ nums kd (i + a.length) b
  | _, [], _ => by simp [nums]
  | i, t :: a, b => by
    simp only [List.cons_append, nums, nums_app kd (i + 1) a b, List.length_cons]
    rw [show i + 1 + a.length = i + (a.length + 1) by omega]
    split <;> rfl
theorem nums_take {kd : List Nat} {ts : List Tr} {j : Nat} {t : Tr} (q : ts[j]? = some t) : nums kd 0 (ts.take (j + 1)) = nums kd 0 (ts.take j) ++ if tag t = kd then [.int (j : Nat)] else [] := by
  have l : j < ts.length := (List.getElem?_eq_some_iff.mp q).1
  rw [List.take_succ, q, nums_app, List.length_take, Nat.min_eq_left (by omega)]
  simp only [Option.toList_some, nums, Nat.zero_add]
theorem nums_len (kd : List Nat) : ∀ (i : Nat) (a : List Tr), (nums kd i a).length ≤ a.length
  | _, [] => Nat.le_refl _
  | i, t :: a => by
    have := nums_len kd (i + 1) a
    simp only [nums, List.length_cons]
    split <;> (try simp only [List.length_cons]) <;> omega
theorem nxt_enm {h : Hm} {p j : Nat} {ts : List Tr} (q : itemsOf h p = some (toDs ts)) : nxt (.enm p) j h = some (prs 0 ts)[j]? := by
  simp only [nxt, q]
  rw [prs_at, toDs_map, List.getElem?_map]
  cases ts[j]? with
  | none => rfl
  | some t => simp
/-- [number for number, node in enumerate(nodes) if node[0] == kind], in any two slots -/
theorem enumc_ok {p i j : Nat} {ts : List Tr} {kd : List Nat} {e0 : En} {h : Hm} {k0 : ME} {P : D → Hm → Prop} (it : itemsOf h p = some (toDs ts)) (hl : ts.length ≤ 1000) (ok : (kd.all fun c => decide (c < 1114112)) = true)
    (hk : ∀ (x y : D) (hx : Hm) (Q : D → Hm → Prop), Q (.str kd) hx → Ok (k0 ((e0.set i (some x)).set j (some y)) hx) Q) (ne : i ≠ j) (li : i < e0.length) (lj : j < e0.length)
    (k : ∀ (q : Nat) (h' : Hm), h'[q]? = some (.lst (nums kd 0 ts)) → Ext h h' → h.length ≤ q → P (.ref q) h') :
    Ok (mCLoop (.enm p) (gTupM [gSet i, gSet j]) (mTb (mBin pEq (mBin pIdx (mVar j) (mC (.int 0))) k0)) (mVar i) e0 h.length lots 0 (h ++ [.lst []])) P := by
  refine cloop_of (xs := prs 0 ts) (fun a hx => Ext h hx ∧ hx[h.length]? = some (.lst (nums kd 0 (ts.take a)))) (fun a hx v => nxt_enm (v.1.items it)) ?_ ?_ (prs 0 ts).length lots 0 _ (by omega) (by rw [prs_len]; unfold lots; omega) ⟨Ext.app, app_at⟩
  · rintro a x hx ha ⟨v1, v2⟩
    rw [prs_at, Nat.zero_add] at ha
    cases ht : ts[a]? with
    | none => rw [ht] at ha; cases ha
    | some t =>
      rw [ht] at ha
      cases ha
      have la : a < ts.length := (List.getElem?_eq_some_iff.mp ht).1
      refine ⟨(e0.set i (some (.int (a : Nat)))).set j (some (toD t)), rfl, ?_⟩
      have q1 : ((e0.set i (some (D.int (a : Nat)))).set j (some (toD t)))[j]? = some (some (toD t)) := List.getElem?_set_self (by rw [List.length_set]; exact lj)
      have q2 : ((e0.set i (some (D.int (a : Nat)))).set j (some (toD t)))[i]? = some (some (.int (a : Nat))) := by
        rw [List.getElem?_set_ne (Ne.symm ne), List.getElem?_set_self li]
      obtain ⟨xs, ed⟩ := d0 t
      simp only [w_tb, w_bin, w_var q1, w_var q2, w_c]
      rw [ed, w_ixT]
      refine ⟨_, at0, hk _ _ _ _ ?_⟩
      rw [w_eqS (tag_ok t) ok]
      refine ⟨_, rfl, ?_⟩
      have nt := nums_take (kd := kd) ht
      by_cases c : tag t = kd
      · rw [decide_eq_true c, if_pos rfl]
        rw [if_pos c] at nt
        refine ⟨_, v2, ?_, v1.put (Nat.le_refl _), ?_⟩
        · have := nums_len kd 0 (ts.take a)
          rw [List.length_take] at this
          unfold big
          omega
        · rw [List.getElem?_set_self (lt_of_at v2), nt]
      · rw [decide_eq_false c, if_neg Bool.false_ne_true]
        rw [if_neg c, List.append_nil] at nt
        exact ⟨v1, by rw [nt]; exact v2⟩
  · rintro hx ⟨v1, v2⟩
    rw [prs_len, List.take_of_length_le (Nat.le_refl _)] at v2
    exact k _ hx v2 v1 (Nat.le_refl _)
theorem numbers_ok {m p : Nat} {ts : List Tr} {kd : List Nat} {h : Hm} {P : D → Hm → Prop} (it : itemsOf h p = some (toDs ts)) (hl : ts.length ≤ 1000) (ok : (kd.all fun c => decide (c < 1114112)) = true)
    (k : ∀ (q : Nat) (h' : Hm), h'[q]? = some (.lst (nums kd 0 ts)) → Ext h h' → h.length ≤ q → P (.ref q) h') : Ok (cl (m + 1) 11 [.str kd, .ref p] h) P := by
  rw [c_11]
  refine ok_body rfl ?_
  unfold b_11
  rw [w_ret, w_comp]
  refine w_enum ?_
  simp only [w_seq, w_ifS, w_set, w_ret, w_par, w_asg, w_sub, w_drop, w_pass, w_bin, w_app, w_call, w_cons, w_nil, w_tup, w_lst, w_if, w_tb, w_not, w_and, w_or, w_c, w_v, w_un, w_int, w_intB, w_addI, w_subI, w_lt, w_le, w_gt, w_ge, w_eqI, w_methL, startE, List.map_cons, List.map_nil, List.cons_append, List.nil_append, List.getElem?_cons_zero, List.getElem?_cons_succ, List.set_cons_zero, List.set_cons_succ, ok1_some, at0, at1, at2, at3, w_ixT, List.length_cons, List.length_nil, Nat.reduceAdd, Nat.reduceSub, Nat.zero_add, List.replicate_succ, List.replicate_zero]
  refine ⟨p, _, rfl, it, ?_⟩
  exact enumc_ok it hl ok (fun x y hx Q q => by rw [w_var (d := .str kd) rfl]; exact q) (by decide) (by simp [wipeE]) (by simp [wipeE]) k
mutual
def dep : Tr → Nat
  | .use _ => 1
  | .join _ ts => 1 + deps ts
  | .bind _ ah b => 1 + max (deps ah) (dep b)
def deps : List Tr → Nat
  | [] => 0
  | t :: ts => max (dep t) (deps ts)
end
theorem deps_app : ∀ a b : List Tr, deps (a ++ b) = max (deps a) (deps b)
  | [], _ => by simp [deps]
  | t :: a, b => by simp only [List.cons_append, deps, deps_app a b]; omega
theorem dep_below (t : Tr) : dep t = 1 + deps (below t) := by
  cases t with
  | use n => rfl
  | join l ts => rfl
  | bind n ah b => simp only [dep, below, deps_app, deps]; omega
theorem deps_row : ∀ ts : List Tr, ts ≠ [] → deps ts = 1 + deps (rowB ts)
  | [], h => absurd rfl h
  | [t], _ => by simp only [deps, rowB, List.append_nil, dep_below t]; omega
  | t :: u :: ts, _ => by
    have ih := deps_row (u :: ts) (by simp)
    have e := dep_below t
    rw [show rowB (t :: u :: ts) = below t ++ rowB (u :: ts) from rfl, deps_app, show deps (t :: u :: ts) = max (dep t) (deps (u :: ts)) from rfl]
    omega
mutual
theorem dep_le : ∀ t : Tr, dep t ≤ siz t
  | .use _ => Nat.le_refl _
  | .join _ ts => by
    have := deps_le ts
    simp only [dep, siz]
    omega
  | .bind _ ah b => by
    have := deps_le ah
    have := dep_le b
    simp only [dep, siz]
    omega
theorem deps_le : ∀ ts : List Tr, deps ts ≤ sizs ts
  | [] => Nat.le_refl _
  | t :: ts => by
    have := dep_le t
    have := deps_le ts
    simp only [deps, sizs]
    omega
end
theorem depth_ok {m : Nat} {t : Tr} {h : Hm} {P : D → Hm → Prop} (hz : siz t ≤ 1000) (k : ∀ h' : Hm, Ext h h' → P (.int (dep t : Nat)) h') : Ok (cl (m + 3) 12 [toD t] h) P := by
  rw [c_12]
  refine ok_body rfl ?_
  unfold b_12
  rw [w_seq, w_set]
  simp only [w_ifS, w_bin, w_app, w_call, w_cons, w_nil, w_tup, w_lst, w_if, w_tb, w_not, w_and, w_or, w_c, w_v, w_un, w_int, w_intB, w_addI, w_subI, w_lt, w_le, w_gt, w_ge, w_eqI, w_methL, startE, List.map_cons, List.map_nil, List.cons_append, List.nil_append, List.getElem?_cons_zero, List.getElem?_cons_succ, List.set_cons_zero, List.set_cons_succ, ok1_some, at0, at1, at2, at3, w_ixT, List.length_cons, List.length_nil, Nat.reduceAdd, Nat.reduceSub, Nat.zero_add, List.replicate_succ, List.replicate_zero]
  rw [w_seq, w_set]
  simp only [w_ifS, w_bin, w_app, w_call, w_cons, w_nil, w_tup, w_lst, w_if, w_tb, w_not, w_and, w_or, w_c, w_v, w_un, w_int, w_intB, w_addI, w_subI, w_lt, w_le, w_gt, w_ge, w_eqI, w_methL, startE, List.map_cons, List.map_nil, List.cons_append, List.nil_append, List.getElem?_cons_zero, List.getElem?_cons_succ, List.set_cons_zero, List.set_cons_succ, ok1_some, at0, at1, at2, at3, w_ixT, List.length_cons, List.length_nil, Nat.reduceAdd, Nat.reduceSub, Nat.zero_add, List.replicate_succ, List.replicate_zero]
  refine ⟨by simp [big], ?_⟩
  rw [w_seq]
  unfold mWhile
  have q0 : itemsOf (h ++ [Ob.lst [toD t]]) h.length = some (toDs [t]) := items_l app_at
  refine while_of (fun n e hx => ∃ (ts : List Tr) (p d : Nat), e = [some (toD t), some (.int (d : Nat)), some (.ref p)] ∧ itemsOf hx p = some (toDs ts) ∧ d + deps ts = dep t ∧ sizs ts = n ∧ n ≤ 1000 ∧ Ext h hx) ?_ lots (siz t) _ _ (by unfold lots; omega) ⟨[t], _, 0, rfl, q0, by simp [deps], by simp [sizs], hz, Ext.app⟩
  rintro n e hx ⟨ts, p, d, rfl, it, de, sz, nz, ex⟩
  simp only [w_ifS, w_bin, w_app, w_call, w_cons, w_nil, w_tup, w_lst, w_if, w_tb, w_not, w_and, w_or, w_c, w_v, w_un, w_int, w_intB, w_addI, w_subI, w_lt, w_le, w_gt, w_ge, w_eqI, w_methL, startE, List.map_cons, List.map_nil, List.cons_append, List.nil_append, List.getElem?_cons_zero, List.getElem?_cons_succ, List.set_cons_zero, List.set_cons_succ, ok1_some, at0, at1, at2, at3, w_ixT, List.length_cons, List.length_nil, Nat.reduceAdd, Nat.reduceSub, Nat.zero_add, List.replicate_succ, List.replicate_zero, w_tru]
  refine ⟨_, tru_ref it, ?_⟩
  cases ts with
  | nil =>
    simp only [toDs, List.isEmpty_nil, Bool.not_true, Bool.false_eq_true, if_false, w_seq, w_ifS, w_set, w_ret, w_par, w_asg, w_sub, w_drop, w_pass, w_bin, w_app, w_call, w_cons, w_nil, w_tup, w_lst, w_if, w_tb, w_not, w_and, w_or, w_c, w_v, w_un, w_int, w_intB, w_addI, w_subI, w_lt, w_le, w_gt, w_ge, w_eqI, w_methL, startE, List.map_cons, List.map_nil, List.cons_append, List.nil_append, List.getElem?_cons_zero, List.getElem?_cons_succ, List.set_cons_zero, List.set_cons_succ, ok1_some, at0, at1, at2, at3, w_ixT, List.length_cons, List.length_nil, Nat.reduceAdd, Nat.reduceSub, Nat.zero_add, List.replicate_succ, List.replicate_zero]
    simp only [deps, Nat.add_zero] at de
    rw [de]
    exact k hx ex
  | cons a ts =>
    simp only [toDs, List.isEmpty_cons, Bool.not_false, if_true]
    rw [w_seq, w_aug]
    simp only [w_ifS, w_bin, w_app, w_call, w_cons, w_nil, w_tup, w_lst, w_if, w_tb, w_not, w_and, w_or, w_c, w_v, w_un, w_int, w_intB, w_addI, w_subI, w_lt, w_le, w_gt, w_ge, w_eqI, w_methL, startE, List.map_cons, List.map_nil, List.cons_append, List.nil_append, List.getElem?_cons_zero, List.getElem?_cons_succ, List.set_cons_zero, List.set_cons_succ, ok1_some, at0, at1, at2, at3, w_ixT, List.length_cons, List.length_nil, Nat.reduceAdd, Nat.reduceSub, Nat.zero_add, List.replicate_succ, List.replicate_zero]
    show OkS _ _ _
    rw [w_set]
    simp only [w_ifS, w_bin, w_app, w_call, w_cons, w_nil, w_tup, w_lst, w_if, w_tb, w_not, w_and, w_or, w_c, w_v, w_un, w_int, w_intB, w_addI, w_subI, w_lt, w_le, w_gt, w_ge, w_eqI, w_methL, startE, List.map_cons, List.map_nil, List.cons_append, List.nil_append, List.getElem?_cons_zero, List.getElem?_cons_succ, List.set_cons_zero, List.set_cons_succ, ok1_some, at0, at1, at2, at3, w_ixT, List.length_cons, List.length_nil, Nat.reduceAdd, Nat.reduceSub, Nat.zero_add, List.replicate_succ, List.replicate_zero]
    refine row_ok it (by omega) fun q h2 hq x2 _ => ?_
    have s1 := sizs_row (a :: ts)
    have s2 := deps_row (a :: ts) (by simp)
    simp only [List.length_cons] at s1
    refine ⟨_, ?_, rowB (a :: ts), q, d + 1, ?_, items_l hq, by omega, rfl, by omega, ex.trans x2⟩
    · omega
    · simp
end K1
end L2.Lv
end
section
set_option maxRecDepth 100000
set_option maxHeartbeats 1000000
set_option autoImplicit false
namespace L2.Lv
section
variable {P : D → Hm → Prop} {N : En → Hm → Prop} {R : D → Hm → Prop} {e : En} {h : Hm}
theorem w_putF {cs : List Nat} {i : Nat} {a v : ME} (o : Ok (v e h) fun d h1 => Ok (a e h1) fun x h2 => ∃ n c fs, x = .ref n ∧ h2[n]? = some (.ins c fs) ∧ (cs.contains c = true ∧ fs.length < 900) ∧ N e (h2.set n (.ins c (putD i d fs)))) : OkS (mPutF cs i a v e h) N R := by
  unfold mPutF
  rw [ok_bs]
  refine o.mono fun d h1 q => ?_
  rw [ok_bs]
  refine q.mono fun x h2 z => ?_
  obtain ⟨n, c, fs, rfl, e1, e2, z⟩ := z
  simp only [e1]
  rw [if_pos e2]
  exact z
theorem w_fld {cs : List Nat} {i : Nat} {a : ME} (o : Ok (a e h) fun x h1 => ∃ n c fs d, x = .ref n ∧ h1[n]? = some (.ins c fs) ∧ cs.contains c = true ∧ fs.lookup i = some d ∧ P d h1) : Ok (mFld cs i a e h) P := by
  unfold mFld
  rw [ok_bind]
  refine o.mono fun x h1 z => ?_
  obtain ⟨n, c, fs, d, rfl, e1, e2, e3, z⟩ := z
  simp only [e1]
  rw [if_pos e2]
  simp only [e3]
  exact z
theorem w_listL {n : Nat} {xs : List D} (q : itemsOf h n = some xs) (c : xs.length ≤ big) : Ok (pList [.ref n] h) P ↔ P (.ref h.length) (h ++ [.lst xs]) := by
  unfold pList
  simp only [seqOf, q]
  first | exact w_newL.trans ⟨fun z => z.2, fun z => ⟨c, z⟩⟩ | (rw [if_pos c]; exact Iff.rfl)
theorem w_listT {xs : List D} (c : xs.length ≤ big) : Ok (pList [.tup xs] h) P ↔ P (.ref h.length) (h ++ [.lst xs]) := by
  unfold pList
  simp only [seqOf]
  first | exact w_newL.trans ⟨fun z => z.2, fun z => ⟨c, z⟩⟩ | (rw [if_pos c]; exact Iff.rfl)
theorem ok_noEx {α : Type} {x : Re α} {P : α → Hm → Prop} (o : Ok x P) : Ok (noEx x) P := by
  cases x with
  | ok a h => exact o
  | ex c v h => exact o.elim
  | no => exact o.elim
end
namespace K1
open PySem
/-- a Term of the tree at o -/
def TermAt (h : Hm) (o : Nat) (t : Tr) : Prop := ∃ pn pb pu : Nat, h[o]? = some (.ins 0 [(0, toD t), (1, .ref pn), (2, .ref pb), (3, .ref pu), (4, .int (dep t : Nat))]) ∧ h[pn]? = some (.lst (toDs (nod t))) ∧ h[pb]? = some (.lst (nums tBind 0 (nod t))) ∧ h[pu]? = some (.lst (nums tUse 0 (nod t))) ∧ o < pn ∧ o < pb ∧ o < pu
theorem TermAt.ext {h h' : Hm} {o : Nat} {t : Tr} (q : TermAt h o t) (x : Ext h h') : TermAt h' o t := by
  obtain ⟨pn, pb, pu, a, b, c, d⟩ := q
  exact ⟨pn, pb, pu, x _ _ a, x _ _ b, x _ _ c, x _ _ d.1, d.2⟩
theorem TermAt.but {h h' : Hm} {o s : Nat} {t : Tr} (q : TermAt h o t) (b : But s h h') (l : s < o) : TermAt h' o t := by
  obtain ⟨pn, pb, pu, a, e, c, d, l1, l2, l3⟩ := q
  exact ⟨pn, pb, pu, b.2 _ _ (by omega) a, b.2 _ _ (by omega) e, b.2 _ _ (by omega) c, b.2 _ _ (by omega) d, l1, l2, l3⟩
theorem Ext.but {s : Nat} {h h' : Hm} (x : Ext h h') : But s h h' := ⟨x.le, fun n ob _ q => x n ob q⟩
theorem But.ext {s : Nat} {h h' : Hm} {o : Ob} (b : But s (h ++ [o]) h') (e : s = h.length) : Ext h h' := fun n ob q => by
  have := lt_of_at q
  exact b.2 n ob (by omega) (app_old q)
theorem init_ok {m o : Nat} {t : Tr} {h : Hm} {P : D → Hm → Prop} (g : good t) (hz : siz t ≤ 60) (ho : h[o]? = some (.ins 0 [])) (k : ∀ h' : Hm, TermAt h' o t → But o h h' → P .non h') : Ok (cl (m + 4) 13 [.ref o, toD t] h) P := by
  rw [c_13]
  refine ok_body rfl ?_
  unfold b_13
  have lo := lt_of_at ho
  rw [w_seq, w_ifS]
  simp only [w_ifS, w_bin, w_app, w_call, w_cons, w_nil, w_tup, w_lst, w_if, w_tb, w_not, w_and, w_or, w_c, w_v, w_un, w_int, w_intB, w_addI, w_subI, w_lt, w_le, w_gt, w_ge, w_eqI, w_methL, startE, List.map_cons, List.map_nil, List.cons_append, List.nil_append, List.getElem?_cons_zero, List.getElem?_cons_succ, List.set_cons_zero, List.set_cons_succ, ok1_some, at0, at1, at2, at3, w_ixT, List.length_cons, List.length_nil, Nat.reduceAdd, Nat.reduceSub, Nat.zero_add, List.replicate_succ, List.replicate_zero, w_tru]
  refine istree_ok (ok_of_good g) (by omega) fun h1 x1 => ⟨true, rfl, ?_⟩
  simp only [Bool.not_true, Bool.false_eq_true, if_false, w_pass]
  rw [w_seq, w_set]
  simp only [w_ifS, w_bin, w_app, w_call, w_cons, w_nil, w_tup, w_lst, w_if, w_tb, w_not, w_and, w_or, w_c, w_v, w_un, w_int, w_intB, w_addI, w_subI, w_lt, w_le, w_gt, w_ge, w_eqI, w_methL, startE, List.map_cons, List.map_nil, List.cons_append, List.nil_append, List.getElem?_cons_zero, List.getElem?_cons_succ, List.set_cons_zero, List.set_cons_succ, ok1_some, at0, at1, at2, at3, w_ixT, List.length_cons, List.length_nil, Nat.reduceAdd, Nat.reduceSub, Nat.zero_add, List.replicate_succ, List.replicate_zero]
  have ln := nod_len t
  refine nodes_ok (m := m + 1) (by omega) fun pn h2 q2 x2 l2 => ?_
  rw [w_seq, w_ifS]
  simp only [w_ifS, w_bin, w_app, w_call, w_cons, w_nil, w_tup, w_lst, w_if, w_tb, w_not, w_and, w_or, w_c, w_v, w_un, w_int, w_intB, w_addI, w_subI, w_lt, w_le, w_gt, w_ge, w_eqI, w_methL, startE, List.map_cons, List.map_nil, List.cons_append, List.nil_append, List.getElem?_cons_zero, List.getElem?_cons_succ, List.set_cons_zero, List.set_cons_succ, ok1_some, at0, at1, at2, at3, w_ixT, List.length_cons, List.length_nil, Nat.reduceAdd, Nat.reduceSub, Nat.zero_add, List.replicate_succ, List.replicate_zero]
  rw [w_lenL (items_l q2), toDs_len, ln]
  refine ⟨false, ?_, ?_⟩
  · exact congrArg D.bl (decide_eq_false (by omega))
  simp only [Bool.false_eq_true, if_false, w_pass]
  rw [w_seq, w_set]
  simp only [w_ifS, w_bin, w_app, w_call, w_cons, w_nil, w_tup, w_lst, w_if, w_tb, w_not, w_and, w_or, w_c, w_v, w_un, w_int, w_intB, w_addI, w_subI, w_lt, w_le, w_gt, w_ge, w_eqI, w_methL, startE, List.map_cons, List.map_nil, List.cons_append, List.nil_append, List.getElem?_cons_zero, List.getElem?_cons_succ, List.set_cons_zero, List.set_cons_succ, ok1_some, at0, at1, at2, at3, w_ixT, List.length_cons, List.length_nil, Nat.reduceAdd, Nat.reduceSub, Nat.zero_add, List.replicate_succ, List.replicate_zero]
  refine numbers_ok (m := m + 2) (items_l q2) (by omega) (by decide) fun pb h3 q3 x3 l3 => ?_
  have lb := nums_len tBind 0 (nod t)
  have q3 : h3[pb]? = some (.lst (nums tBind 0 (nod t))) := q3
  rw [w_seq, w_ifS]
  simp only [w_ifS, w_bin, w_app, w_call, w_cons, w_nil, w_tup, w_lst, w_if, w_tb, w_not, w_and, w_or, w_c, w_v, w_un, w_int, w_intB, w_addI, w_subI, w_lt, w_le, w_gt, w_ge, w_eqI, w_methL, startE, List.map_cons, List.map_nil, List.cons_append, List.nil_append, List.getElem?_cons_zero, List.getElem?_cons_succ, List.set_cons_zero, List.set_cons_succ, ok1_some, at0, at1, at2, at3, w_ixT, List.length_cons, List.length_nil, Nat.reduceAdd, Nat.reduceSub, Nat.zero_add, List.replicate_succ, List.replicate_zero]
  rw [w_lenL (items_l q3)]
  refine ⟨false, ?_, ?_⟩
  · exact congrArg D.bl (decide_eq_false (by omega))
  simp only [Bool.false_eq_true, if_false, w_pass]
  rw [w_seq, w_set]
  simp only [w_ifS, w_bin, w_app, w_call, w_cons, w_nil, w_tup, w_lst, w_if, w_tb, w_not, w_and, w_or, w_c, w_v, w_un, w_int, w_intB, w_addI, w_subI, w_lt, w_le, w_gt, w_ge, w_eqI, w_methL, startE, List.map_cons, List.map_nil, List.cons_append, List.nil_append, List.getElem?_cons_zero, List.getElem?_cons_succ, List.set_cons_zero, List.set_cons_succ, ok1_some, at0, at1, at2, at3, w_ixT, List.length_cons, List.length_nil, Nat.reduceAdd, Nat.reduceSub, Nat.zero_add, List.replicate_succ, List.replicate_zero]
  refine depth_ok (m := m) (by omega) fun h4 x4 => ?_
  have ld := dep_le t
  rw [w_seq, w_ifS]
  simp only [w_ifS, w_bin, w_app, w_call, w_cons, w_nil, w_tup, w_lst, w_if, w_tb, w_not, w_and, w_or, w_c, w_v, w_un, w_int, w_intB, w_addI, w_subI, w_lt, w_le, w_gt, w_ge, w_eqI, w_methL, startE, List.map_cons, List.map_nil, List.cons_append, List.nil_append, List.getElem?_cons_zero, List.getElem?_cons_succ, List.set_cons_zero, List.set_cons_succ, ok1_some, at0, at1, at2, at3, w_ixT, List.length_cons, List.length_nil, Nat.reduceAdd, Nat.reduceSub, Nat.zero_add, List.replicate_succ, List.replicate_zero]
  refine ⟨false, ?_, ?_⟩
  · exact congrArg D.bl (decide_eq_false (by omega))
  simp only [Bool.false_eq_true, if_false, w_pass]
  have x14 : Ext h h4 := ((x1.trans x2).trans x3).trans x4
  have o4 : h4[o]? = some (.ins 0 []) := x14 _ _ ho
  have l1 := x1.le
  have l23 := x2.le
  have n4 : h4[pn]? = some (.lst (toDs (nod t))) := x4 _ _ (x3 _ _ q2)
  have b4 : h4[pb]? = some (.lst (nums tBind 0 (nod t))) := x4 _ _ q3
  have npn : o ≠ pn := by omega
  have npb : o ≠ pb := by omega
  -- the five fields
  rw [w_seq]
  refine w_putF ?_
  simp only [w_seq, w_ifS, w_set, w_ret, w_par, w_asg, w_sub, w_drop, w_pass, w_bin, w_app, w_call, w_cons, w_nil, w_tup, w_lst, w_if, w_tb, w_not, w_and, w_or, w_c, w_v, w_un, w_int, w_intB, w_addI, w_subI, w_lt, w_le, w_gt, w_ge, w_eqI, w_methL, startE, List.map_cons, List.map_nil, List.cons_append, List.nil_append, List.getElem?_cons_zero, List.getElem?_cons_succ, List.set_cons_zero, List.set_cons_succ, ok1_some, at0, at1, at2, at3, w_ixT, List.length_cons, List.length_nil, Nat.reduceAdd, Nat.reduceSub, Nat.zero_add, List.replicate_succ, List.replicate_zero]
  refine ⟨o, 0, [], rfl, o4, ⟨rfl, by simp⟩, ?_⟩
  have o5 : (h4.set o (.ins 0 [(0, toD t)]))[o]? = some (.ins 0 [(0, toD t)]) := List.getElem?_set_self (lt_of_at o4)
  have n5 : (h4.set o (.ins 0 [(0, toD t)]))[pn]? = some (.lst (toDs (nod t))) := by rw [List.getElem?_set_ne npn]; exact n4
  have b5 : (h4.set o (.ins 0 [(0, toD t)]))[pb]? = some (.lst (nums tBind 0 (nod t))) := by rw [List.getElem?_set_ne npb]; exact b4
  have u5 : But o h (h4.set o (.ins 0 [(0, toD t)])) := (Ext.but x14).trans But.set
  show OkS _ _ _
  rw [show putD 0 (toD t) [] = [(0, toD t)] from rfl]
  generalize h4.set o (.ins 0 [(0, toD t)]) = h5 at o5 n5 b5 u5 ⊢
  refine w_putF ?_
  simp only [w_seq, w_ifS, w_set, w_ret, w_par, w_asg, w_sub, w_drop, w_pass, w_bin, w_app, w_call, w_cons, w_nil, w_tup, w_lst, w_if, w_tb, w_not, w_and, w_or, w_c, w_v, w_un, w_int, w_intB, w_addI, w_subI, w_lt, w_le, w_gt, w_ge, w_eqI, w_methL, startE, List.map_cons, List.map_nil, List.cons_append, List.nil_append, List.getElem?_cons_zero, List.getElem?_cons_succ, List.set_cons_zero, List.set_cons_succ, ok1_some, at0, at1, at2, at3, w_ixT, List.length_cons, List.length_nil, Nat.reduceAdd, Nat.reduceSub, Nat.zero_add, List.replicate_succ, List.replicate_zero]
  refine ⟨o, 0, _, rfl, o5, ⟨rfl, by simp⟩, ?_⟩
  rw [show putD 1 (.ref pn) [(0, toD t)] = [(0, toD t), (1, .ref pn)] from rfl]
  have o6 : (h5.set o (.ins 0 [(0, toD t), (1, .ref pn)]))[o]? = some (.ins 0 [(0, toD t), (1, .ref pn)]) := List.getElem?_set_self (lt_of_at o5)
  have n6 : (h5.set o (.ins 0 [(0, toD t), (1, .ref pn)]))[pn]? = some (.lst (toDs (nod t))) := by rw [List.getElem?_set_ne npn]; exact n5
  have b6 : (h5.set o (.ins 0 [(0, toD t), (1, .ref pn)]))[pb]? = some (.lst (nums tBind 0 (nod t))) := by rw [List.getElem?_set_ne npb]; exact b5
  have u6 : But o h (h5.set o (.ins 0 [(0, toD t), (1, .ref pn)])) := u5.trans But.set
  generalize h5.set o (.ins 0 [(0, toD t), (1, .ref pn)]) = h6 at o6 n6 b6 u6 ⊢
  refine w_putF ?_
  simp only [w_seq, w_ifS, w_set, w_ret, w_par, w_asg, w_sub, w_drop, w_pass, w_bin, w_app, w_call, w_cons, w_nil, w_tup, w_lst, w_if, w_tb, w_not, w_and, w_or, w_c, w_v, w_un, w_int, w_intB, w_addI, w_subI, w_lt, w_le, w_gt, w_ge, w_eqI, w_methL, startE, List.map_cons, List.map_nil, List.cons_append, List.nil_append, List.getElem?_cons_zero, List.getElem?_cons_succ, List.set_cons_zero, List.set_cons_succ, ok1_some, at0, at1, at2, at3, w_ixT, List.length_cons, List.length_nil, Nat.reduceAdd, Nat.reduceSub, Nat.zero_add, List.replicate_succ, List.replicate_zero]
  refine ⟨o, 0, _, rfl, o6, ⟨rfl, by simp⟩, ?_⟩
  rw [show putD 2 (.ref pb) [(0, toD t), (1, .ref pn)] = [(0, toD t), (1, .ref pn), (2, .ref pb)] from rfl]
  have o7 : (h6.set o (.ins 0 [(0, toD t), (1, .ref pn), (2, .ref pb)]))[o]? = some (.ins 0 [(0, toD t), (1, .ref pn), (2, .ref pb)]) := List.getElem?_set_self (lt_of_at o6)
  have n7 : (h6.set o (.ins 0 [(0, toD t), (1, .ref pn), (2, .ref pb)]))[pn]? = some (.lst (toDs (nod t))) := by rw [List.getElem?_set_ne npn]; exact n6
  have b7 : (h6.set o (.ins 0 [(0, toD t), (1, .ref pn), (2, .ref pb)]))[pb]? = some (.lst (nums tBind 0 (nod t))) := by rw [List.getElem?_set_ne npb]; exact b6
  have u7 : But o h (h6.set o (.ins 0 [(0, toD t), (1, .ref pn), (2, .ref pb)])) := u6.trans But.set
  generalize h6.set o (.ins 0 [(0, toD t), (1, .ref pn), (2, .ref pb)]) = h7 at o7 n7 b7 u7 ⊢
  refine w_putF ?_
  simp only [w_seq, w_ifS, w_set, w_ret, w_par, w_asg, w_sub, w_drop, w_pass, w_bin, w_app, w_call, w_cons, w_nil, w_tup, w_lst, w_if, w_tb, w_not, w_and, w_or, w_c, w_v, w_un, w_int, w_intB, w_addI, w_subI, w_lt, w_le, w_gt, w_ge, w_eqI, w_methL, startE, List.map_cons, List.map_nil, List.cons_append, List.nil_append, List.getElem?_cons_zero, List.getElem?_cons_succ, List.set_cons_zero, List.set_cons_succ, ok1_some, at0, at1, at2, at3, w_ixT, List.length_cons, List.length_nil, Nat.reduceAdd, Nat.reduceSub, Nat.zero_add, List.replicate_succ, List.replicate_zero]
  refine numbers_ok (m := m + 2) (items_l n7) (by omega) (by decide) fun pu h8 q8 x8 l8 => ?_
  have q8 : h8[pu]? = some (.lst (nums tUse 0 (nod t))) := q8
  have o8 := x8 _ _ o7
  have npu : o ≠ pu := by
    have := lt_of_at o7
    omega
  refine ⟨o, 0, _, rfl, o8, ⟨rfl, by simp⟩, ?_⟩
  rw [show putD 3 (.ref pu) [(0, toD t), (1, .ref pn), (2, .ref pb)] = [(0, toD t), (1, .ref pn), (2, .ref pb), (3, .ref pu)] from rfl]
  have o9 : (h8.set o (.ins 0 [(0, toD t), (1, .ref pn), (2, .ref pb), (3, .ref pu)]))[o]? = some (.ins 0 [(0, toD t), (1, .ref pn), (2, .ref pb), (3, .ref pu)]) := List.getElem?_set_self (lt_of_at o8)
  have n9 : (h8.set o (.ins 0 [(0, toD t), (1, .ref pn), (2, .ref pb), (3, .ref pu)]))[pn]? = some (.lst (toDs (nod t))) := by rw [List.getElem?_set_ne npn]; exact x8 _ _ n7
  have b9 : (h8.set o (.ins 0 [(0, toD t), (1, .ref pn), (2, .ref pb), (3, .ref pu)]))[pb]? = some (.lst (nums tBind 0 (nod t))) := by rw [List.getElem?_set_ne npb]; exact x8 _ _ b7
  have v9 : (h8.set o (.ins 0 [(0, toD t), (1, .ref pn), (2, .ref pb), (3, .ref pu)]))[pu]? = some (.lst (nums tUse 0 (nod t))) := by rw [List.getElem?_set_ne npu]; exact q8
  have u9 : But o h (h8.set o (.ins 0 [(0, toD t), (1, .ref pn), (2, .ref pb), (3, .ref pu)])) := (u7.trans (Ext.but x8)).trans But.set
  generalize h8.set o (.ins 0 [(0, toD t), (1, .ref pn), (2, .ref pb), (3, .ref pu)]) = h9 at o9 n9 b9 v9 u9 ⊢
  refine w_putF ?_
  simp only [w_seq, w_ifS, w_set, w_ret, w_par, w_asg, w_sub, w_drop, w_pass, w_bin, w_app, w_call, w_cons, w_nil, w_tup, w_lst, w_if, w_tb, w_not, w_and, w_or, w_c, w_v, w_un, w_int, w_intB, w_addI, w_subI, w_lt, w_le, w_gt, w_ge, w_eqI, w_methL, startE, List.map_cons, List.map_nil, List.cons_append, List.nil_append, List.getElem?_cons_zero, List.getElem?_cons_succ, List.set_cons_zero, List.set_cons_succ, ok1_some, at0, at1, at2, at3, w_ixT, List.length_cons, List.length_nil, Nat.reduceAdd, Nat.reduceSub, Nat.zero_add, List.replicate_succ, List.replicate_zero]
  refine ⟨o, 0, _, rfl, o9, ⟨rfl, by simp⟩, ?_⟩
  rw [show putD 4 (.int (dep t : Nat)) [(0, toD t), (1, .ref pn), (2, .ref pb), (3, .ref pu)] = [(0, toD t), (1, .ref pn), (2, .ref pb), (3, .ref pu), (4, .int (dep t : Nat))] from rfl]
  have l7 := lt_of_at o7
  refine k _ ⟨pn, pb, pu, List.getElem?_set_self (lt_of_at o9), ?_, ?_, ?_, by omega, by omega, by omega⟩ (u9.trans But.set)
  · rw [List.getElem?_set_ne npn]; exact n9
  · rw [List.getElem?_set_ne npb]; exact b9
  · rw [List.getElem?_set_ne npu]; exact v9
end K1
end L2.Lv
end
section
set_option maxRecDepth 100000
set_option maxHeartbeats 1000000
set_option autoImplicit false
namespace L2.Lv
section
variable {P : D → Hm → Prop} {N : En → Hm → Prop} {R : D → Hm → Prop} {e : En} {h : Hm}
theorem w_own {c : Nat} {m : List D → Hm → Re D} {o : ME} {a : MA} (q : Ok (o e h) fun x h1 => isIns c h1 x = true ∧ Ok (a e h1) fun ds h2 => Ok (m (x :: ds) h2) P) : Ok (mOwn c m o a e h) P := by
  unfold mOwn
  rw [ok_bind]
  refine q.mono fun x h1 z => ?_
  rw [if_pos z.1, ok_bind]
  exact z.2
theorem ins_is {c n : Nat} {fs : List (Nat × D)} (q : h[n]? = some (.ins c fs)) : isIns c h (.ref n) = true := by
  unfold isIns
  simp [q]
theorem kd_ins {c n : Nat} {fs : List (Nat × D)} (q : h[n]? = some (.ins c fs)) : kd h (.ref n) = 7 + c := by
  unfold kd
  simp only [q]
theorem w_lenO {c n : Nat} {m : List D → Hm → Re D} {fs : List (Nat × D)} (q : h[n]? = some (.ins c fs)) (o : Ok (m [.ref n] h) fun v h1 => ∃ i : Int, v = .int i ∧ (0 ≤ i ∧ i < 2 ^ 63) ∧ P (.int i) h1) : Ok (pLenO c m [.ref n] h) P := by
  unfold pLenO
  dsimp only
  rw [if_pos (ins_is q), ok_bind]
  refine (ok_noEx o).mono fun v h1 z => ?_
  obtain ⟨i, rfl, b, z⟩ := z
  simp only
  rw [if_pos b]
  exact z
theorem w_eqO {c nc n : Nat} {m : List D → Hm → Re D} {fs : List (Nat × D)} {b : D} (q : h[n]? = some (.ins c fs)) (hb : kd h b < 7 + nc) (o : Ok (m [.ref n, b] h) P) : Ok (pEqO c nc m (.ref n) b h) P := by
  unfold pEqO
  rw [if_pos ⟨ins_is q, hb⟩]
  exact ok_noEx o
theorem w_inO {c n : Nat} {neg : Bool} {m : List D → Hm → Re D} {fs : List (Nat × D)} {b : D} (q : h[n]? = some (.ins c fs)) (o : Ok (m [.ref n, b] h) fun v h1 => ∃ t, v = .bl t ∧ P (.bl (if neg then !t else t)) h1) : Ok (pInO neg c m b (.ref n) h) P := by
  unfold pInO
  rw [if_pos (ins_is q), ok_bind]
  refine (ok_noEx o).mono fun v h1 z => ?_
  obtain ⟨t, rfl, z⟩ := z
  exact z
theorem w_getO {c n : Nat} {m : List D → Hm → Re D} {fs : List (Nat × D)} {b : D} (q : h[n]? = some (.ins c fs)) (o : Ok (m [.ref n, b] h) P) : Ok (pGetO c m (.ref n) b h) P := by
  unfold pGetO
  rw [if_pos (ins_is q)]
  exact o
theorem w_make {c : Nat} {m : List D → Hm → Re D} {a : MA} (q : Ok (a e h) fun ds h1 => Ok (m (.ref h1.length :: ds) (h1 ++ [.ins c []])) fun d h2 => d = .non ∧ P (.ref h1.length) h2) : Ok (mMake c m a e h) P := by
  unfold mMake
  rw [ok_bind]
  refine q.mono fun ds h1 z => ?_
  rw [ok_bind]
  refine Ok.mono z fun d h2 y => ?_
  obtain ⟨rfl, y⟩ := y
  exact y
end
def nr : Nat → D → Bool
  | 0, _ => true
  | n + 1, d => match d with
    | .ref _ => false
    | .tup xs => xs.all (nr n)
    | _ => true
theorem eqL_nr {n : Nat} {h1 h2 : Hm} (ih : ∀ a b, nr n a = true → nr n b = true → eqB n h1 a b = eqB n h2 a b) : ∀ {xs ys : List D}, xs.all (nr n) = true → ys.all (nr n) = true → eqL (eqB n h1) xs ys = eqL (eqB n h2) xs ys
  | [], [], _, _ => rfl
  | [], _ :: _, _, _ => rfl
  | _ :: _, [], _, _ => rfl
  | x :: xs, y :: ys, a, b => by
    rw [List.all_cons, Bool.and_eq_true] at a b
    unfold eqL
    rw [ih x y a.1 b.1, eqL_nr ih a.2 b.2]
theorem eqB_nr {h1 h2 : Hm} : ∀ (n : Nat) (a b : D), nr n a = true → nr n b = true → eqB n h1 a b = eqB n h2 a b
  | 0, _, _, _, _ => rfl
  | n + 1, a, b, ha, hb => by
    cases a with
    | ref i => cases ha
    | tup xs =>
      cases b with
      | ref i => cases hb
      | tup ys =>
        show eqL (eqB n h1) xs ys = eqL (eqB n h2) xs ys
        exact eqL_nr (eqB_nr n) ha hb
      | _ => rfl
    | _ =>
      cases b with
      | ref i => cases hb
      | _ => rfl
namespace K1
open PySem
mutual
theorem nr_tree : ∀ (t : Tr) (n : Nat), nr n (toD t) = true
  | .use a, 0 => rfl
  | .use a, 1 => rfl
  | .use a, n + 2 => rfl
  | .join l ts, 0 => rfl
  | .join l ts, 1 => rfl
  | .join l ts, n + 2 => by
    simp only [toD, nr, List.all_cons, List.all_nil, Bool.and_true, Bool.true_and]
    exact nr_trees ts n
  | .bind a ah b, 0 => rfl
  | .bind a ah b, 1 => rfl
  | .bind a ah b, n + 2 => by
    have h1 := nr_tree b (n + 1)
    show (true && (true && (nr (n + 1) (.tup (toDs ah)) && (nr (n + 1) (toD b) && true)))) = true
    rw [h1]
    simp only [Bool.true_and, Bool.and_true]
    exact nr_trees ah n
theorem nr_trees : ∀ (ts : List Tr) (n : Nat), (toDs ts).all (nr n) = true
  | [], _ => rfl
  | t :: ts, n => by
    simp only [toDs, List.all_cons, nr_tree t n, nr_trees ts n, Bool.and_self]
end
/-- one tree, whatever the heap -/
def teq (n : Nat) (a b : Tr) : Bool := eqB n [] (toD a) (toD b)
theorem teq_is {n : Nat} {h : Hm} {a b : Tr} : eqB n h (toD a) (toD b) = teq n a b := eqB_nr n _ _ (nr_tree a n) (nr_tree b n)
theorem teq_refl {n : Nat} {a : Tr} (g : good a) (hn : 2 * siz a + 1 ≤ n) : teq n a a = true := eqB_refl n _ (okD_tree a n hn g)
def inT (t u : Tr) : Bool := (nod t).any fun z => teq 60 z u
theorem inB_is {h : Hm} {u : Tr} : ∀ ts : List Tr, inB h (toD u) (toDs ts) = ts.any fun z => teq 60 z u
  | [] => rfl
  | t :: ts => by
    have ih := inB_is (h := h) (u := u) ts
    unfold inB at ih ⊢
    rw [toDs, List.any_cons, List.any_cons, ih, teq_is]
theorem w_in {neg : Bool} {a : D} {n : Nat} {xs : List D} {h : Hm} {P : D → Hm → Prop} (q : itemsOf h n = some xs) (o1 : okD 60 h a = true) (o2 : xs.all (okD 60 h) = true) : Ok (pIn neg a (.ref n) h) P ↔ P (.bl (if neg then !inB h a xs else inB h a xs)) h := by
  unfold pIn
  simp only [q, o1, o2, Bool.and_self, if_true]
  exact Iff.rfl
theorem okNodes {h : Hm} {t : Tr} (g : good t) (hz : siz t ≤ 29) : (toDs (nod t)).all (okD 60 h) = true := by
  rw [toDs_map, List.all_map, List.all_eq_true]
  intro u hu
  have z := nod_good t g u hu
  exact okD_tree u 60 (by omega) z.1
section
variable {m o : Nat} {t : Tr} {h : Hm} {P : D → Hm → Prop}
theorem tree_m (q : TermAt h o t) (k : P (toD t) h) : Ok (cl (m + 1) 14 [.ref o] h) P := by
  obtain ⟨pn, pb, pu, a, b, c, d⟩ := q
  rw [c_14]
  refine ok_body rfl ?_
  unfold b_14
  rw [w_ret]
  refine w_fld ?_
  simp only [w_seq, w_ifS, w_set, w_ret, w_par, w_asg, w_sub, w_drop, w_pass, w_bin, w_app, w_call, w_cons, w_nil, w_tup, w_lst, w_if, w_tb, w_not, w_and, w_or, w_c, w_v, w_un, w_int, w_intB, w_addI, w_subI, w_lt, w_le, w_gt, w_ge, w_eqI, w_methL, startE, List.map_cons, List.map_nil, List.cons_append, List.nil_append, List.getElem?_cons_zero, List.getElem?_cons_succ, List.set_cons_zero, List.set_cons_succ, ok1_some, at0, at1, at2, at3, w_ixT, List.length_cons, List.length_nil, Nat.reduceAdd, Nat.reduceSub, Nat.zero_add, List.replicate_succ, List.replicate_zero]
  exact ⟨o, 0, _, _, rfl, a, rfl, rfl, k⟩
theorem len_m (q : TermAt h o t) (k : P (.int (siz t : Nat)) h) : Ok (cl (m + 1) 15 [.ref o] h) P := by
  obtain ⟨pn, pb, pu, a, b, c, d⟩ := q
  rw [c_15]
  refine ok_body rfl ?_
  unfold b_15
  rw [w_ret, w_app, w_cons]
  refine w_fld ?_
  simp only [w_seq, w_ifS, w_set, w_ret, w_par, w_asg, w_sub, w_drop, w_pass, w_bin, w_app, w_call, w_cons, w_nil, w_tup, w_lst, w_if, w_tb, w_not, w_and, w_or, w_c, w_v, w_un, w_int, w_intB, w_addI, w_subI, w_lt, w_le, w_gt, w_ge, w_eqI, w_methL, startE, List.map_cons, List.map_nil, List.cons_append, List.nil_append, List.getElem?_cons_zero, List.getElem?_cons_succ, List.set_cons_zero, List.set_cons_succ, ok1_some, at0, at1, at2, at3, w_ixT, List.length_cons, List.length_nil, Nat.reduceAdd, Nat.reduceSub, Nat.zero_add, List.replicate_succ, List.replicate_zero]
  refine ⟨o, 0, _, _, rfl, a, rfl, rfl, ?_⟩
  rw [w_lenL (items_l b), toDs_len, nod_len]
  exact k
theorem depth_m (q : TermAt h o t) (k : P (.int (dep t : Nat)) h) : Ok (cl (m + 1) 22 [.ref o] h) P := by
  obtain ⟨pn, pb, pu, a, b, c, d⟩ := q
  rw [c_22]
  refine ok_body rfl ?_
  unfold b_22
  rw [w_ret]
  refine w_fld ?_
  simp only [w_seq, w_ifS, w_set, w_ret, w_par, w_asg, w_sub, w_drop, w_pass, w_bin, w_app, w_call, w_cons, w_nil, w_tup, w_lst, w_if, w_tb, w_not, w_and, w_or, w_c, w_v, w_un, w_int, w_intB, w_addI, w_subI, w_lt, w_le, w_gt, w_ge, w_eqI, w_methL, startE, List.map_cons, List.map_nil, List.cons_append, List.nil_append, List.getElem?_cons_zero, List.getElem?_cons_succ, List.set_cons_zero, List.set_cons_succ, ok1_some, at0, at1, at2, at3, w_ixT, List.length_cons, List.length_nil, Nat.reduceAdd, Nat.reduceSub, Nat.zero_add, List.replicate_succ, List.replicate_zero]
  exact ⟨o, 0, _, _, rfl, a, rfl, rfl, k⟩
theorem listed_m (q : TermAt h o t) (hz : siz t ≤ 1000) (k : P (.ref h.length) (h ++ [.lst (toDs (nod t))])) : Ok (cl (m + 1) 19 [.ref o] h) P := by
  obtain ⟨pn, pb, pu, a, b, c, d⟩ := q
  rw [c_19]
  refine ok_body rfl ?_
  unfold b_19
  rw [w_ret, w_app, w_cons]
  refine w_fld ?_
  simp only [w_seq, w_ifS, w_set, w_ret, w_par, w_asg, w_sub, w_drop, w_pass, w_bin, w_app, w_call, w_cons, w_nil, w_tup, w_lst, w_if, w_tb, w_not, w_and, w_or, w_c, w_v, w_un, w_int, w_intB, w_addI, w_subI, w_lt, w_le, w_gt, w_ge, w_eqI, w_methL, startE, List.map_cons, List.map_nil, List.cons_append, List.nil_append, List.getElem?_cons_zero, List.getElem?_cons_succ, List.set_cons_zero, List.set_cons_succ, ok1_some, at0, at1, at2, at3, w_ixT, List.length_cons, List.length_nil, Nat.reduceAdd, Nat.reduceSub, Nat.zero_add, List.replicate_succ, List.replicate_zero]
  refine ⟨o, 0, _, _, rfl, a, rfl, rfl, ?_⟩
  rw [w_listL (items_l b) (by rw [toDs_len, nod_len]; unfold big; omega)]
  exact k
theorem binders_m (q : TermAt h o t) (hz : siz t ≤ 1000) (k : P (.ref h.length) (h ++ [.lst (nums tBind 0 (nod t))])) : Ok (cl (m + 1) 20 [.ref o] h) P := by
  obtain ⟨pn, pb, pu, a, b, c, d⟩ := q
  rw [c_20]
  refine ok_body rfl ?_
  unfold b_20
  rw [w_ret, w_app, w_cons]
  refine w_fld ?_
  simp only [w_seq, w_ifS, w_set, w_ret, w_par, w_asg, w_sub, w_drop, w_pass, w_bin, w_app, w_call, w_cons, w_nil, w_tup, w_lst, w_if, w_tb, w_not, w_and, w_or, w_c, w_v, w_un, w_int, w_intB, w_addI, w_subI, w_lt, w_le, w_gt, w_ge, w_eqI, w_methL, startE, List.map_cons, List.map_nil, List.cons_append, List.nil_append, List.getElem?_cons_zero, List.getElem?_cons_succ, List.set_cons_zero, List.set_cons_succ, ok1_some, at0, at1, at2, at3, w_ixT, List.length_cons, List.length_nil, Nat.reduceAdd, Nat.reduceSub, Nat.zero_add, List.replicate_succ, List.replicate_zero]
  refine ⟨o, 0, _, _, rfl, a, rfl, rfl, ?_⟩
  have l1 := nums_len tBind 0 (nod t)
  rw [nod_len] at l1
  rw [w_listL (items_l c) (by unfold big; omega)]
  exact k
theorem uses_m (q : TermAt h o t) (hz : siz t ≤ 1000) (k : P (.ref h.length) (h ++ [.lst (nums tUse 0 (nod t))])) : Ok (cl (m + 1) 21 [.ref o] h) P := by
  obtain ⟨pn, pb, pu, a, b, c, d⟩ := q
  rw [c_21]
  refine ok_body rfl ?_
  unfold b_21
  rw [w_ret, w_app, w_cons]
  refine w_fld ?_
  simp only [w_seq, w_ifS, w_set, w_ret, w_par, w_asg, w_sub, w_drop, w_pass, w_bin, w_app, w_call, w_cons, w_nil, w_tup, w_lst, w_if, w_tb, w_not, w_and, w_or, w_c, w_v, w_un, w_int, w_intB, w_addI, w_subI, w_lt, w_le, w_gt, w_ge, w_eqI, w_methL, startE, List.map_cons, List.map_nil, List.cons_append, List.nil_append, List.getElem?_cons_zero, List.getElem?_cons_succ, List.set_cons_zero, List.set_cons_succ, ok1_some, at0, at1, at2, at3, w_ixT, List.length_cons, List.length_nil, Nat.reduceAdd, Nat.reduceSub, Nat.zero_add, List.replicate_succ, List.replicate_zero]
  refine ⟨o, 0, _, _, rfl, a, rfl, rfl, ?_⟩
  have l1 := nums_len tUse 0 (nod t)
  rw [nod_len] at l1
  rw [w_listL (items_l d.1) (by unfold big; omega)]
  exact k
theorem contains_m {u : Tr} (q : TermAt h o t) (g : good t) (hz : siz t ≤ 29) (gu : good u) (hu : siz u ≤ 29) (k : ∀ h', Ext h h' → P (.bl (inT t u)) h') : Ok (cl (m + 4) 17 [.ref o, toD u] h) P := by
  obtain ⟨pn, pb, pu, a, b, c, d⟩ := q
  rw [c_17]
  refine ok_body rfl ?_
  unfold b_17
  rw [w_ret, w_andV]
  simp only [w_seq, w_ifS, w_set, w_ret, w_par, w_asg, w_sub, w_drop, w_pass, w_bin, w_app, w_call, w_cons, w_nil, w_tup, w_lst, w_if, w_tb, w_not, w_and, w_or, w_c, w_v, w_un, w_int, w_intB, w_addI, w_subI, w_lt, w_le, w_gt, w_ge, w_eqI, w_methL, startE, List.map_cons, List.map_nil, List.cons_append, List.nil_append, List.getElem?_cons_zero, List.getElem?_cons_succ, List.set_cons_zero, List.set_cons_succ, ok1_some, at0, at1, at2, at3, w_ixT, List.length_cons, List.length_nil, Nat.reduceAdd, Nat.reduceSub, Nat.zero_add, List.replicate_succ, List.replicate_zero]
  refine istree_ok (ok_of_good gu) (by omega) fun h1 x1 => ⟨true, rfl, ?_⟩
  simp only [if_true, w_seq, w_ifS, w_set, w_ret, w_par, w_asg, w_sub, w_drop, w_pass, w_bin, w_app, w_call, w_cons, w_nil, w_tup, w_lst, w_if, w_tb, w_not, w_and, w_or, w_c, w_v, w_un, w_int, w_intB, w_addI, w_subI, w_lt, w_le, w_gt, w_ge, w_eqI, w_methL, startE, List.map_cons, List.map_nil, List.cons_append, List.nil_append, List.getElem?_cons_zero, List.getElem?_cons_succ, List.set_cons_zero, List.set_cons_succ, ok1_some, at0, at1, at2, at3, w_ixT, List.length_cons, List.length_nil, Nat.reduceAdd, Nat.reduceSub, Nat.zero_add, List.replicate_succ, List.replicate_zero]
  refine w_fld ?_
  simp only [w_seq, w_ifS, w_set, w_ret, w_par, w_asg, w_sub, w_drop, w_pass, w_bin, w_app, w_call, w_cons, w_nil, w_tup, w_lst, w_if, w_tb, w_not, w_and, w_or, w_c, w_v, w_un, w_int, w_intB, w_addI, w_subI, w_lt, w_le, w_gt, w_ge, w_eqI, w_methL, startE, List.map_cons, List.map_nil, List.cons_append, List.nil_append, List.getElem?_cons_zero, List.getElem?_cons_succ, List.set_cons_zero, List.set_cons_succ, ok1_some, at0, at1, at2, at3, w_ixT, List.length_cons, List.length_nil, Nat.reduceAdd, Nat.reduceSub, Nat.zero_add, List.replicate_succ, List.replicate_zero]
  refine ⟨o, 0, _, _, rfl, x1 _ _ a, rfl, rfl, ?_⟩
  rw [w_in (items_l (x1 _ _ b)) (okD_tree u 60 (by omega) gu) (okNodes g hz), inB_is]
  exact k h1 x1
theorem eq_m {o2 : Nat} {u : Tr} (q : TermAt h o t) (q2 : TermAt h o2 u) (g : good t) (hz : siz t ≤ 50) (gu : good u) (hu : siz u ≤ 50) (k : P (.bl (teq deep t u)) h) : Ok (cl (m + 1) 23 [.ref o, .ref o2] h) P := by
  obtain ⟨pn, pb, pu, a, b, c, d⟩ := q
  obtain ⟨pn2, pb2, pu2, a2, _⟩ := q2
  rw [c_23]
  refine ok_body rfl ?_
  unfold b_23
  rw [w_ret, w_andV]
  simp only [w_seq, w_ifS, w_set, w_ret, w_par, w_asg, w_sub, w_drop, w_pass, w_bin, w_app, w_call, w_cons, w_nil, w_tup, w_lst, w_if, w_tb, w_not, w_and, w_or, w_c, w_v, w_un, w_int, w_intB, w_addI, w_subI, w_lt, w_le, w_gt, w_ge, w_eqI, w_methL, startE, List.map_cons, List.map_nil, List.cons_append, List.nil_append, List.getElem?_cons_zero, List.getElem?_cons_succ, List.set_cons_zero, List.set_cons_succ, ok1_some, at0, at1, at2, at3, w_ixT, List.length_cons, List.length_nil, Nat.reduceAdd, Nat.reduceSub, Nat.zero_add, List.replicate_succ, List.replicate_zero]
  rw [w_isi (by rw [kd_ins a2]; decide), kd_ins a2]
  refine ⟨true, rfl, ?_⟩
  simp only [if_true, w_seq, w_ifS, w_set, w_ret, w_par, w_asg, w_sub, w_drop, w_pass, w_bin, w_app, w_call, w_cons, w_nil, w_tup, w_lst, w_if, w_tb, w_not, w_and, w_or, w_c, w_v, w_un, w_int, w_intB, w_addI, w_subI, w_lt, w_le, w_gt, w_ge, w_eqI, w_methL, startE, List.map_cons, List.map_nil, List.cons_append, List.nil_append, List.getElem?_cons_zero, List.getElem?_cons_succ, List.set_cons_zero, List.set_cons_succ, ok1_some, at0, at1, at2, at3, w_ixT, List.length_cons, List.length_nil, Nat.reduceAdd, Nat.reduceSub, Nat.zero_add, List.replicate_succ, List.replicate_zero]
  refine w_fld ?_
  simp only [w_seq, w_ifS, w_set, w_ret, w_par, w_asg, w_sub, w_drop, w_pass, w_bin, w_app, w_call, w_cons, w_nil, w_tup, w_lst, w_if, w_tb, w_not, w_and, w_or, w_c, w_v, w_un, w_int, w_intB, w_addI, w_subI, w_lt, w_le, w_gt, w_ge, w_eqI, w_methL, startE, List.map_cons, List.map_nil, List.cons_append, List.nil_append, List.getElem?_cons_zero, List.getElem?_cons_succ, List.set_cons_zero, List.set_cons_succ, ok1_some, at0, at1, at2, at3, w_ixT, List.length_cons, List.length_nil, Nat.reduceAdd, Nat.reduceSub, Nat.zero_add, List.replicate_succ, List.replicate_zero]
  refine ⟨o, 0, _, _, rfl, a, rfl, rfl, ?_⟩
  refine w_fld ?_
  simp only [w_seq, w_ifS, w_set, w_ret, w_par, w_asg, w_sub, w_drop, w_pass, w_bin, w_app, w_call, w_cons, w_nil, w_tup, w_lst, w_if, w_tb, w_not, w_and, w_or, w_c, w_v, w_un, w_int, w_intB, w_addI, w_subI, w_lt, w_le, w_gt, w_ge, w_eqI, w_methL, startE, List.map_cons, List.map_nil, List.cons_append, List.nil_append, List.getElem?_cons_zero, List.getElem?_cons_succ, List.set_cons_zero, List.set_cons_succ, ok1_some, at0, at1, at2, at3, w_ixT, List.length_cons, List.length_nil, Nat.reduceAdd, Nat.reduceSub, Nat.zero_add, List.replicate_succ, List.replicate_zero]
  refine ⟨o2, 0, _, _, rfl, a2, rfl, rfl, ?_⟩
  rw [w_eq (okD_tree t deep (by unfold deep; omega) g) (okD_tree u deep (by unfold deep; omega) gu), teq_is]
  exact k
/-- a Term and a tree are not equal -/
theorem eq_no {u : Tr} (q : TermAt h o t) (k : P (.bl false) h) : Ok (cl (m + 1) 23 [.ref o, toD u] h) P := by
  obtain ⟨xs, ed⟩ := d0 u
  rw [c_23]
  refine ok_body rfl ?_
  unfold b_23
  rw [w_ret, w_andV, ed]
  simp only [w_seq, w_ifS, w_set, w_ret, w_par, w_asg, w_sub, w_drop, w_pass, w_bin, w_app, w_call, w_cons, w_nil, w_tup, w_lst, w_if, w_tb, w_not, w_and, w_or, w_c, w_v, w_un, w_int, w_intB, w_addI, w_subI, w_lt, w_le, w_gt, w_ge, w_eqI, w_methL, startE, List.map_cons, List.map_nil, List.cons_append, List.nil_append, List.getElem?_cons_zero, List.getElem?_cons_succ, List.set_cons_zero, List.set_cons_succ, ok1_some, at0, at1, at2, at3, w_ixT, List.length_cons, List.length_nil, Nat.reduceAdd, Nat.reduceSub, Nat.zero_add, List.replicate_succ, List.replicate_zero]
  rw [w_isi (by simp [kd])]
  exact ⟨false, rfl, k⟩
theorem item_m {j : Nat} {u : Tr} (q : TermAt h o t) (hj : (nod t)[j]? = some u) (k : P (toD u) h) : Ok (cl (m + 2) 16 [.ref o, .int (j : Nat)] h) P := by
  obtain ⟨pn, pb, pu, a, b, c, d⟩ := q
  have jl : j < siz t := by
    rw [← nod_len]
    exact (List.getElem?_eq_some_iff.mp hj).1
  rw [c_16]
  refine ok_body rfl ?_
  unfold b_16
  rw [w_seq, w_ifS]
  simp only [w_ifS, w_bin, w_app, w_call, w_cons, w_nil, w_tup, w_lst, w_if, w_tb, w_not, w_and, w_or, w_c, w_v, w_un, w_int, w_intB, w_addI, w_subI, w_lt, w_le, w_gt, w_ge, w_eqI, w_methL, startE, List.map_cons, List.map_nil, List.cons_append, List.nil_append, List.getElem?_cons_zero, List.getElem?_cons_succ, List.set_cons_zero, List.set_cons_succ, ok1_some, at0, at1, at2, at3, w_ixT, List.length_cons, List.length_nil, Nat.reduceAdd, Nat.reduceSub, Nat.zero_add, List.replicate_succ, List.replicate_zero, w_tru]
  rw [c_5]
  refine ok_body rfl ?_
  unfold b_5
  rw [w_ret, w_andV]
  simp only [w_seq, w_ifS, w_set, w_ret, w_par, w_asg, w_sub, w_drop, w_pass, w_bin, w_app, w_call, w_cons, w_nil, w_tup, w_lst, w_if, w_tb, w_not, w_and, w_or, w_c, w_v, w_un, w_int, w_intB, w_addI, w_subI, w_lt, w_le, w_gt, w_ge, w_eqI, w_methL, startE, List.map_cons, List.map_nil, List.cons_append, List.nil_append, List.getElem?_cons_zero, List.getElem?_cons_succ, List.set_cons_zero, List.set_cons_succ, ok1_some, at0, at1, at2, at3, w_ixT, List.length_cons, List.length_nil, Nat.reduceAdd, Nat.reduceSub, Nat.zero_add, List.replicate_succ, List.replicate_zero]
  rw [w_isi (by simp [kd])]
  refine ⟨true, rfl, ?_⟩
  simp only [if_true]
  rw [w_notV, w_un]
  simp only [w_seq, w_ifS, w_set, w_ret, w_par, w_asg, w_sub, w_drop, w_pass, w_bin, w_app, w_call, w_cons, w_nil, w_tup, w_lst, w_if, w_tb, w_not, w_and, w_or, w_c, w_v, w_un, w_int, w_intB, w_addI, w_subI, w_lt, w_le, w_gt, w_ge, w_eqI, w_methL, startE, List.map_cons, List.map_nil, List.cons_append, List.nil_append, List.getElem?_cons_zero, List.getElem?_cons_succ, List.set_cons_zero, List.set_cons_succ, ok1_some, at0, at1, at2, at3, w_ixT, List.length_cons, List.length_nil, Nat.reduceAdd, Nat.reduceSub, Nat.zero_add, List.replicate_succ, List.replicate_zero]
  rw [w_isi (by simp [kd])]
  refine ⟨false, rfl, true, rfl, ?_⟩
  simp only [Bool.not_true, Bool.false_eq_true, if_false]
  refine ⟨false, congrArg D.bl (decide_eq_false (by omega)), ?_⟩
  simp only [Bool.false_eq_true, if_false]
  refine w_fld ?_
  simp only [w_seq, w_ifS, w_set, w_ret, w_par, w_asg, w_sub, w_drop, w_pass, w_bin, w_app, w_call, w_cons, w_nil, w_tup, w_lst, w_if, w_tb, w_not, w_and, w_or, w_c, w_v, w_un, w_int, w_intB, w_addI, w_subI, w_lt, w_le, w_gt, w_ge, w_eqI, w_methL, startE, List.map_cons, List.map_nil, List.cons_append, List.nil_append, List.getElem?_cons_zero, List.getElem?_cons_succ, List.set_cons_zero, List.set_cons_succ, ok1_some, at0, at1, at2, at3, w_ixT, List.length_cons, List.length_nil, Nat.reduceAdd, Nat.reduceSub, Nat.zero_add, List.replicate_succ, List.replicate_zero]
  refine ⟨o, 0, _, _, rfl, a, rfl, rfl, ?_⟩
  rw [w_lenL (items_l b), toDs_len, nod_len]
  refine ⟨false, congrArg D.bl (decide_eq_false (by omega)), ?_⟩
  simp only [Bool.false_eq_true, if_false, w_pass, w_ret, w_ifS, w_bin, w_app, w_call, w_cons, w_nil, w_tup, w_lst, w_if, w_tb, w_not, w_and, w_or, w_c, w_v, w_un, w_int, w_intB, w_addI, w_subI, w_lt, w_le, w_gt, w_ge, w_eqI, w_methL, startE, List.map_cons, List.map_nil, List.cons_append, List.nil_append, List.getElem?_cons_zero, List.getElem?_cons_succ, List.set_cons_zero, List.set_cons_succ, ok1_some, at0, at1, at2, at3, w_ixT, List.length_cons, List.length_nil, Nat.reduceAdd, Nat.reduceSub, Nat.zero_add, List.replicate_succ, List.replicate_zero]
  refine w_fld ?_
  simp only [w_seq, w_ifS, w_set, w_ret, w_par, w_asg, w_sub, w_drop, w_pass, w_bin, w_app, w_call, w_cons, w_nil, w_tup, w_lst, w_if, w_tb, w_not, w_and, w_or, w_c, w_v, w_un, w_int, w_intB, w_addI, w_subI, w_lt, w_le, w_gt, w_ge, w_eqI, w_methL, startE, List.map_cons, List.map_nil, List.cons_append, List.nil_append, List.getElem?_cons_zero, List.getElem?_cons_succ, List.set_cons_zero, List.set_cons_succ, ok1_some, at0, at1, at2, at3, w_ixT, List.length_cons, List.length_nil, Nat.reduceAdd, Nat.reduceSub, Nat.zero_add, List.replicate_succ, List.replicate_zero]
  refine ⟨o, 0, _, _, rfl, a, rfl, rfl, ?_⟩
  rw [w_ixL (items_l b)]
  refine ⟨toD u, ?_, k⟩
  unfold atD
  rw [if_pos (by omega)]
  simp only [Int.toNat_natCast]
  rw [toDs_map, List.getElem?_map, hj]
  rfl
end
end K1
end L2.Lv
end
section
set_option maxRecDepth 100000
set_option maxHeartbeats 1000000
set_option autoImplicit false
namespace L2.Lv
namespace K1
open PySem
theorem belowl_ok {m : Nat} {t : Tr} {h : Hm} {P : D → Hm → Prop} (hz : siz t ≤ 1000) (k : ∀ (q : Nat) (h' : Hm), h'[q]? = some (.lst (toDs (below t))) → Ext h h' → h.length ≤ q → P (.ref q) h') : Ok (cl (m + 1) 36 [toD t] h) P := by
  rw [c_36]
  refine ok_body rfl ?_
  unfold b_36
  have lb := siz_below t
  have lb2 := len_sizs (below t)
  cases t with
  | use n =>
    simp only [toD, w_seq, w_ifS, w_set, w_ret, w_par, w_asg, w_sub, w_drop, w_pass, w_bin, w_app, w_call, w_cons, w_nil, w_tup, w_lst, w_if, w_tb, w_not, w_and, w_or, w_c, w_v, w_un, w_int, w_intB, w_addI, w_subI, w_lt, w_le, w_gt, w_ge, w_eqI, w_methL, startE, List.map_cons, List.map_nil, List.cons_append, List.nil_append, List.getElem?_cons_zero, List.getElem?_cons_succ, List.set_cons_zero, List.set_cons_succ, ok1_some, at0, at1, at2, at3, w_ixT, List.length_cons, List.length_nil, Nat.reduceAdd, Nat.reduceSub, Nat.zero_add, List.replicate_succ, List.replicate_zero]
    refine ⟨_, rfl, ?_⟩
    rw [w_eqS (by rfl) (by rfl)]
    refine ⟨true, rfl, ?_⟩
    simp only [if_true, w_seq, w_ifS, w_set, w_ret, w_par, w_asg, w_sub, w_drop, w_pass, w_bin, w_app, w_call, w_cons, w_nil, w_tup, w_lst, w_if, w_tb, w_not, w_and, w_or, w_c, w_v, w_un, w_int, w_intB, w_addI, w_subI, w_lt, w_le, w_gt, w_ge, w_eqI, w_methL, startE, List.map_cons, List.map_nil, List.cons_append, List.nil_append, List.getElem?_cons_zero, List.getElem?_cons_succ, List.set_cons_zero, List.set_cons_succ, ok1_some, at0, at1, at2, at3, w_ixT, List.length_cons, List.length_nil, Nat.reduceAdd, Nat.reduceSub, Nat.zero_add, List.replicate_succ, List.replicate_zero]
    exact ⟨by simp [big], k _ _ app_at Ext.app (Nat.le_refl _)⟩
  | join l ts =>
    simp only [toD, w_seq, w_ifS, w_set, w_ret, w_par, w_asg, w_sub, w_drop, w_pass, w_bin, w_app, w_call, w_cons, w_nil, w_tup, w_lst, w_if, w_tb, w_not, w_and, w_or, w_c, w_v, w_un, w_int, w_intB, w_addI, w_subI, w_lt, w_le, w_gt, w_ge, w_eqI, w_methL, startE, List.map_cons, List.map_nil, List.cons_append, List.nil_append, List.getElem?_cons_zero, List.getElem?_cons_succ, List.set_cons_zero, List.set_cons_succ, ok1_some, at0, at1, at2, at3, w_ixT, List.length_cons, List.length_nil, Nat.reduceAdd, Nat.reduceSub, Nat.zero_add, List.replicate_succ, List.replicate_zero]
    refine ⟨_, rfl, ?_⟩
    rw [w_eqS (by rfl) (by rfl)]
    refine ⟨false, rfl, ?_⟩
    simp only [Bool.false_eq_true, if_false, w_seq, w_ifS, w_set, w_ret, w_par, w_asg, w_sub, w_drop, w_pass, w_bin, w_app, w_call, w_cons, w_nil, w_tup, w_lst, w_if, w_tb, w_not, w_and, w_or, w_c, w_v, w_un, w_int, w_intB, w_addI, w_subI, w_lt, w_le, w_gt, w_ge, w_eqI, w_methL, startE, List.map_cons, List.map_nil, List.cons_append, List.nil_append, List.getElem?_cons_zero, List.getElem?_cons_succ, List.set_cons_zero, List.set_cons_succ, ok1_some, at0, at1, at2, at3, w_ixT, List.length_cons, List.length_nil, Nat.reduceAdd, Nat.reduceSub, Nat.zero_add, List.replicate_succ, List.replicate_zero]
    refine ⟨_, rfl, ?_⟩
    rw [w_eqS (by rfl) (by rfl)]
    refine ⟨true, rfl, ?_⟩
    simp only [if_true, w_seq, w_ifS, w_set, w_ret, w_par, w_asg, w_sub, w_drop, w_pass, w_bin, w_app, w_call, w_cons, w_nil, w_tup, w_lst, w_if, w_tb, w_not, w_and, w_or, w_c, w_v, w_un, w_int, w_intB, w_addI, w_subI, w_lt, w_le, w_gt, w_ge, w_eqI, w_methL, startE, List.map_cons, List.map_nil, List.cons_append, List.nil_append, List.getElem?_cons_zero, List.getElem?_cons_succ, List.set_cons_zero, List.set_cons_succ, ok1_some, at0, at1, at2, at3, w_ixT, List.length_cons, List.length_nil, Nat.reduceAdd, Nat.reduceSub, Nat.zero_add, List.replicate_succ, List.replicate_zero]
    refine ⟨_, rfl, ?_⟩
    rw [w_listT (by rw [toDs_len]; simp only [below] at lb2 lb; unfold big; omega)]
    exact k _ _ app_at Ext.app (Nat.le_refl _)
  | bind n ah b =>
    simp only [toD, w_seq, w_ifS, w_set, w_ret, w_par, w_asg, w_sub, w_drop, w_pass, w_bin, w_app, w_call, w_cons, w_nil, w_tup, w_lst, w_if, w_tb, w_not, w_and, w_or, w_c, w_v, w_un, w_int, w_intB, w_addI, w_subI, w_lt, w_le, w_gt, w_ge, w_eqI, w_methL, startE, List.map_cons, List.map_nil, List.cons_append, List.nil_append, List.getElem?_cons_zero, List.getElem?_cons_succ, List.set_cons_zero, List.set_cons_succ, ok1_some, at0, at1, at2, at3, w_ixT, List.length_cons, List.length_nil, Nat.reduceAdd, Nat.reduceSub, Nat.zero_add, List.replicate_succ, List.replicate_zero]
    refine ⟨_, rfl, ?_⟩
    rw [w_eqS (by rfl) (by rfl)]
    refine ⟨false, rfl, ?_⟩
    simp only [Bool.false_eq_true, if_false, w_seq, w_ifS, w_set, w_ret, w_par, w_asg, w_sub, w_drop, w_pass, w_bin, w_app, w_call, w_cons, w_nil, w_tup, w_lst, w_if, w_tb, w_not, w_and, w_or, w_c, w_v, w_un, w_int, w_intB, w_addI, w_subI, w_lt, w_le, w_gt, w_ge, w_eqI, w_methL, startE, List.map_cons, List.map_nil, List.cons_append, List.nil_append, List.getElem?_cons_zero, List.getElem?_cons_succ, List.set_cons_zero, List.set_cons_succ, ok1_some, at0, at1, at2, at3, w_ixT, List.length_cons, List.length_nil, Nat.reduceAdd, Nat.reduceSub, Nat.zero_add, List.replicate_succ, List.replicate_zero]
    refine ⟨_, rfl, ?_⟩
    rw [w_eqS (by rfl) (by rfl)]
    refine ⟨false, rfl, ?_⟩
    simp only [Bool.false_eq_true, if_false, w_seq, w_ifS, w_set, w_ret, w_par, w_asg, w_sub, w_drop, w_pass, w_bin, w_app, w_call, w_cons, w_nil, w_tup, w_lst, w_if, w_tb, w_not, w_and, w_or, w_c, w_v, w_un, w_int, w_intB, w_addI, w_subI, w_lt, w_le, w_gt, w_ge, w_eqI, w_methL, startE, List.map_cons, List.map_nil, List.cons_append, List.nil_append, List.getElem?_cons_zero, List.getElem?_cons_succ, List.set_cons_zero, List.set_cons_succ, ok1_some, at0, at1, at2, at3, w_ixT, List.length_cons, List.length_nil, Nat.reduceAdd, Nat.reduceSub, Nat.zero_add, List.replicate_succ, List.replicate_zero]
    refine ⟨_, rfl, ?_⟩
    simp only [below, List.length_append, List.length_cons, List.length_nil] at lb2 lb
    rw [w_listT (by rw [toDs_len]; unfold big; omega)]
    refine ⟨_, rfl, by simp [big], ?_⟩
    rw [w_addL (app_old app_at) app_at (by rw [toDs_len]; simp only [List.length_cons, List.length_nil]; unfold big; omega)]
    rw [show toDs ah ++ [toD b] = toDs (below (.bind n ah b)) by rw [show below (.bind n ah b) = ah ++ [b] from rfl, toDs_app]; rfl]
    exact k _ _ app_at ((Ext.app.trans Ext.app).trans Ext.app) (by simp)
theorem dep_mem : ∀ {ts : List Tr} {t : Tr}, t ∈ ts → dep t ≤ deps ts
  | t :: ts, _, .head _ => by simp only [deps]; omega
  | a :: ts, _, .tail _ m => by
    have := dep_mem m
    simp only [deps]
    omega
theorem nods_take {ts : List Tr} {j : Nat} {t : Tr} (q : ts[j]? = some t) : nods (ts.take (j + 1)) = nods (ts.take j) ++ nod t := by
  rw [List.take_succ, q, nods_app]
  simp [nods]
theorem nodesl_ok : ∀ (n : Nat) (t : Tr) (m : Nat) (h : Hm) (P : D → Hm → Prop), dep t ≤ n → siz t ≤ 1000 → (∀ (q : Nat) (h' : Hm), h'[q]? = some (.lst (toDs (nod t))) → Ext h h' → h.length ≤ q → P (.ref q) h') → Ok (cl (n + 1 + m) 37 [toD t] h) P
  | 0, t, m, h, P, hd, _, _ => by
    have := dep_below t
    omega
  | n + 1, t, m, h, P, hd, hz, k => by
    rw [show n + 1 + 1 + m = (n + 1 + m) + 1 by omega, c_37]
    refine ok_body rfl ?_
    unfold b_37
    rw [w_seq, w_set]
    simp only [w_ifS, w_bin, w_app, w_call, w_cons, w_nil, w_tup, w_lst, w_if, w_tb, w_not, w_and, w_or, w_c, w_v, w_un, w_int, w_intB, w_addI, w_subI, w_lt, w_le, w_gt, w_ge, w_eqI, w_methL, startE, List.map_cons, List.map_nil, List.cons_append, List.nil_append, List.getElem?_cons_zero, List.getElem?_cons_succ, List.set_cons_zero, List.set_cons_succ, ok1_some, at0, at1, at2, at3, w_ixT, List.length_cons, List.length_nil, Nat.reduceAdd, Nat.reduceSub, Nat.zero_add, List.replicate_succ, List.replicate_zero]
    refine ⟨by simp [big], ?_⟩
    have db := dep_below t
    have sb := siz_below t
    rw [w_seq, w_for]
    refine w_src ?_
    simp only [w_ifS, w_bin, w_app, w_call, w_cons, w_nil, w_tup, w_lst, w_if, w_tb, w_not, w_and, w_or, w_c, w_v, w_un, w_int, w_intB, w_addI, w_subI, w_lt, w_le, w_gt, w_ge, w_eqI, w_methL, startE, List.map_cons, List.map_nil, List.cons_append, List.nil_append, List.getElem?_cons_zero, List.getElem?_cons_succ, List.set_cons_zero, List.set_cons_succ, ok1_some, at0, at1, at2, at3, w_ixT, List.length_cons, List.length_nil, Nat.reduceAdd, Nat.reduceSub, Nat.zero_add, List.replicate_succ, List.replicate_zero]
    rw [show n + 1 + m = (n + m) + 1 by omega]
    refine belowl_ok (by omega) fun q h2 q2 x2 l2 => ?_
    refine .inr ⟨q, _, rfl, items_l q2, ?_⟩
    rw [show (n + m) + 1 = n + 1 + m by omega]
    have p1 : h2[h.length]? = some (.lst (toDs (t :: nods ((below t).take 0)))) := x2 _ _ app_at
    have lb := len_sizs (below t)
    refine loop_of (xs := toDs (below t)) (fun j e hx => ∃ (p : Nat) (x2 : Option D), e = [some (toD t), some (.ref p), x2] ∧ hx[p]? = some (.lst (toDs (t :: nods ((below t).take j)))) ∧ h.length ≤ p ∧ Ext h hx ∧ hx[q]? = some (.lst (toDs (below t)))) (fun j e hx v => ?_) ?_ ?_ (toDs (below t)).length lots 0 _ h2 (by omega) (by rw [toDs_len]; unfold lots; omega) ⟨_, none, rfl, p1, Nat.le_refl _, Ext.app.trans x2, q2⟩
    · obtain ⟨_, _, _, _, _, _, v⟩ := v
      exact nxt_live (items_l v)
    · rintro j x e hx hj ⟨p, y2, rfl, e1, lp, ex, eq⟩
      obtain ⟨u, hu, rfl⟩ := toDs_at hj
      have mu := List.mem_of_getElem? hu
      have su := siz_mem mu
      have du := dep_mem mu
      refine ⟨_, rfl, ?_⟩
      show OkS (mSet 1 _ [some (toD t), some (.ref p), some (toD u)] hx) _ _
      simp only [w_seq, w_ifS, w_set, w_ret, w_par, w_asg, w_sub, w_drop, w_pass, w_bin, w_app, w_call, w_cons, w_nil, w_tup, w_lst, w_if, w_tb, w_not, w_and, w_or, w_c, w_v, w_un, w_int, w_intB, w_addI, w_subI, w_lt, w_le, w_gt, w_ge, w_eqI, w_methL, startE, List.map_cons, List.map_nil, List.cons_append, List.nil_append, List.getElem?_cons_zero, List.getElem?_cons_succ, List.set_cons_zero, List.set_cons_succ, ok1_some, at0, at1, at2, at3, w_ixT, List.length_cons, List.length_nil, Nat.reduceAdd, Nat.reduceSub, Nat.zero_add, List.replicate_succ, List.replicate_zero]
      refine nodesl_ok n u m hx _ (by omega) (by omega) fun r h3 e3 x3 _ => ?_
      have e4 := x3 _ _ e1
      have a1 := nods_len ((below t).take j)
      have a2 := sizs_take (below t) j
      rw [w_addL e4 e3 (by rw [toDs_len, toDs_len, nod_len]; simp only [List.length_cons]; unfold big; omega)]
      refine ⟨h3.length, _, rfl, ?_, ?_, (ex.trans x3).trans Ext.app, app_old (x3 _ _ eq)⟩
      · rw [app_at, ← toDs_app, nods_take hu]
        rfl
      · have := ex.le
        have := x3.le
        omega
    · rintro e hx ⟨p, y2, rfl, e1, lp, ex, eq⟩
      simp only [w_seq, w_ifS, w_set, w_ret, w_par, w_asg, w_sub, w_drop, w_pass, w_bin, w_app, w_call, w_cons, w_nil, w_tup, w_lst, w_if, w_tb, w_not, w_and, w_or, w_c, w_v, w_un, w_int, w_intB, w_addI, w_subI, w_lt, w_le, w_gt, w_ge, w_eqI, w_methL, startE, List.map_cons, List.map_nil, List.cons_append, List.nil_append, List.getElem?_cons_zero, List.getElem?_cons_succ, List.set_cons_zero, List.set_cons_succ, ok1_some, at0, at1, at2, at3, w_ixT, List.length_cons, List.length_nil, Nat.reduceAdd, Nat.reduceSub, Nat.zero_add, List.replicate_succ, List.replicate_zero]
      rw [toDs_len, List.take_of_length_le (Nat.le_refl _), ← nod_below] at e1
      exact k p hx e1 ex lp
theorem fold_dep : ∀ (ts : List Tr) (a : Nat), (ts.map fun t => ((dep t : Nat) : Int)).foldl maxI (a : Nat) = ((max a (deps ts) : Nat) : Int)
  | [], a => by simp [deps]
  | t :: ts, a => by
    rw [List.map_cons, List.foldl_cons]
    have e : maxI (a : Nat) (dep t : Nat) = ((max a (dep t) : Nat) : Int) := by
      unfold maxI
      split <;> omega
    rw [e, fold_dep ts, show deps (t :: ts) = max (dep t) (deps ts) from rfl]
    congr 1
    omega
theorem ints_dep : ∀ ts : List Tr, intsD (ts.map fun t => D.int (dep t : Nat)) = some (ts.map fun t => ((dep t : Nat) : Int))
  | [] => rfl
  | t :: ts => by rw [List.map_cons, intsD, ints_dep ts]; rfl
theorem deepl_ok : ∀ (n : Nat) (t : Tr) (m : Nat) (h : Hm) (P : D → Hm → Prop), dep t ≤ n → siz t ≤ 1000 → (∀ h' : Hm, Ext h h' → P (.int (dep t : Nat)) h') → Ok (cl (n + 1 + m) 39 [toD t] h) P
  | 0, t, m, h, P, hd, _, _ => by
    have := dep_below t
    omega
  | n + 1, t, m, h, P, hd, hz, k => by
    rw [show n + 1 + 1 + m = (n + 1 + m) + 1 by omega, c_39]
    refine ok_body rfl ?_
    unfold b_39
    simp only [w_seq, w_ifS, w_set, w_ret, w_par, w_asg, w_sub, w_drop, w_pass, w_bin, w_app, w_call, w_cons, w_nil, w_tup, w_lst, w_if, w_tb, w_not, w_and, w_or, w_c, w_v, w_un, w_int, w_intB, w_addI, w_subI, w_lt, w_le, w_gt, w_ge, w_eqI, w_methL, startE, List.map_cons, List.map_nil, List.cons_append, List.nil_append, List.getElem?_cons_zero, List.getElem?_cons_succ, List.set_cons_zero, List.set_cons_succ, ok1_some, at0, at1, at2, at3, w_ixT, List.length_cons, List.length_nil, Nat.reduceAdd, Nat.reduceSub, Nat.zero_add, List.replicate_succ, List.replicate_zero]
    refine ⟨by simp [big], ?_⟩
    have db := dep_below t
    have sb := siz_below t
    rw [w_comp]
    refine w_src ?_
    simp only [w_ifS, w_bin, w_app, w_call, w_cons, w_nil, w_tup, w_lst, w_if, w_tb, w_not, w_and, w_or, w_c, w_v, w_un, w_int, w_intB, w_addI, w_subI, w_lt, w_le, w_gt, w_ge, w_eqI, w_methL, startE, List.map_cons, List.map_nil, List.cons_append, List.nil_append, List.getElem?_cons_zero, List.getElem?_cons_succ, List.set_cons_zero, List.set_cons_succ, ok1_some, at0, at1, at2, at3, w_ixT, List.length_cons, List.length_nil, Nat.reduceAdd, Nat.reduceSub, Nat.zero_add, List.replicate_succ, List.replicate_zero]
    rw [show n + 1 + m = (n + m) + 1 by omega]
    refine belowl_ok (by omega) fun q h2 q2 x2 l2 => ?_
    refine .inr ⟨q, _, rfl, items_l q2, ?_⟩
    rw [show (n + m) + 1 = n + 1 + m by omega]
    have z1 : h2[h.length]? = some (.lst [D.int 0]) := x2 _ _ app_at
    have lb := len_sizs (below t)
    refine cloop_of (xs := toDs (below t)) (fun j hx => Ext h2 hx ∧ hx[h2.length]? = some (.lst (((below t).take j).map fun t => D.int (dep t : Nat)))) (fun j hx v => nxt_live (v.1.items (items_l q2))) ?_ ?_ (toDs (below t)).length lots 0 _ (by omega) (by rw [toDs_len]; unfold lots; omega) ⟨Ext.app, app_at⟩
    · rintro j x hx hj ⟨v1, v2⟩
      obtain ⟨u, hu, rfl⟩ := toDs_at hj
      have mu := List.mem_of_getElem? hu
      have su := siz_mem mu
      have du := dep_mem mu
      refine ⟨[some (toD t), some (toD u)], rfl, ?_⟩
      show Ok (Re.ok true hx) _
      rw [ok_ok]
      simp only [if_true, w_ifS, w_bin, w_app, w_call, w_cons, w_nil, w_tup, w_lst, w_if, w_tb, w_not, w_and, w_or, w_c, w_v, w_un, w_int, w_intB, w_addI, w_subI, w_lt, w_le, w_gt, w_ge, w_eqI, w_methL, startE, List.map_cons, List.map_nil, List.cons_append, List.nil_append, List.getElem?_cons_zero, List.getElem?_cons_succ, List.set_cons_zero, List.set_cons_succ, ok1_some, at0, at1, at2, at3, w_ixT, List.length_cons, List.length_nil, Nat.reduceAdd, Nat.reduceSub, Nat.zero_add, List.replicate_succ, List.replicate_zero]
      refine deepl_ok n u m hx _ (by omega) (by omega) fun h3 x3 => ?_
      simp only [w_ifS, w_bin, w_app, w_call, w_cons, w_nil, w_tup, w_lst, w_if, w_tb, w_not, w_and, w_or, w_c, w_v, w_un, w_int, w_intB, w_addI, w_subI, w_lt, w_le, w_gt, w_ge, w_eqI, w_methL, startE, List.map_cons, List.map_nil, List.cons_append, List.nil_append, List.getElem?_cons_zero, List.getElem?_cons_succ, List.set_cons_zero, List.set_cons_succ, ok1_some, at0, at1, at2, at3, w_ixT, List.length_cons, List.length_nil, Nat.reduceAdd, Nat.reduceSub, Nat.zero_add, List.replicate_succ, List.replicate_zero]
      refine ⟨_, x3 _ _ v2, ?_, (v1.trans x3).put (Nat.le_refl _), ?_⟩
      · rw [List.length_map, List.length_take]
        unfold big
        omega
      · rw [List.getElem?_set_self (lt_of_at (x3 _ _ v2)), List.take_succ, hu, List.map_append]
        rfl
    · rintro hx ⟨v1, v2⟩
      rw [toDs_len, List.take_of_length_le (Nat.le_refl _)] at v2
      rw [w_addL (v1 _ _ z1) v2 (by simp only [List.length_cons, List.length_nil, List.length_map]; unfold big; omega)]
      have e1 : Ok (pMM maxI [.ref hx.length] (hx ++ [Ob.lst ([D.int 0] ++ (below t).map fun t => D.int (dep t : Nat))])) (fun d h1 => d = .int (deps (below t) : Nat) ∧ h1 = hx ++ [Ob.lst ([D.int 0] ++ (below t).map fun t => D.int (dep t : Nat))]) := by
        unfold pMM
        have f := fold_dep (below t) 0
        rw [Nat.zero_max] at f
        have i1 : intsD ([D.int 0] ++ (below t).map fun t => D.int (dep t : Nat)) = some (0 :: (below t).map fun t => ((dep t : Nat) : Int)) := by
          rw [List.singleton_append, intsD, ints_dep]
        simp only [items_l app_at, i1, foldM]
        refine ⟨?_, rfl⟩
        congr 1
      refine e1.mono fun d h1 z => ?_
      obtain ⟨rfl, rfl⟩ := z
      simp only [w_seq, w_ifS, w_set, w_ret, w_par, w_asg, w_sub, w_drop, w_pass, w_bin, w_app, w_call, w_cons, w_nil, w_tup, w_lst, w_if, w_tb, w_not, w_and, w_or, w_c, w_v, w_un, w_int, w_intB, w_addI, w_subI, w_lt, w_le, w_gt, w_ge, w_eqI, w_methL, startE, List.map_cons, List.map_nil, List.cons_append, List.nil_append, List.getElem?_cons_zero, List.getElem?_cons_succ, List.set_cons_zero, List.set_cons_succ, ok1_some, at0, at1, at2, at3, w_ixT, List.length_cons, List.length_nil, Nat.reduceAdd, Nat.reduceSub, Nat.zero_add, List.replicate_succ, List.replicate_zero]
      rw [show (1 : Int) + (deps (below t) : Nat) = (dep t : Nat) by omega]
      exact k _ (((Ext.app.trans x2).trans v1).trans Ext.app)
end K1
end L2.Lv
end
section
set_option maxRecDepth 100000
set_option maxHeartbeats 1000000
set_option autoImplicit false
namespace L2.Lv
namespace K1
open PySem
theorem nums_all {n : Nat} {h : Hm} (kd : List Nat) : ∀ (i : Nat) (ts : List Tr), (nums kd i ts).all (okD (n + 1) h) = true
  | _, [] => rfl
  | i, t :: ts => by
    have ih := nums_all (n := n) (h := h) kd (i + 1) ts
    simp only [nums]
    split
    · rw [List.all_cons, ih]
      rfl
    · exact ih
/-- two lists with the same values -/
theorem w_neL {i j : Nat} {xs : List D} {h : Hm} {P : D → Hm → Prop} (e1 : itemsOf h i = some xs) (e2 : itemsOf h j = some xs) (q : xs.all (okD 109 h) = true) : Ok (pNe (.ref i) (.ref j) h) P ↔ P (.bl false) h := by
  rw [w_ne (okD_lst (n := 109) e1 q) (okD_lst (n := 109) e2 q), show deep = 109 + 1 from rfl, eqB_lsts (n := 109) e1 e2, eqL_refl fun x hx => eqB_refl 109 x (List.all_eq_true.mp q x hx)]
  exact Iff.rfl
theorem w_eqL {i j : Nat} {xs : List D} {h : Hm} {P : D → Hm → Prop} (e1 : itemsOf h i = some xs) (e2 : itemsOf h j = some xs) (q : xs.all (okD 109 h) = true) : Ok (pEq (.ref i) (.ref j) h) P ↔ P (.bl true) h := by
  rw [w_eq (okD_lst (n := 109) e1 q) (okD_lst (n := 109) e2 q), show deep = 109 + 1 from rfl, eqB_lsts (n := 109) e1 e2, eqL_refl fun x hx => eqB_refl 109 x (List.all_eq_true.mp q x hx)]
theorem nod_all {h : Hm} {t : Tr} (g : good t) (hz : siz t ≤ 50) : (toDs (nod t)).all (okD 109 h) = true := by
  rw [toDs_map, List.all_map, List.all_eq_true]
  intro u hu
  have z := nod_good t g u hu
  exact okD_tree u 109 (by omega) z.1
theorem told_ok {m o : Nat} {t : Tr} {h : Hm} {P : D → Hm → Prop} (q : TermAt h o t) (g : good t) (hz : siz t ≤ 28) (k : ∀ h' : Hm, Ext h h' → P (.bl true) h') : Ok (cl (m + 40) 40 [toD t, .ref o] h) P := by
  rw [show m + 40 = (m + 39) + 1 from rfl, c_40]
  refine ok_body rfl ?_
  unfold b_40
  have ld := dep_le t
  have ln := nod_len t
  rw [w_seq, w_set]
  simp only [w_ifS, w_bin, w_app, w_call, w_cons, w_nil, w_tup, w_lst, w_if, w_tb, w_not, w_and, w_or, w_c, w_v, w_un, w_int, w_intB, w_addI, w_subI, w_lt, w_le, w_gt, w_ge, w_eqI, w_methL, startE, List.map_cons, List.map_nil, List.cons_append, List.nil_append, List.getElem?_cons_zero, List.getElem?_cons_succ, List.set_cons_zero, List.set_cons_succ, ok1_some, at0, at1, at2, at3, w_ixT, List.length_cons, List.length_nil, Nat.reduceAdd, Nat.reduceSub, Nat.zero_add, List.replicate_succ, List.replicate_zero]
  rw [show m + 39 = 30 + 1 + (m + 8) by omega]
  refine nodesl_ok 30 t (m + 8) h _ (by omega) (by omega) fun pn h1 q1 x1 _ => ?_
  have t1 := q.ext x1
  have i1 := items_l q1
  -- the tree, how many
  rw [w_seq, w_ifS]
  simp only [w_ifS, w_bin, w_app, w_call, w_cons, w_nil, w_tup, w_lst, w_if, w_tb, w_not, w_and, w_or, w_c, w_v, w_un, w_int, w_intB, w_addI, w_subI, w_lt, w_le, w_gt, w_ge, w_eqI, w_methL, startE, List.map_cons, List.map_nil, List.cons_append, List.nil_append, List.getElem?_cons_zero, List.getElem?_cons_succ, List.set_cons_zero, List.set_cons_succ, ok1_some, at0, at1, at2, at3, w_ixT, List.length_cons, List.length_nil, Nat.reduceAdd, Nat.reduceSub, Nat.zero_add, List.replicate_succ, List.replicate_zero]
  refine w_own ?_
  simp only [w_ifS, w_bin, w_app, w_call, w_cons, w_nil, w_tup, w_lst, w_if, w_tb, w_not, w_and, w_or, w_c, w_v, w_un, w_int, w_intB, w_addI, w_subI, w_lt, w_le, w_gt, w_ge, w_eqI, w_methL, startE, List.map_cons, List.map_nil, List.cons_append, List.nil_append, List.getElem?_cons_zero, List.getElem?_cons_succ, List.set_cons_zero, List.set_cons_succ, ok1_some, at0, at1, at2, at3, w_ixT, List.length_cons, List.length_nil, Nat.reduceAdd, Nat.reduceSub, Nat.zero_add, List.replicate_succ, List.replicate_zero]
  have ins1 : ∃ fs, h1[o]? = some (.ins 0 fs) := by
    obtain ⟨_, _, _, a, _⟩ := t1
    exact ⟨_, a⟩
  obtain ⟨fs1, a1⟩ := ins1
  refine ⟨ins_is a1, ?_⟩
  rw [show 30 + 1 + (m + 8) = (m + 38) + 1 by omega]
  refine tree_m t1 ?_
  have ot : okD deep h1 (toD t) = true := okD_tree t deep (by unfold deep; omega) g
  rw [w_ne ot ot, eqB_refl deep _ ot]
  refine ⟨false, rfl, ?_⟩
  simp only [Bool.false_eq_true, if_false]
  refine w_lenO a1 (len_m t1 ⟨_, rfl, by omega, ?_⟩)
  rw [w_lenL i1, w_neI, toDs_len, ln]
  refine ⟨false, by simp, ?_⟩
  simp only [Bool.false_eq_true, if_false, w_pass]
  -- listed
  rw [w_seq, w_ifS]
  simp only [w_ifS, w_bin, w_app, w_call, w_cons, w_nil, w_tup, w_lst, w_if, w_tb, w_not, w_and, w_or, w_c, w_v, w_un, w_int, w_intB, w_addI, w_subI, w_lt, w_le, w_gt, w_ge, w_eqI, w_methL, startE, List.map_cons, List.map_nil, List.cons_append, List.nil_append, List.getElem?_cons_zero, List.getElem?_cons_succ, List.set_cons_zero, List.set_cons_succ, ok1_some, at0, at1, at2, at3, w_ixT, List.length_cons, List.length_nil, Nat.reduceAdd, Nat.reduceSub, Nat.zero_add, List.replicate_succ, List.replicate_zero]
  refine w_own ?_
  simp only [w_ifS, w_bin, w_app, w_call, w_cons, w_nil, w_tup, w_lst, w_if, w_tb, w_not, w_and, w_or, w_c, w_v, w_un, w_int, w_intB, w_addI, w_subI, w_lt, w_le, w_gt, w_ge, w_eqI, w_methL, startE, List.map_cons, List.map_nil, List.cons_append, List.nil_append, List.getElem?_cons_zero, List.getElem?_cons_succ, List.set_cons_zero, List.set_cons_succ, ok1_some, at0, at1, at2, at3, w_ixT, List.length_cons, List.length_nil, Nat.reduceAdd, Nat.reduceSub, Nat.zero_add, List.replicate_succ, List.replicate_zero]
  refine ⟨ins_is a1, listed_m t1 (by omega) ?_⟩
  have x2 : Ext h1 (h1 ++ [Ob.lst (toDs (nod t))]) := Ext.app
  rw [w_neL (items_l app_at) (items_l (app_old q1)) (nod_all g (by omega))]
  refine ⟨false, rfl, ?_⟩
  simp only [Bool.false_eq_true, if_false, w_pass]
  have t2 := t1.ext x2
  have q2 := x2 _ _ q1
  have a2 := x2 _ _ a1
  have x02 := x1.trans x2
  generalize h1 ++ [Ob.lst (toDs (nod t))] = h2 at x2 t2 q2 a2 x02 ⊢
  -- binders, uses
  rw [w_seq, w_set, w_comp]
  refine w_enum ?_
  simp only [w_ifS, w_bin, w_app, w_call, w_cons, w_nil, w_tup, w_lst, w_if, w_tb, w_not, w_and, w_or, w_c, w_v, w_un, w_int, w_intB, w_addI, w_subI, w_lt, w_le, w_gt, w_ge, w_eqI, w_methL, startE, List.map_cons, List.map_nil, List.cons_append, List.nil_append, List.getElem?_cons_zero, List.getElem?_cons_succ, List.set_cons_zero, List.set_cons_succ, ok1_some, at0, at1, at2, at3, w_ixT, List.length_cons, List.length_nil, Nat.reduceAdd, Nat.reduceSub, Nat.zero_add, List.replicate_succ, List.replicate_zero]
  refine ⟨pn, _, rfl, items_l q2, ?_⟩
  refine enumc_ok (kd := tBind) (items_l q2) (by omega) (by decide) (fun x y hx Q qq => qq) (by decide) (by simp [wipeE]) (by simp [wipeE]) fun pb h3 q3 x3 _ => ?_
  rw [w_seq, w_set, w_comp]
  refine w_enum ?_
  simp only [w_ifS, w_bin, w_app, w_call, w_cons, w_nil, w_tup, w_lst, w_if, w_tb, w_not, w_and, w_or, w_c, w_v, w_un, w_int, w_intB, w_addI, w_subI, w_lt, w_le, w_gt, w_ge, w_eqI, w_methL, startE, List.map_cons, List.map_nil, List.cons_append, List.nil_append, List.getElem?_cons_zero, List.getElem?_cons_succ, List.set_cons_zero, List.set_cons_succ, ok1_some, at0, at1, at2, at3, w_ixT, List.length_cons, List.length_nil, Nat.reduceAdd, Nat.reduceSub, Nat.zero_add, List.replicate_succ, List.replicate_zero]
  refine ⟨pn, _, rfl, items_l (x3 _ _ q2), ?_⟩
  refine enumc_ok (kd := tUse) (items_l (x3 _ _ q2)) (by omega) (by decide) (fun x y hx Q qq => qq) (by decide) (by simp [wipeE]) (by simp [wipeE]) fun pu h4 q4 x4 _ => ?_
  have x24 := x3.trans x4
  have t4 := t2.ext x24
  have a4 := x24 _ _ a2
  have n4 := x24 _ _ q2
  have b4 := x4 _ _ q3
  rw [w_seq, w_ifS]
  simp only [w_ifS, w_bin, w_app, w_call, w_cons, w_nil, w_tup, w_lst, w_if, w_tb, w_not, w_and, w_or, w_c, w_v, w_un, w_int, w_intB, w_addI, w_subI, w_lt, w_le, w_gt, w_ge, w_eqI, w_methL, startE, List.map_cons, List.map_nil, List.cons_append, List.nil_append, List.getElem?_cons_zero, List.getElem?_cons_succ, List.set_cons_zero, List.set_cons_succ, ok1_some, at0, at1, at2, at3, w_ixT, List.length_cons, List.length_nil, Nat.reduceAdd, Nat.reduceSub, Nat.zero_add, List.replicate_succ, List.replicate_zero]
  refine w_own ?_
  simp only [w_ifS, w_bin, w_app, w_call, w_cons, w_nil, w_tup, w_lst, w_if, w_tb, w_not, w_and, w_or, w_c, w_v, w_un, w_int, w_intB, w_addI, w_subI, w_lt, w_le, w_gt, w_ge, w_eqI, w_methL, startE, List.map_cons, List.map_nil, List.cons_append, List.nil_append, List.getElem?_cons_zero, List.getElem?_cons_succ, List.set_cons_zero, List.set_cons_succ, ok1_some, at0, at1, at2, at3, w_ixT, List.length_cons, List.length_nil, Nat.reduceAdd, Nat.reduceSub, Nat.zero_add, List.replicate_succ, List.replicate_zero]
  refine ⟨ins_is a4, binders_m t4 (by omega) ?_⟩
  rw [w_neL (items_l app_at) (items_l (app_old b4)) (nums_all (n := 108) tBind 0 _)]
  refine ⟨false, rfl, ?_⟩
  simp only [Bool.false_eq_true, if_false]
  have x5 : Ext h4 (h4 ++ [Ob.lst (nums tBind 0 (nod t))]) := Ext.app
  have t5 := t4.ext x5
  have a5 := x5 _ _ a4
  have n5 := x5 _ _ n4
  have u5 := x5 _ _ q4
  have x05 := (x02.trans x24).trans x5
  generalize h4 ++ [Ob.lst (nums tBind 0 (nod t))] = h5 at x5 t5 a5 n5 u5 x05 ⊢
  refine w_own ?_
  simp only [w_ifS, w_bin, w_app, w_call, w_cons, w_nil, w_tup, w_lst, w_if, w_tb, w_not, w_and, w_or, w_c, w_v, w_un, w_int, w_intB, w_addI, w_subI, w_lt, w_le, w_gt, w_ge, w_eqI, w_methL, startE, List.map_cons, List.map_nil, List.cons_append, List.nil_append, List.getElem?_cons_zero, List.getElem?_cons_succ, List.set_cons_zero, List.set_cons_succ, ok1_some, at0, at1, at2, at3, w_ixT, List.length_cons, List.length_nil, Nat.reduceAdd, Nat.reduceSub, Nat.zero_add, List.replicate_succ, List.replicate_zero]
  refine ⟨ins_is a5, uses_m t5 (by omega) ?_⟩
  rw [w_neL (items_l app_at) (items_l (app_old u5)) (nums_all (n := 108) tUse 0 _)]
  refine ⟨false, rfl, ?_⟩
  simp only [Bool.false_eq_true, if_false, w_pass]
  have x6 : Ext h5 (h5 ++ [Ob.lst (nums tUse 0 (nod t))]) := Ext.app
  have t6 := t5.ext x6
  have a6 := x6 _ _ a5
  have n6 := x6 _ _ n5
  have x06 := x05.trans x6
  generalize h5 ++ [Ob.lst (nums tUse 0 (nod t))] = h6 at x6 t6 a6 n6 x06 ⊢
  -- how deep
  rw [w_seq, w_ifS]
  simp only [w_ifS, w_bin, w_app, w_call, w_cons, w_nil, w_tup, w_lst, w_if, w_tb, w_not, w_and, w_or, w_c, w_v, w_un, w_int, w_intB, w_addI, w_subI, w_lt, w_le, w_gt, w_ge, w_eqI, w_methL, startE, List.map_cons, List.map_nil, List.cons_append, List.nil_append, List.getElem?_cons_zero, List.getElem?_cons_succ, List.set_cons_zero, List.set_cons_succ, ok1_some, at0, at1, at2, at3, w_ixT, List.length_cons, List.length_nil, Nat.reduceAdd, Nat.reduceSub, Nat.zero_add, List.replicate_succ, List.replicate_zero]
  refine w_own ?_
  simp only [w_ifS, w_bin, w_app, w_call, w_cons, w_nil, w_tup, w_lst, w_if, w_tb, w_not, w_and, w_or, w_c, w_v, w_un, w_int, w_intB, w_addI, w_subI, w_lt, w_le, w_gt, w_ge, w_eqI, w_methL, startE, List.map_cons, List.map_nil, List.cons_append, List.nil_append, List.getElem?_cons_zero, List.getElem?_cons_succ, List.set_cons_zero, List.set_cons_succ, ok1_some, at0, at1, at2, at3, w_ixT, List.length_cons, List.length_nil, Nat.reduceAdd, Nat.reduceSub, Nat.zero_add, List.replicate_succ, List.replicate_zero]
  refine ⟨ins_is a6, depth_m t6 ?_⟩
  rw [show (m + 38) + 1 = 30 + 1 + (m + 8) by omega]
  refine deepl_ok 30 t (m + 8) h6 _ (by omega) (by omega) fun h7 x7 => ?_
  rw [w_neI]
  refine ⟨false, by simp, ?_⟩
  simp only [Bool.false_eq_true, if_false, w_pass]
  have t7 := t6.ext x7
  have a7 := x7 _ _ a6
  have n7 := x7 _ _ n6
  have x07 := x06.trans x7
  -- each node by its number
  rw [w_ret, w_andV]
  simp only [w_ifS, w_bin, w_app, w_call, w_cons, w_nil, w_tup, w_lst, w_if, w_tb, w_not, w_and, w_or, w_c, w_v, w_un, w_int, w_intB, w_addI, w_subI, w_lt, w_le, w_gt, w_ge, w_eqI, w_methL, startE, List.map_cons, List.map_nil, List.cons_append, List.nil_append, List.getElem?_cons_zero, List.getElem?_cons_succ, List.set_cons_zero, List.set_cons_succ, ok1_some, at0, at1, at2, at3, w_ixT, List.length_cons, List.length_nil, Nat.reduceAdd, Nat.reduceSub, Nat.zero_add, List.replicate_succ, List.replicate_zero]
  rw [w_comp, w_rng1]
  simp only [w_ifS, w_bin, w_app, w_call, w_cons, w_nil, w_tup, w_lst, w_if, w_tb, w_not, w_and, w_or, w_c, w_v, w_un, w_int, w_intB, w_addI, w_subI, w_lt, w_le, w_gt, w_ge, w_eqI, w_methL, startE, List.map_cons, List.map_nil, List.cons_append, List.nil_append, List.getElem?_cons_zero, List.getElem?_cons_succ, List.set_cons_zero, List.set_cons_succ, ok1_some, at0, at1, at2, at3, w_ixT, List.length_cons, List.length_nil, Nat.reduceAdd, Nat.reduceSub, Nat.zero_add, List.replicate_succ, List.replicate_zero]
  rw [w_lenL (items_l n7), toDs_len, ln]
  refine ⟨_, rfl, small_of (by omega) (by omega), ?_⟩
  rw [show ((siz t : Nat) : Int).toNat = siz t from rfl]
  refine cloop_of (xs := intsR 0 (siz t)) (fun j hx => Ext h7 hx ∧ hx[h7.length]? = some (.lst (toDs ((nod t).take j)))) (fun _ _ _ => rfl) ?_ ?_ (siz t) lots 0 _ (by rw [intsR_len]; omega) (by unfold lots; omega) ⟨Ext.app, app_at⟩
  · rintro j x hx hj ⟨v1, v2⟩
    have jl : j < siz t := by
      have := (List.getElem?_eq_some_iff.mp hj).1
      rw [intsR_len] at this
      exact this
    have ex : x = .int (j : Nat) := by
      unfold intsR at hj
      rw [List.getElem?_map, List.getElem?_range jl] at hj
      have := Option.some.inj hj
      rw [← this]
      simp
    subst ex
    refine ⟨_, rfl, ?_⟩
    show Ok (Re.ok true hx) _
    rw [ok_ok]
    have hu : (nod t)[j]? = some ((nod t)[j]'(by omega)) := List.getElem?_eq_getElem (by omega)
    simp only [if_true]
    show Ok (mBin (pGetO 0 _) (mVar 1) (mVar 4) [some (toD t), some (.ref o), some (.ref pn), some (.ref pb), some (.int (j : Nat)), none, some (.ref pu)] hx) _
    simp only [w_ifS, w_bin, w_app, w_call, w_cons, w_nil, w_tup, w_lst, w_if, w_tb, w_not, w_and, w_or, w_c, w_v, w_un, w_int, w_intB, w_addI, w_subI, w_lt, w_le, w_gt, w_ge, w_eqI, w_methL, startE, List.map_cons, List.map_nil, List.cons_append, List.nil_append, List.getElem?_cons_zero, List.getElem?_cons_succ, List.set_cons_zero, List.set_cons_succ, ok1_some, at0, at1, at2, at3, w_ixT, List.length_cons, List.length_nil, Nat.reduceAdd, Nat.reduceSub, Nat.zero_add, List.replicate_succ, List.replicate_zero]
    refine w_getO (v1 _ _ a7) ?_
    rw [show 30 + 1 + (m + 8) = (m + 37) + 2 by omega]
    refine item_m (t7.ext v1) hu ⟨_, v2, ?_, v1.put (Nat.le_refl _), ?_⟩
    · rw [toDs_len, List.length_take]
      unfold big
      omega
    · rw [List.getElem?_set_self (lt_of_at v2), toDs_take hu]
  · rintro hx ⟨v1, v2⟩
    rw [intsR_len, ← ln, List.take_of_length_le (Nat.le_refl _)] at v2
    rw [w_eqL (items_l v2) (items_l (v1 _ _ n7)) (nod_all g (by omega))]
    refine ⟨true, rfl, ?_⟩
    simp only [if_true, w_ifS, w_bin, w_app, w_call, w_cons, w_nil, w_tup, w_lst, w_if, w_tb, w_not, w_and, w_or, w_c, w_v, w_un, w_int, w_intB, w_addI, w_subI, w_lt, w_le, w_gt, w_ge, w_eqI, w_methL, startE, List.map_cons, List.map_nil, List.cons_append, List.nil_append, List.getElem?_cons_zero, List.getElem?_cons_succ, List.set_cons_zero, List.set_cons_succ, ok1_some, at0, at1, at2, at3, w_ixT, List.length_cons, List.length_nil, Nat.reduceAdd, Nat.reduceSub, Nat.zero_add, List.replicate_succ, List.replicate_zero]
    have t8 := t7.ext v1
    have a8 := v1 _ _ a7
    have n8 := v1 _ _ n7
    have x08 := x07.trans v1
    -- each node is in it
    rw [w_comp]
    refine w_src ?_
    simp only [w_ifS, w_bin, w_app, w_call, w_cons, w_nil, w_tup, w_lst, w_if, w_tb, w_not, w_and, w_or, w_c, w_v, w_un, w_int, w_intB, w_addI, w_subI, w_lt, w_le, w_gt, w_ge, w_eqI, w_methL, startE, List.map_cons, List.map_nil, List.cons_append, List.nil_append, List.getElem?_cons_zero, List.getElem?_cons_succ, List.set_cons_zero, List.set_cons_succ, ok1_some, at0, at1, at2, at3, w_ixT, List.length_cons, List.length_nil, Nat.reduceAdd, Nat.reduceSub, Nat.zero_add, List.replicate_succ, List.replicate_zero]
    refine .inr ⟨pn, _, rfl, items_l n8, ?_⟩
    refine cloop_of (xs := toDs (nod t)) (fun j hy => Ext hx hy ∧ hy[hx.length]? = some (.lst [])) (fun j hy v => nxt_live (v.1.items (items_l n8))) ?_ ?_ (toDs (nod t)).length lots 0 _ (by omega) (by rw [toDs_len]; unfold lots; omega) ⟨Ext.app, app_at⟩
    · rintro j x hy hj ⟨w1, w2⟩
      obtain ⟨u, hu, rfl⟩ := toDs_at hj
      have mu := List.mem_of_getElem? hu
      have gu := nod_good t g u mu
      refine ⟨[some (toD t), some (.ref o), some (.ref pn), some (.ref pb), none, some (toD u), some (.ref pu)], rfl, ?_⟩
      simp only [w_ifS, w_bin, w_app, w_call, w_cons, w_nil, w_tup, w_lst, w_if, w_tb, w_not, w_and, w_or, w_c, w_v, w_un, w_int, w_intB, w_addI, w_subI, w_lt, w_le, w_gt, w_ge, w_eqI, w_methL, startE, List.map_cons, List.map_nil, List.cons_append, List.nil_append, List.getElem?_cons_zero, List.getElem?_cons_succ, List.set_cons_zero, List.set_cons_succ, ok1_some, at0, at1, at2, at3, w_ixT, List.length_cons, List.length_nil, Nat.reduceAdd, Nat.reduceSub, Nat.zero_add, List.replicate_succ, List.replicate_zero]
      refine w_inO (w1 _ _ a8) ?_
      rw [show 30 + 1 + (m + 8) = (m + 35) + 4 by omega]
      refine contains_m (t8.ext w1) g (by omega) gu.1 (by omega) fun h9 x9 => ⟨_, rfl, ?_⟩
      have it : inT t u = true := List.any_eq_true.mpr ⟨u, mu, teq_refl gu.1 (by omega)⟩
      rw [it]
      refine ⟨false, rfl, ?_⟩
      simp only [Bool.false_eq_true, if_false]
      exact ⟨w1.trans x9, x9 _ _ w2⟩
    · rintro hy ⟨w1, w2⟩
      refine ⟨by simp [big], ?_⟩
      rw [w_eqL (items_l (app_old w2)) (items_l app_at) rfl]
      exact k _ ((x08.trans w1).trans Ext.app)
end K1
end L2.Lv
end
section
set_option maxRecDepth 100000
set_option maxHeartbeats 1000000
set_option autoImplicit false
namespace L2.Lv
namespace K1
open PySem
/-! ### what is no tree -/
theorem istree_no {m : Nat} {x : D} {h : Hm} {P : D → Hm → Prop} (hf : ∀ (hx : Hm) (Q : D → Hm → Prop), Ext h hx → Q (.bl false) hx → Ok (cl (m + 2) 7 [x] hx) Q) (k : ∀ h' : Hm, Ext h h' → P (.bl false) h') : Ok (cl (m + 3) 6 [x] h) P := by
  rw [c_6]
  refine ok_body rfl ?_
  unfold b_6
  rw [w_seq, w_set]
  simp only [w_ifS, w_bin, w_app, w_call, w_cons, w_nil, w_tup, w_lst, w_if, w_tb, w_not, w_and, w_or, w_c, w_v, w_un, w_int, w_intB, w_addI, w_subI, w_lt, w_le, w_gt, w_ge, w_eqI, w_methL, startE, List.map_cons, List.map_nil, List.cons_append, List.nil_append, List.getElem?_cons_zero, List.getElem?_cons_succ, List.set_cons_zero, List.set_cons_succ, ok1_some, at0, at1, at2, at3, w_ixT, List.length_cons, List.length_nil, Nat.reduceAdd, Nat.reduceSub, Nat.zero_add, List.replicate_succ, List.replicate_zero]
  refine ⟨by simp [big], ?_⟩
  rw [w_seq]
  unfold mWhile
  have q0 : itemsOf (h ++ [Ob.lst [x]]) h.length = some [x] := items_l app_at
  refine while_of (fun n e hx => e = [some x, some (.ref h.length), none] ∧ hx = h ++ [Ob.lst [x]]) ?_ lots 0 _ _ (by unfold lots; omega) ⟨rfl, rfl⟩
  rintro n e hx ⟨rfl, rfl⟩
  simp only [w_ifS, w_bin, w_app, w_call, w_cons, w_nil, w_tup, w_lst, w_if, w_tb, w_not, w_and, w_or, w_c, w_v, w_un, w_int, w_intB, w_addI, w_subI, w_lt, w_le, w_gt, w_ge, w_eqI, w_methL, startE, List.map_cons, List.map_nil, List.cons_append, List.nil_append, List.getElem?_cons_zero, List.getElem?_cons_succ, List.set_cons_zero, List.set_cons_succ, ok1_some, at0, at1, at2, at3, w_ixT, List.length_cons, List.length_nil, Nat.reduceAdd, Nat.reduceSub, Nat.zero_add, List.replicate_succ, List.replicate_zero, w_tru]
  refine ⟨true, tru_ref q0, ?_⟩
  simp only [if_true]
  rw [w_seq]
  simp only [w_ifS, w_bin, w_app, w_call, w_cons, w_nil, w_tup, w_lst, w_if, w_tb, w_not, w_and, w_or, w_c, w_v, w_un, w_int, w_intB, w_addI, w_subI, w_lt, w_le, w_gt, w_ge, w_eqI, w_methL, startE, List.map_cons, List.map_nil, List.cons_append, List.nil_append, List.getElem?_cons_zero, List.getElem?_cons_succ, List.set_cons_zero, List.set_cons_succ, ok1_some, at0, at1, at2, at3, w_ixT, List.length_cons, List.length_nil, Nat.reduceAdd, Nat.reduceSub, Nat.zero_add, List.replicate_succ, List.replicate_zero, w_tru, w_comp]
  refine w_src ?_
  simp only [w_ifS, w_bin, w_app, w_call, w_cons, w_nil, w_tup, w_lst, w_if, w_tb, w_not, w_and, w_or, w_c, w_v, w_un, w_int, w_intB, w_addI, w_subI, w_lt, w_le, w_gt, w_ge, w_eqI, w_methL, startE, List.map_cons, List.map_nil, List.cons_append, List.nil_append, List.getElem?_cons_zero, List.getElem?_cons_succ, List.set_cons_zero, List.set_cons_succ, ok1_some, at0, at1, at2, at3, w_ixT, List.length_cons, List.length_nil, Nat.reduceAdd, Nat.reduceSub, Nat.zero_add, List.replicate_succ, List.replicate_zero]
  refine .inr ⟨_, _, rfl, q0, ?_⟩
  refine cloop_of (xs := [x]) (fun j hy => Ext (h ++ [Ob.lst [x]]) hy ∧ hy[(h ++ [Ob.lst [x]]).length]? = some (.lst (List.replicate j (D.bl false)))) (fun j hy v => nxt_live (v.1.items q0)) ?_ ?_ 1 lots 0 _ rfl (by unfold lots; omega) ⟨Ext.app, app_at⟩
  · rintro j y hy hj ⟨v1, v2⟩
    have ey : y = x ∧ j = 0 := by
      cases j with
      | zero => simp at hj; exact ⟨hj.symm, rfl⟩
      | succ j => simp at hj
    obtain ⟨rfl, rfl⟩ := ey
    refine ⟨[some y, some (.ref h.length), some y], rfl, ?_⟩
    show Ok (Re.ok true hy) _
    rw [ok_ok]
    simp only [if_true, w_ifS, w_bin, w_app, w_call, w_cons, w_nil, w_tup, w_lst, w_if, w_tb, w_not, w_and, w_or, w_c, w_v, w_un, w_int, w_intB, w_addI, w_subI, w_lt, w_le, w_gt, w_ge, w_eqI, w_methL, startE, List.map_cons, List.map_nil, List.cons_append, List.nil_append, List.getElem?_cons_zero, List.getElem?_cons_succ, List.set_cons_zero, List.set_cons_succ, ok1_some, at0, at1, at2, at3, w_ixT, List.length_cons, List.length_nil, Nat.reduceAdd, Nat.reduceSub, Nat.zero_add, List.replicate_succ, List.replicate_zero]
    refine hf hy _ (Ext.app.trans v1) ⟨_, v2, by simp [big], v1.put (Nat.le_refl _), ?_⟩
    rw [List.getElem?_set_self (lt_of_at v2)]
    rfl
  · rintro hy ⟨v1, v2⟩
    have e1 : Ok (pAA (fun bs => bs.all id) [.ref (h ++ [Ob.lst [x]]).length] hy) (fun d h1 => d = .bl false ∧ h1 = hy) := by
      unfold pAA
      simp only [items_l v2]
      exact ⟨rfl, rfl⟩
    refine e1.mono fun d h1 z => ?_
    obtain ⟨rfl, rfl⟩ := z
    refine ⟨false, rfl, ?_⟩
    simp only [Bool.not_false, if_true, w_seq, w_ifS, w_set, w_ret, w_par, w_asg, w_sub, w_drop, w_pass, w_bin, w_app, w_call, w_cons, w_nil, w_tup, w_lst, w_if, w_tb, w_not, w_and, w_or, w_c, w_v, w_un, w_int, w_intB, w_addI, w_subI, w_lt, w_le, w_gt, w_ge, w_eqI, w_methL, startE, List.map_cons, List.map_nil, List.cons_append, List.nil_append, List.getElem?_cons_zero, List.getElem?_cons_succ, List.set_cons_zero, List.set_cons_succ, ok1_some, at0, at1, at2, at3, w_ixT, List.length_cons, List.length_nil, Nat.reduceAdd, Nat.reduceSub, Nat.zero_add, List.replicate_succ, List.replicate_zero]
    exact k h1 (Ext.app.trans v1)
/-- no tuple is no node -/
theorem form_no {m : Nat} {x : D} {h : Hm} {P : D → Hm → Prop} (c : kd h x < 8) (c2 : kd h x ≠ 4) (k : P (.bl false) h) : Ok (cl (m + 2) 7 [x] h) P := by
  rw [c_7]
  refine ok_body rfl ?_
  unfold b_7
  rw [w_seq, w_ifS]
  simp only [w_ifS, w_bin, w_app, w_call, w_cons, w_nil, w_tup, w_lst, w_if, w_tb, w_not, w_and, w_or, w_c, w_v, w_un, w_int, w_intB, w_addI, w_subI, w_lt, w_le, w_gt, w_ge, w_eqI, w_methL, startE, List.map_cons, List.map_nil, List.cons_append, List.nil_append, List.getElem?_cons_zero, List.getElem?_cons_succ, List.set_cons_zero, List.set_cons_succ, ok1_some, at0, at1, at2, at3, w_ixT, List.length_cons, List.length_nil, Nat.reduceAdd, Nat.reduceSub, Nat.zero_add, List.replicate_succ, List.replicate_zero, w_tru]
  rw [w_isi c]
  have e : ([4] : List Nat).contains (kd h x) = false := by
    simp
    omega
  rw [e]
  refine ⟨false, rfl, ?_⟩
  simp only [Bool.not_false, if_true, w_seq, w_ifS, w_set, w_ret, w_par, w_asg, w_sub, w_drop, w_pass, w_bin, w_app, w_call, w_cons, w_nil, w_tup, w_lst, w_if, w_tb, w_not, w_and, w_or, w_c, w_v, w_un, w_int, w_intB, w_addI, w_subI, w_lt, w_le, w_gt, w_ge, w_eqI, w_methL, startE, List.map_cons, List.map_nil, List.cons_append, List.nil_append, List.getElem?_cons_zero, List.getElem?_cons_succ, List.set_cons_zero, List.set_cons_succ, ok1_some, at0, at1, at2, at3, w_ixT, List.length_cons, List.length_nil, Nat.reduceAdd, Nat.reduceSub, Nat.zero_add, List.replicate_succ, List.replicate_zero]
  exact k
/-- ('use', 5) -/
theorem form_u5 {m : Nat} {h : Hm} {P : D → Hm → Prop} (k : P (.bl false) h) : Ok (cl (m + 2) 7 [.tup [.str [117, 115, 101], .int 5]] h) P := by
  rw [c_7]
  refine ok_body rfl ?_
  unfold b_7
  simp only [w_seq, w_ifS, w_set, w_ret, w_par, w_asg, w_sub, w_drop, w_pass, w_bin, w_app, w_call, w_cons, w_nil, w_tup, w_lst, w_if, w_tb, w_not, w_and, w_or, w_c, w_v, w_un, w_int, w_intB, w_addI, w_subI, w_lt, w_le, w_gt, w_ge, w_eqI, w_methL, startE, List.map_cons, List.map_nil, List.cons_append, List.nil_append, List.getElem?_cons_zero, List.getElem?_cons_succ, List.set_cons_zero, List.set_cons_succ, ok1_some, at0, at1, at2, at3, w_ixT, List.length_cons, List.length_nil, Nat.reduceAdd, Nat.reduceSub, Nat.zero_add, List.replicate_succ, List.replicate_zero, w_tru, w_lenT, w_andV, w_orV]
  rw [w_isi (by simp [kd])]
  refine ⟨true, rfl, ?_⟩
  simp only [Bool.not_true, Bool.false_eq_true, if_false]
  refine ⟨false, rfl, ?_⟩
  simp only [Bool.false_eq_true, if_false, w_seq, w_ifS, w_set, w_ret, w_par, w_asg, w_sub, w_drop, w_pass, w_bin, w_app, w_call, w_cons, w_nil, w_tup, w_lst, w_if, w_tb, w_not, w_and, w_or, w_c, w_v, w_un, w_int, w_intB, w_addI, w_subI, w_lt, w_le, w_gt, w_ge, w_eqI, w_methL, startE, List.map_cons, List.map_nil, List.cons_append, List.nil_append, List.getElem?_cons_zero, List.getElem?_cons_succ, List.set_cons_zero, List.set_cons_succ, ok1_some, at0, at1, at2, at3, w_ixT, List.length_cons, List.length_nil, Nat.reduceAdd, Nat.reduceSub, Nat.zero_add, List.replicate_succ, List.replicate_zero]
  refine ⟨_, rfl, ?_⟩
  rw [w_isi (by simp [kd])]
  refine ⟨true, rfl, ?_⟩
  simp only [Bool.not_true, Bool.false_eq_true, if_false, w_seq, w_ifS, w_set, w_ret, w_par, w_asg, w_sub, w_drop, w_pass, w_bin, w_app, w_call, w_cons, w_nil, w_tup, w_lst, w_if, w_tb, w_not, w_and, w_or, w_c, w_v, w_un, w_int, w_intB, w_addI, w_subI, w_lt, w_le, w_gt, w_ge, w_eqI, w_methL, startE, List.map_cons, List.map_nil, List.cons_append, List.nil_append, List.getElem?_cons_zero, List.getElem?_cons_succ, List.set_cons_zero, List.set_cons_succ, ok1_some, at0, at1, at2, at3, w_ixT, List.length_cons, List.length_nil, Nat.reduceAdd, Nat.reduceSub, Nat.zero_add, List.replicate_succ, List.replicate_zero]
  rw [show (D.str [117, 115, 101]) = D.str (tag (.use [])) from rfl, getK, w_neI]
  refine ⟨false, rfl, ?_⟩
  simp only [Bool.false_eq_true, if_false, w_seq, w_ifS, w_set, w_ret, w_par, w_asg, w_sub, w_drop, w_pass, w_bin, w_app, w_call, w_cons, w_nil, w_tup, w_lst, w_if, w_tb, w_not, w_and, w_or, w_c, w_v, w_un, w_int, w_intB, w_addI, w_subI, w_lt, w_le, w_gt, w_ge, w_eqI, w_methL, startE, List.map_cons, List.map_nil, List.cons_append, List.nil_append, List.getElem?_cons_zero, List.getElem?_cons_succ, List.set_cons_zero, List.set_cons_succ, ok1_some, at0, at1, at2, at3, w_ixT, List.length_cons, List.length_nil, Nat.reduceAdd, Nat.reduceSub, Nat.zero_add, List.replicate_succ, List.replicate_zero]
  refine ⟨_, rfl, ?_⟩
  rw [c_4]
  refine ok_body rfl ?_
  unfold b_4
  simp only [w_seq, w_ifS, w_set, w_ret, w_par, w_asg, w_sub, w_drop, w_pass, w_bin, w_app, w_call, w_cons, w_nil, w_tup, w_lst, w_if, w_tb, w_not, w_and, w_or, w_c, w_v, w_un, w_int, w_intB, w_addI, w_subI, w_lt, w_le, w_gt, w_ge, w_eqI, w_methL, startE, List.map_cons, List.map_nil, List.cons_append, List.nil_append, List.getElem?_cons_zero, List.getElem?_cons_succ, List.set_cons_zero, List.set_cons_succ, ok1_some, at0, at1, at2, at3, w_ixT, List.length_cons, List.length_nil, Nat.reduceAdd, Nat.reduceSub, Nat.zero_add, List.replicate_succ, List.replicate_zero, w_tru]
  rw [w_isi (by simp [kd])]
  refine ⟨false, rfl, ?_⟩
  simp only [Bool.not_false, if_true, w_seq, w_ifS, w_set, w_ret, w_par, w_asg, w_sub, w_drop, w_pass, w_bin, w_app, w_call, w_cons, w_nil, w_tup, w_lst, w_if, w_tb, w_not, w_and, w_or, w_c, w_v, w_un, w_int, w_intB, w_addI, w_subI, w_lt, w_le, w_gt, w_ge, w_eqI, w_methL, startE, List.map_cons, List.map_nil, List.cons_append, List.nil_append, List.getElem?_cons_zero, List.getElem?_cons_succ, List.set_cons_zero, List.set_cons_succ, ok1_some, at0, at1, at2, at3, w_ixT, List.length_cons, List.length_nil, Nat.reduceAdd, Nat.reduceSub, Nat.zero_add, List.replicate_succ, List.replicate_zero]
  exact ⟨false, rfl, k⟩
section
variable {m o : Nat} {t : Tr} {h : Hm} {P : D → Hm → Prop}
theorem contains_no {x : D} (hf : ∀ (hx : Hm) (Q : D → Hm → Prop), Ext h hx → Q (.bl false) hx → Ok (cl (m + 2) 7 [x] hx) Q) (k : ∀ h' : Hm, Ext h h' → P (.bl false) h') : Ok (cl (m + 4) 17 [.ref o, x] h) P := by
  rw [c_17]
  refine ok_body rfl ?_
  unfold b_17
  rw [w_ret, w_andV]
  simp only [w_seq, w_ifS, w_set, w_ret, w_par, w_asg, w_sub, w_drop, w_pass, w_bin, w_app, w_call, w_cons, w_nil, w_tup, w_lst, w_if, w_tb, w_not, w_and, w_or, w_c, w_v, w_un, w_int, w_intB, w_addI, w_subI, w_lt, w_le, w_gt, w_ge, w_eqI, w_methL, startE, List.map_cons, List.map_nil, List.cons_append, List.nil_append, List.getElem?_cons_zero, List.getElem?_cons_succ, List.set_cons_zero, List.set_cons_succ, ok1_some, at0, at1, at2, at3, w_ixT, List.length_cons, List.length_nil, Nat.reduceAdd, Nat.reduceSub, Nat.zero_add, List.replicate_succ, List.replicate_zero]
  exact istree_no hf fun h1 x1 => ⟨false, rfl, k h1 x1⟩
/-- the strange name stands in no drawn tree -/
theorem inT_q (g : good t) : inT t (.use [113]) = false := by
  unfold inT
  rw [List.any_eq_false]
  intro z hz
  have gz := (nod_good t g z hz).1
  cases z with
  | join l ts => exact Bool.false_ne_true ∘ fun e => e
  | bind n ah b => exact Bool.false_ne_true ∘ fun e => e
  | use n =>
    have gn : goodN n = true := gz
    unfold goodN at gn
    simp only [Bool.and_eq_true, decide_eq_true_eq] at gn
    have e : teq 60 (.use n) (.use [113]) = decide (n = [113]) := by
      show (decide (tUse = tUse) && (decide (n = [113]) && true)) = _
      simp
    rw [e]
    simp [gn.1.2]
theorem contains_q (q : TermAt h o t) (g : good t) (hz : siz t ≤ 29) (k : ∀ h', Ext h h' → P (.bl false) h') : Ok (cl (m + 4) 17 [.ref o, .tup [.str [117, 115, 101], .str [113]]] h) P := by
  obtain ⟨pn, pb, pu, a, b, c, d⟩ := q
  rw [c_17]
  refine ok_body rfl ?_
  unfold b_17
  rw [w_ret, w_andV]
  simp only [w_seq, w_ifS, w_set, w_ret, w_par, w_asg, w_sub, w_drop, w_pass, w_bin, w_app, w_call, w_cons, w_nil, w_tup, w_lst, w_if, w_tb, w_not, w_and, w_or, w_c, w_v, w_un, w_int, w_intB, w_addI, w_subI, w_lt, w_le, w_gt, w_ge, w_eqI, w_methL, startE, List.map_cons, List.map_nil, List.cons_append, List.nil_append, List.getElem?_cons_zero, List.getElem?_cons_succ, List.set_cons_zero, List.set_cons_succ, ok1_some, at0, at1, at2, at3, w_ixT, List.length_cons, List.length_nil, Nat.reduceAdd, Nat.reduceSub, Nat.zero_add, List.replicate_succ, List.replicate_zero]
  have gu : okT (.use [113]) := by show goodW [113] = true; decide +kernel
  refine istree_ok (t := .use [113]) gu (by decide) fun h1 x1 => ⟨true, rfl, ?_⟩
  simp only [if_true, w_seq, w_ifS, w_set, w_ret, w_par, w_asg, w_sub, w_drop, w_pass, w_bin, w_app, w_call, w_cons, w_nil, w_tup, w_lst, w_if, w_tb, w_not, w_and, w_or, w_c, w_v, w_un, w_int, w_intB, w_addI, w_subI, w_lt, w_le, w_gt, w_ge, w_eqI, w_methL, startE, List.map_cons, List.map_nil, List.cons_append, List.nil_append, List.getElem?_cons_zero, List.getElem?_cons_succ, List.set_cons_zero, List.set_cons_succ, ok1_some, at0, at1, at2, at3, w_ixT, List.length_cons, List.length_nil, Nat.reduceAdd, Nat.reduceSub, Nat.zero_add, List.replicate_succ, List.replicate_zero]
  refine w_fld ?_
  simp only [w_seq, w_ifS, w_set, w_ret, w_par, w_asg, w_sub, w_drop, w_pass, w_bin, w_app, w_call, w_cons, w_nil, w_tup, w_lst, w_if, w_tb, w_not, w_and, w_or, w_c, w_v, w_un, w_int, w_intB, w_addI, w_subI, w_lt, w_le, w_gt, w_ge, w_eqI, w_methL, startE, List.map_cons, List.map_nil, List.cons_append, List.nil_append, List.getElem?_cons_zero, List.getElem?_cons_succ, List.set_cons_zero, List.set_cons_succ, ok1_some, at0, at1, at2, at3, w_ixT, List.length_cons, List.length_nil, Nat.reduceAdd, Nat.reduceSub, Nat.zero_add, List.replicate_succ, List.replicate_zero]
  refine ⟨o, 0, _, _, rfl, x1 _ _ a, rfl, rfl, ?_⟩
  have e := inB_is (h := h1) (u := .use [113]) (nod t)
  rw [show (nod t).any (fun z => teq 60 z (.use [113])) = inT t (.use [113]) from rfl, inT_q g] at e
  rw [w_in (items_l (x1 _ _ b)) (by rfl) (okNodes g hz)]
  have e2 : inB h1 (.tup [.str [117, 115, 101], .str [113]]) (toDs (nod t)) = false := e
  rw [e2]
  exact k h1 x1
/-! ### what is no number of a node -/
theorem raise_of {tt : MT} {a : ME} {b : MS} {e : En} {c : Nat} {d : D} (o : Ok (tt e h) fun x h1 => x = true ∧ h1 = h) (ha : a e h = .ok d h) : mSeq (mIfS tt (mRaise c a) mPass) b e h = .ex c d e h := by
  unfold mSeq mIfS mRaise
  revert o
  cases tt e h with
  | ok x h1 =>
    rintro ⟨rfl, rfl⟩
    simp only [Re.bs, if_true, ha]
  | ex _ _ _ => exact fun z => z.elim
  | no => exact fun z => z.elim
theorem get_no {d : D} (o1 : Ok ((mOrT (mNotT (mTru (mCall (cl (m + 1) 5) (mCons (mVar 1) mNil)))) (mOrT (mTb (mBin pLt (mVar 1) (mC (.int 0)))) (mTb (mBin pGe (mVar 1) (mApp pLen (mCons (mFld [0] 1 (mVar 0)) mNil)))))) [some (.ref o), some d] h) fun x h1 => x = true ∧ h1 = h) : cl (m + 2) 16 [.ref o, d] h = .ex 2 d h := by
  rw [c_16]
  unfold mBody
  rw [if_pos (show [D.ref o, d].length = 2 from rfl)]
  unfold mRun
  have e : startE 2 [D.ref o, d] = [some (.ref o), some d] := rfl
  rw [e]
  have z := raise_of (c := 2) (a := mVar 1) (b := mRet (mBin pIdx (mFld [0] 1 (mVar 0)) (mVar 1))) (d := d) o1 rfl
  have z2 : b_16 (cl (m + 1)) [some (.ref o), some d] h = .ex 2 d [some (.ref o), some d] h := z
  rw [z2]
theorem num_no {d : D} {e : En} {h1 : Hm} {P : D → Hm → Prop} (c : kd h1 d < 8) (c1 : kd h1 d ≠ 2) (k : P (.bl false) h1) : Ok (cl (m + 1) 5 [d] h1) P := by
  rw [c_5]
  refine ok_body rfl ?_
  unfold b_5
  rw [w_ret, w_andV]
  simp only [w_seq, w_ifS, w_set, w_ret, w_par, w_asg, w_sub, w_drop, w_pass, w_bin, w_app, w_call, w_cons, w_nil, w_tup, w_lst, w_if, w_tb, w_not, w_and, w_or, w_c, w_v, w_un, w_int, w_intB, w_addI, w_subI, w_lt, w_le, w_gt, w_ge, w_eqI, w_methL, startE, List.map_cons, List.map_nil, List.cons_append, List.nil_append, List.getElem?_cons_zero, List.getElem?_cons_succ, List.set_cons_zero, List.set_cons_succ, ok1_some, at0, at1, at2, at3, w_ixT, List.length_cons, List.length_nil, Nat.reduceAdd, Nat.reduceSub, Nat.zero_add, List.replicate_succ, List.replicate_zero]
  rw [w_isi c]
  by_cases q : kd h1 d = 1
  · rw [q]
    refine ⟨true, rfl, ?_⟩
    simp only [if_true]
    rw [w_notV, w_un]
    simp only [w_seq, w_ifS, w_set, w_ret, w_par, w_asg, w_sub, w_drop, w_pass, w_bin, w_app, w_call, w_cons, w_nil, w_tup, w_lst, w_if, w_tb, w_not, w_and, w_or, w_c, w_v, w_un, w_int, w_intB, w_addI, w_subI, w_lt, w_le, w_gt, w_ge, w_eqI, w_methL, startE, List.map_cons, List.map_nil, List.cons_append, List.nil_append, List.getElem?_cons_zero, List.getElem?_cons_succ, List.set_cons_zero, List.set_cons_succ, ok1_some, at0, at1, at2, at3, w_ixT, List.length_cons, List.length_nil, Nat.reduceAdd, Nat.reduceSub, Nat.zero_add, List.replicate_succ, List.replicate_zero]
    rw [w_isi c, q]
    exact ⟨true, rfl, k⟩
  · have e : ([1, 2] : List Nat).contains (kd h1 d) = false := by
      simp
      omega
    rw [e]
    exact ⟨false, rfl, k⟩
theorem num_yes {i : Int} {P : D → Hm → Prop} (k : P (.bl true) h) : Ok (cl (m + 1) 5 [.int i] h) P := by
  rw [c_5]
  refine ok_body rfl ?_
  unfold b_5
  rw [w_ret, w_andV]
  simp only [w_seq, w_ifS, w_set, w_ret, w_par, w_asg, w_sub, w_drop, w_pass, w_bin, w_app, w_call, w_cons, w_nil, w_tup, w_lst, w_if, w_tb, w_not, w_and, w_or, w_c, w_v, w_un, w_int, w_intB, w_addI, w_subI, w_lt, w_le, w_gt, w_ge, w_eqI, w_methL, startE, List.map_cons, List.map_nil, List.cons_append, List.nil_append, List.getElem?_cons_zero, List.getElem?_cons_succ, List.set_cons_zero, List.set_cons_succ, ok1_some, at0, at1, at2, at3, w_ixT, List.length_cons, List.length_nil, Nat.reduceAdd, Nat.reduceSub, Nat.zero_add, List.replicate_succ, List.replicate_zero]
  rw [w_isi (by simp [kd])]
  refine ⟨true, rfl, ?_⟩
  simp only [if_true]
  rw [w_notV, w_un]
  simp only [w_seq, w_ifS, w_set, w_ret, w_par, w_asg, w_sub, w_drop, w_pass, w_bin, w_app, w_call, w_cons, w_nil, w_tup, w_lst, w_if, w_tb, w_not, w_and, w_or, w_c, w_v, w_un, w_int, w_intB, w_addI, w_subI, w_lt, w_le, w_gt, w_ge, w_eqI, w_methL, startE, List.map_cons, List.map_nil, List.cons_append, List.nil_append, List.getElem?_cons_zero, List.getElem?_cons_succ, List.set_cons_zero, List.set_cons_succ, ok1_some, at0, at1, at2, at3, w_ixT, List.length_cons, List.length_nil, Nat.reduceAdd, Nat.reduceSub, Nat.zero_add, List.replicate_succ, List.replicate_zero]
  rw [w_isi (by simp [kd])]
  exact ⟨false, rfl, k⟩
theorem bad_val {d : D} (c : kd h d < 8) (c1 : kd h d ≠ 2) : cl (m + 2) 16 [.ref o, d] h = .ex 2 d h := by
  refine get_no ?_
  simp only [w_ifS, w_bin, w_app, w_call, w_cons, w_nil, w_tup, w_lst, w_if, w_tb, w_not, w_and, w_or, w_c, w_v, w_un, w_int, w_intB, w_addI, w_subI, w_lt, w_le, w_gt, w_ge, w_eqI, w_methL, startE, List.map_cons, List.map_nil, List.cons_append, List.nil_append, List.getElem?_cons_zero, List.getElem?_cons_succ, List.set_cons_zero, List.set_cons_succ, ok1_some, at0, at1, at2, at3, w_ixT, List.length_cons, List.length_nil, Nat.reduceAdd, Nat.reduceSub, Nat.zero_add, List.replicate_succ, List.replicate_zero, w_tru]
  refine num_no (e := []) c c1 ⟨false, rfl, ?_⟩
  exact ⟨trivial, rfl⟩
theorem bad_int {i : Int} (q : TermAt h o t) (c : i < 0 ∨ (siz t : Int) ≤ i) : cl (m + 2) 16 [.ref o, .int i] h = .ex 2 (.int i) h := by
  obtain ⟨pn, pb, pu, a, b, _⟩ := q
  refine get_no ?_
  simp only [w_ifS, w_bin, w_app, w_call, w_cons, w_nil, w_tup, w_lst, w_if, w_tb, w_not, w_and, w_or, w_c, w_v, w_un, w_int, w_intB, w_addI, w_subI, w_lt, w_le, w_gt, w_ge, w_eqI, w_methL, startE, List.map_cons, List.map_nil, List.cons_append, List.nil_append, List.getElem?_cons_zero, List.getElem?_cons_succ, List.set_cons_zero, List.set_cons_succ, ok1_some, at0, at1, at2, at3, w_ixT, List.length_cons, List.length_nil, Nat.reduceAdd, Nat.reduceSub, Nat.zero_add, List.replicate_succ, List.replicate_zero, w_tru]
  refine num_yes ⟨true, rfl, ?_⟩
  simp only [Bool.not_true, Bool.false_eq_true, if_false]
  refine ⟨_, rfl, ?_⟩
  by_cases n : i < 0
  · simp only [decide_eq_true n, if_true]
    exact ⟨trivial, trivial⟩
  · simp only [decide_eq_false n, Bool.false_eq_true, if_false]
    refine w_fld ?_
    simp only [w_ifS, w_bin, w_app, w_call, w_cons, w_nil, w_tup, w_lst, w_if, w_tb, w_not, w_and, w_or, w_c, w_v, w_un, w_int, w_intB, w_addI, w_subI, w_lt, w_le, w_gt, w_ge, w_eqI, w_methL, startE, List.map_cons, List.map_nil, List.cons_append, List.nil_append, List.getElem?_cons_zero, List.getElem?_cons_succ, List.set_cons_zero, List.set_cons_succ, ok1_some, at0, at1, at2, at3, w_ixT, List.length_cons, List.length_nil, Nat.reduceAdd, Nat.reduceSub, Nat.zero_add, List.replicate_succ, List.replicate_zero]
    refine ⟨o, 0, _, _, rfl, a, rfl, rfl, ?_⟩
    rw [w_lenL (items_l b), toDs_len, nod_len]
    exact ⟨true, congrArg D.bl (decide_eq_true (by omega)), rfl, rfl⟩
end
end K1
end L2.Lv
end
section
set_option maxRecDepth 100000
set_option maxHeartbeats 1000000
set_option autoImplicit false
namespace L2.Lv
namespace K1
open PySem
theorem w_isB {a b : Bool} {h : Hm} {P : D → Hm → Prop} : Ok (pIs true (.bl a) (.bl b) h) P ↔ P (.bl (!(a == b))) h := Iff.rfl
theorem w_neB {a : Bool} {h : Hm} {P : D → Hm → Prop} : Ok (pNe (.bl a) (.bl a) h) P ↔ P (.bl false) h := by
  rw [w_ne (by rfl) (by rfl), eqB_refl deep _ (by rfl)]
  exact Iff.rfl
def ch_app (c : CT) : MS := mFor (mSrc (mLst (mCons (mOwn 0 (c 19) (mVar 4) mNil) (mCons (mOwn 0 (c 20) (mVar 4) mNil) (mCons (mOwn 0 (c 21) (mVar 4) mNil) mNil))))) (gSet 6) (mDrop (mMethL pAppend (mVar 6) (mCons (mC .non) mNil)))
def ch_told (c : CT) : MS := mFor (mRng1 (mCons (mC (.int 2)) mNil)) (gSet 5) (mSeq (mIfS (mOrT (mNotT (mTru (mCall (c 40) (mCons (mVar 3) (mCons (mVar 4) mNil))))) (mTb (mBin (pIs true) (mCall (c 6) (mCons (mVar 3) mNil)) (mC (.bl true))))) (mRet (mC (.bl false))) mPass) (ch_app c))
section
variable {o : Nat} {t : Tr} {h : Hm} {P : D → Hm → Prop} {N : En → Hm → Prop} {R : D → Hm → Prop} {x0 x1 x2 x5 x6 x7 x8 x9 : Option D}
theorem app_ok (q : TermAt h o t) (hz : siz t ≤ 21) (k : ∀ (x6 : Option D) (h' : Hm), Ext h h' → N [x0, x1, x2, some (toD t), some (.ref o), x5, x6, x7, x8, x9] h') : OkS (ch_app (cl 50) [x0, x1, x2, some (toD t), some (.ref o), x5, x6, x7, x8, x9] h) N R := by
  have ins : ∃ fs, h[o]? = some (.ins 0 fs) := by
    obtain ⟨_, _, _, a, _⟩ := q
    exact ⟨_, a⟩
  obtain ⟨fs, a⟩ := ins
  unfold ch_app
  rw [w_for]
  refine w_src ?_
  simp only [w_ifS, w_bin, w_app, w_call, w_cons, w_nil, w_tup, w_lst, w_if, w_tb, w_not, w_and, w_or, w_c, w_v, w_un, w_int, w_intB, w_addI, w_subI, w_lt, w_le, w_gt, w_ge, w_eqI, w_methL, startE, List.map_cons, List.map_nil, List.cons_append, List.nil_append, List.getElem?_cons_zero, List.getElem?_cons_succ, List.set_cons_zero, List.set_cons_succ, ok1_some, at0, at1, at2, at3, w_ixT, List.length_cons, List.length_nil, Nat.reduceAdd, Nat.reduceSub, Nat.zero_add, List.replicate_succ, List.replicate_zero]
  refine w_own ?_
  simp only [w_ifS, w_bin, w_app, w_call, w_cons, w_nil, w_tup, w_lst, w_if, w_tb, w_not, w_and, w_or, w_c, w_v, w_un, w_int, w_intB, w_addI, w_subI, w_lt, w_le, w_gt, w_ge, w_eqI, w_methL, startE, List.map_cons, List.map_nil, List.cons_append, List.nil_append, List.getElem?_cons_zero, List.getElem?_cons_succ, List.set_cons_zero, List.set_cons_succ, ok1_some, at0, at1, at2, at3, w_ixT, List.length_cons, List.length_nil, Nat.reduceAdd, Nat.reduceSub, Nat.zero_add, List.replicate_succ, List.replicate_zero]
  refine ⟨ins_is a, listed_m q (by omega) ?_⟩
  have y1 : Ext h (h ++ [Ob.lst (toDs (nod t))]) := Ext.app
  have l1 := (app_at : (h ++ [Ob.lst (toDs (nod t))])[h.length]? = _)
  have z1 : (h ++ [Ob.lst (toDs (nod t))]).length = h.length + 1 := by simp
  generalize h ++ [Ob.lst (toDs (nod t))] = h1 at y1 l1 z1 ⊢
  refine w_own ?_
  simp only [w_ifS, w_bin, w_app, w_call, w_cons, w_nil, w_tup, w_lst, w_if, w_tb, w_not, w_and, w_or, w_c, w_v, w_un, w_int, w_intB, w_addI, w_subI, w_lt, w_le, w_gt, w_ge, w_eqI, w_methL, startE, List.map_cons, List.map_nil, List.cons_append, List.nil_append, List.getElem?_cons_zero, List.getElem?_cons_succ, List.set_cons_zero, List.set_cons_succ, ok1_some, at0, at1, at2, at3, w_ixT, List.length_cons, List.length_nil, Nat.reduceAdd, Nat.reduceSub, Nat.zero_add, List.replicate_succ, List.replicate_zero]
  refine ⟨ins_is (y1 _ _ a), binders_m (q.ext y1) (by omega) ?_⟩
  have y2 : Ext h1 (h1 ++ [Ob.lst (nums tBind 0 (nod t))]) := Ext.app
  have l2 := (app_at : (h1 ++ [Ob.lst (nums tBind 0 (nod t))])[h1.length]? = _)
  have z2 : (h1 ++ [Ob.lst (nums tBind 0 (nod t))]).length = h1.length + 1 := by simp
  generalize h1 ++ [Ob.lst (nums tBind 0 (nod t))] = h2 at y2 l2 z2 ⊢
  refine w_own ?_
  simp only [w_ifS, w_bin, w_app, w_call, w_cons, w_nil, w_tup, w_lst, w_if, w_tb, w_not, w_and, w_or, w_c, w_v, w_un, w_int, w_intB, w_addI, w_subI, w_lt, w_le, w_gt, w_ge, w_eqI, w_methL, startE, List.map_cons, List.map_nil, List.cons_append, List.nil_append, List.getElem?_cons_zero, List.getElem?_cons_succ, List.set_cons_zero, List.set_cons_succ, ok1_some, at0, at1, at2, at3, w_ixT, List.length_cons, List.length_nil, Nat.reduceAdd, Nat.reduceSub, Nat.zero_add, List.replicate_succ, List.replicate_zero]
  have y12 := y1.trans y2
  refine ⟨ins_is (y12 _ _ a), uses_m (q.ext y12) (by omega) ?_⟩
  have y3 : Ext h2 (h2 ++ [Ob.lst (nums tUse 0 (nod t))]) := Ext.app
  have l3 := (app_at : (h2 ++ [Ob.lst (nums tUse 0 (nod t))])[h2.length]? = _)
  have z3 : (h2 ++ [Ob.lst (nums tUse 0 (nod t))]).length = h2.length + 1 := by simp
  generalize h2 ++ [Ob.lst (nums tUse 0 (nod t))] = h3 at y3 l3 z3 ⊢
  refine ⟨by simp [big], ?_⟩
  have lb := nums_len tBind 0 (nod t)
  have lu := nums_len tUse 0 (nod t)
  have ln := nod_len t
  have lt := toDs_len (nod t)
  have y4 : Ext h3 (h3 ++ [Ob.lst [.ref h.length, .ref h1.length, .ref h2.length]]) := Ext.app
  have l4 := (app_at : (h3 ++ [Ob.lst [.ref h.length, .ref h1.length, .ref h2.length]])[h3.length]? = _)
  refine .inr ⟨_, _, rfl, items_l l4, ?_⟩
  refine loop_of (xs := [.ref h.length, .ref h1.length, .ref h2.length]) (fun j e hx => (∃ x6, e = [x0, x1, x2, some (toD t), some (.ref o), x5, x6, x7, x8, x9]) ∧ Ext h hx ∧ hx[h3.length]? = some (.lst [.ref h.length, .ref h1.length, .ref h2.length]) ∧ ∀ n, n = h.length ∨ n = h1.length ∨ n = h2.length → ∃ xs, hx[n]? = some (.lst xs) ∧ xs.length ≤ 1000 + j) (fun j e hx v => nxt_live (items_l v.2.2.1)) ?_ ?_ 3 lots 0 _ _ rfl (by unfold lots; omega) ⟨⟨_, rfl⟩, ((y12.trans y3).trans y4), l4, ?_⟩
  · rintro j x e hx hj ⟨⟨z6, rfl⟩, v1, v2, v3⟩
    have hm : ∃ n, x = .ref n ∧ (n = h.length ∨ n = h1.length ∨ n = h2.length) := by
      have := List.mem_of_getElem? hj
      simp only [List.mem_cons, List.not_mem_nil, or_false] at this
      rcases this with rfl | rfl | rfl
      · exact ⟨_, rfl, .inl rfl⟩
      · exact ⟨_, rfl, .inr (.inl rfl)⟩
      · exact ⟨_, rfl, .inr (.inr rfl)⟩
    have jl : j < 3 := (List.getElem?_eq_some_iff.mp hj).1
    obtain ⟨n, rfl, hn⟩ := hm
    obtain ⟨xs, e1, e2⟩ := v3 n hn
    refine ⟨_, rfl, ?_⟩
    rw [w_drop]
    show Ok (mMethL pAppend (mVar 6) (mCons (mC .non) mNil) [x0, x1, x2, some (toD t), some (.ref o), x5, some (.ref n), x7, x8, x9] hx) _
    simp only [w_ifS, w_bin, w_app, w_call, w_cons, w_nil, w_tup, w_lst, w_if, w_tb, w_not, w_and, w_or, w_c, w_v, w_un, w_int, w_intB, w_addI, w_subI, w_lt, w_le, w_gt, w_ge, w_eqI, w_methL, startE, List.map_cons, List.map_nil, List.cons_append, List.nil_append, List.getElem?_cons_zero, List.getElem?_cons_succ, List.set_cons_zero, List.set_cons_succ, ok1_some, at0, at1, at2, at3, w_ixT, List.length_cons, List.length_nil, Nat.reduceAdd, Nat.reduceSub, Nat.zero_add, List.replicate_succ, List.replicate_zero]
    refine ⟨isLst_of (items_l e1), ?_⟩
    rw [w_append e1 (by unfold big; omega)]
    refine ⟨⟨_, rfl⟩, v1.put (by omega), ?_, fun n2 hn2 => ?_⟩
    · rw [List.getElem?_set_ne (by omega)]
      exact v2
    · obtain ⟨ys, f1, f2⟩ := v3 n2 hn2
      by_cases c : n = n2
      · subst c
        refine ⟨_, List.getElem?_set_self (lt_of_at e1), ?_⟩
        simp only [List.length_append, List.length_cons, List.length_nil]
        omega
      · exact ⟨ys, by rw [List.getElem?_set_ne c]; exact f1, by omega⟩
  · rintro e hx ⟨⟨z6, rfl⟩, v1, _⟩
    exact k z6 hx v1
  · rintro n (rfl | rfl | rfl)
    · exact ⟨_, y4 _ _ (y3 _ _ (y2 _ _ l1)), by omega⟩
    · exact ⟨_, y4 _ _ (y3 _ _ l2), by omega⟩
    · exact ⟨_, y4 _ _ l3, by omega⟩
theorem toldT_ok (q : TermAt h o t) (g : good t) (hz : siz t ≤ 21) (k : ∀ (x5 x6 : Option D) (h' : Hm), Ext h h' → N [x0, x1, x2, some (toD t), some (.ref o), x5, x6, x7, x8, x9] h') : OkS (ch_told (cl 50) [x0, x1, x2, some (toD t), some (.ref o), x5, x6, x7, x8, x9] h) N R := by
  unfold ch_told
  rw [w_for, w_rng1]
  simp only [w_ifS, w_bin, w_app, w_call, w_cons, w_nil, w_tup, w_lst, w_if, w_tb, w_not, w_and, w_or, w_c, w_v, w_un, w_int, w_intB, w_addI, w_subI, w_lt, w_le, w_gt, w_ge, w_eqI, w_methL, startE, List.map_cons, List.map_nil, List.cons_append, List.nil_append, List.getElem?_cons_zero, List.getElem?_cons_succ, List.set_cons_zero, List.set_cons_succ, ok1_some, at0, at1, at2, at3, w_ixT, List.length_cons, List.length_nil, Nat.reduceAdd, Nat.reduceSub, Nat.zero_add, List.replicate_succ, List.replicate_zero]
  refine ⟨_, rfl, by decide, ?_⟩
  refine loop_fix (fun j e hx => (∃ x5 x6, e = [x0, x1, x2, some (toD t), some (.ref o), x5, x6, x7, x8, x9]) ∧ Ext h hx) ?_ ?_ 2 lots 0 _ _ rfl (by unfold lots; omega) ⟨⟨_, _, rfl⟩, Ext.refl⟩
  · rintro j x e hx hj ⟨⟨z5, z6, rfl⟩, v1⟩
    refine ⟨_, rfl, ?_⟩
    show OkS (mSeq _ (ch_app (cl 50)) [x0, x1, x2, some (toD t), some (.ref o), some x, z6, x7, x8, x9] hx) _ _
    rw [w_seq]
    simp only [w_ifS, w_bin, w_app, w_call, w_cons, w_nil, w_tup, w_lst, w_if, w_tb, w_not, w_and, w_or, w_c, w_v, w_un, w_int, w_intB, w_addI, w_subI, w_lt, w_le, w_gt, w_ge, w_eqI, w_methL, startE, List.map_cons, List.map_nil, List.cons_append, List.nil_append, List.getElem?_cons_zero, List.getElem?_cons_succ, List.set_cons_zero, List.set_cons_succ, ok1_some, at0, at1, at2, at3, w_ixT, List.length_cons, List.length_nil, Nat.reduceAdd, Nat.reduceSub, Nat.zero_add, List.replicate_succ, List.replicate_zero, w_tru]
    refine told_ok (m := 10) (q.ext v1) g (by omega) fun h1 y1 => ⟨true, rfl, ?_⟩
    simp only [Bool.not_true, Bool.false_eq_true, if_false]
    refine istree_ok (m := 47) (ok_of_good g) (by omega) fun h2 y2 => ?_
    rw [w_isB]
    refine ⟨false, rfl, ?_⟩
    simp only [Bool.false_eq_true, if_false, w_pass]
    have v2 := (v1.trans y1).trans y2
    exact app_ok (q.ext v2) hz fun z6 h3 y3 => ⟨⟨_, _, rfl⟩, v2.trans y3⟩
  · rintro e hx ⟨⟨z5, z6, rfl⟩, v1⟩
    exact k z5 z6 hx v1
end
end K1
end L2.Lv
end
section
set_option maxRecDepth 100000
set_option maxHeartbeats 1000000
set_option autoImplicit false
namespace L2.Lv
namespace K1
open PySem
def rok (d : D) : Bool := (reprD [] d).any fun t => t.all fun c => decide (c < 1114112)
theorem rok_int : ∀ n : Nat, n < 22 → rok (.int (n : Nat)) = true
  | 0, _ => by decide +kernel
  | 1, _ => by decide +kernel
  | 2, _ => by decide +kernel
  | 3, _ => by decide +kernel
  | 4, _ => by decide +kernel
  | 5, _ => by decide +kernel
  | 6, _ => by decide +kernel
  | 7, _ => by decide +kernel
  | 8, _ => by decide +kernel
  | 9, _ => by decide +kernel
  | 10, _ => by decide +kernel
  | 11, _ => by decide +kernel
  | 12, _ => by decide +kernel
  | 13, _ => by decide +kernel
  | 14, _ => by decide +kernel
  | 15, _ => by decide +kernel
  | 16, _ => by decide +kernel
  | 17, _ => by decide +kernel
  | 18, _ => by decide +kernel
  | 19, _ => by decide +kernel
  | 20, _ => by decide +kernel
  | 21, _ => by decide +kernel
  | n + 22, h => absurd h (by omega)
theorem rok_is {d : D} (q : rok d = true) : ∃ t, reprD [] d = some t ∧ (t.all fun c => decide (c < 1114112)) = true := by
  unfold rok at q
  cases e : reprD [] d with
  | none => rw [e] at q; cases q
  | some t => rw [e] at q; exact ⟨t, rfl, q⟩
theorem rok_0 : rok .non = true := by decide +kernel
theorem rok_1 : rok (.int (-1)) = true := by decide +kernel
theorem rok_2 : rok (.bl true) = true := by decide +kernel
theorem rok_3 : rok (.str [48]) = true := by decide +kernel
theorem rok_4 : rok (.tup [.int 0]) = true := by decide +kernel
def sameT (c : CT) (i : Nat) : MT := mTb (mBin pNe (mBin (pEqO 0 1 (c 23)) (mMake 0 (c 13) (mCons (mVar i) mNil)) (mVar 4)) (mBin pEq (mVar i) (mVar 3)))
section
variable {o : Nat} {t u : Tr} {h : Hm} {P : D → Hm → Prop} {N : En → Hm → Prop} {R : D → Hm → Prop} {x0 x1 x2 x5 x6 x7 x8 x9 : Option D} {e : En}
theorem same_ok {i : Nat} {P : Bool → Hm → Prop} (q : TermAt h o t) (g : good t) (hz : siz t ≤ 21) (gu : good u) (hu : siz u ≤ 21) (e3 : e[3]? = some (some (toD t))) (e4 : e[4]? = some (some (.ref o))) (ei : e[i]? = some (some (toD u))) (k : ∀ h', Ext h h' → P false h') : Ok (sameT (cl 50) i e h) P := by
  unfold sameT
  rw [w_tb, w_bin, w_bin]
  refine w_make ?_
  rw [w_cons, w_var ei, w_nil]
  refine init_ok (m := 46) gu (by omega) app_at fun h1 q1 b1 => ⟨rfl, ?_⟩
  have y1 : Ext h h1 := But.ext b1 rfl
  rw [w_var e4]
  have t1 := q.ext y1
  have q1' := q1
  have t1' := t1
  obtain ⟨_, _, _, a1, _⟩ := q1'
  obtain ⟨_, _, _, a, _⟩ := t1'
  refine w_eqO a1 (by rw [kd_ins a]; omega) ?_
  refine eq_m (m := 49) q1 t1 gu (by omega) g (by omega) ?_
  rw [w_bin, w_var ei, w_var e3, w_eq (okD_tree u deep (by unfold deep; omega) gu) (okD_tree t deep (by unfold deep; omega) g), teq_is, w_neB]
  exact ⟨false, rfl, k h1 y1⟩
def ownT (c : CT) : MT := mTb (mBin (pEqO 0 1 (c 23)) (mMake 0 (c 13) (mCons (mVar 7) mNil)) (mVar 7))
theorem own_ok {P : Bool → Hm → Prop} (gu : good u) (hu : siz u ≤ 21) (ei : e[7]? = some (some (toD u))) (k : ∀ h', Ext h h' → P false h') : Ok (ownT (cl 50) e h) P := by
  unfold ownT
  rw [w_tb, w_bin]
  refine w_make ?_
  rw [w_cons, w_var ei, w_nil]
  refine init_ok (m := 46) gu (by omega) app_at fun h1 q1 b1 => ⟨rfl, ?_⟩
  have y1 : Ext h h1 := But.ext b1 rfl
  rw [w_var ei]
  have q1' := q1
  obtain ⟨_, _, _, a1, _⟩ := q1'
  refine w_eqO a1 (by cases u <;> simp [toD, kd]) ?_
  exact eq_no (m := 49) q1 ⟨false, rfl, k h1 y1⟩
def ch_each (c : CT) : MS := mFor (mSrc (mCall (c 37) (mCons (mVar 3) mNil))) (gSet 7) (mIfS (mOrT (sameT c 7) (ownT c)) (mRet (mC (.bl false))) mPass)
theorem each_ok (q : TermAt h o t) (g : good t) (hz : siz t ≤ 21) (k : ∀ (x7 : Option D) (h' : Hm), Ext h h' → N [x0, x1, x2, some (toD t), some (.ref o), x5, x6, x7, x8, x9] h') : OkS (ch_each (cl 50) [x0, x1, x2, some (toD t), some (.ref o), x5, x6, x7, x8, x9] h) N R := by
  unfold ch_each
  have ld := dep_le t
  have ln := nod_len t
  rw [w_for]
  refine w_src ?_
  simp only [w_ifS, w_bin, w_app, w_call, w_cons, w_nil, w_tup, w_lst, w_if, w_tb, w_not, w_and, w_or, w_c, w_v, w_un, w_int, w_intB, w_addI, w_subI, w_lt, w_le, w_gt, w_ge, w_eqI, w_methL, startE, List.map_cons, List.map_nil, List.cons_append, List.nil_append, List.getElem?_cons_zero, List.getElem?_cons_succ, List.set_cons_zero, List.set_cons_succ, ok1_some, at0, at1, at2, at3, w_ixT, List.length_cons, List.length_nil, Nat.reduceAdd, Nat.reduceSub, Nat.zero_add, List.replicate_succ, List.replicate_zero]
  refine nodesl_ok 30 t 19 h _ (by omega) (by omega) fun pn h1 q1 y1 _ => ?_
  refine .inr ⟨_, _, rfl, items_l q1, ?_⟩
  refine loop_of (xs := toDs (nod t)) (fun j e hx => (∃ x7, e = [x0, x1, x2, some (toD t), some (.ref o), x5, x6, x7, x8, x9]) ∧ Ext h1 hx) (fun j e hx v => nxt_live (items_l (v.2 _ _ q1))) ?_ ?_ (siz t) lots 0 _ _ (by rw [toDs_len]; omega) (by unfold lots; omega) ⟨⟨_, rfl⟩, Ext.refl⟩
  · rintro j x e hx hj ⟨⟨z7, rfl⟩, v1⟩
    obtain ⟨u, hu, rfl⟩ : ∃ u, u ∈ nod t ∧ x = toD u := by
      have := List.mem_of_getElem? hj
      rw [toDs_map, List.mem_map] at this
      obtain ⟨u, a, b⟩ := this
      exact ⟨u, a, b.symm⟩
    have z := nod_good t g u hu
    refine ⟨_, rfl, ?_⟩
    show OkS (mIfS _ _ _ [x0, x1, x2, some (toD t), some (.ref o), x5, x6, some (toD u), x8, x9] hx) _ _
    rw [w_ifS, w_or]
    refine same_ok (q.ext (y1.trans v1)) g hz z.1 (by omega) rfl rfl rfl fun h2 y2 => ?_
    simp only [Bool.false_eq_true, if_false]
    refine own_ok z.1 (by omega) rfl fun h3 y3 => ?_
    simp only [Bool.false_eq_true, if_false, w_pass]
    exact ⟨⟨_, rfl⟩, (v1.trans y2).trans y3⟩
  · rintro e hx ⟨⟨z7, rfl⟩, v1⟩
    exact k z7 hx (y1.trans v1)
def ch_in (c : CT) : MS := mIfS (mTb (mBin pNe (mBin (pInO false 0 (c 17)) (mVar 8) (mVar 4)) (mBin (pIn false) (mVar 8) (mCall (c 37) (mCons (mVar 3) mNil))))) (mRet (mC (.bl false))) mPass
theorem in_ok (q : TermAt h o t) (g : good t) (hz : siz t ≤ 21) (gu : good u) (hu : siz u ≤ 21) (k : ∀ (h' : Hm), Ext h h' → N [x0, x1, x2, some (toD t), some (.ref o), x5, x6, x7, some (toD u), x9] h') : OkS (ch_in (cl 50) [x0, x1, x2, some (toD t), some (.ref o), x5, x6, x7, some (toD u), x9] h) N R := by
  unfold ch_in
  have ld := dep_le t
  rw [w_ifS]
  simp only [w_ifS, w_bin, w_app, w_call, w_cons, w_nil, w_tup, w_lst, w_if, w_tb, w_not, w_and, w_or, w_c, w_v, w_un, w_int, w_intB, w_addI, w_subI, w_lt, w_le, w_gt, w_ge, w_eqI, w_methL, startE, List.map_cons, List.map_nil, List.cons_append, List.nil_append, List.getElem?_cons_zero, List.getElem?_cons_succ, List.set_cons_zero, List.set_cons_succ, ok1_some, at0, at1, at2, at3, w_ixT, List.length_cons, List.length_nil, Nat.reduceAdd, Nat.reduceSub, Nat.zero_add, List.replicate_succ, List.replicate_zero]
  have q' := q
  obtain ⟨_, _, _, a, _⟩ := q'
  refine w_inO a ?_
  refine contains_m (m := 46) q g (by omega) gu (by omega) fun h1 y1 => ⟨_, rfl, ?_⟩
  refine nodesl_ok 30 t 19 h1 _ (by omega) (by omega) fun pn h2 q2 y2 _ => ?_
  rw [w_in (items_l q2) (okD_tree u 60 (by omega) gu) (okNodes g (by omega)), inB_is]
  simp only [Bool.false_eq_true, if_false]
  rw [show (nod t).any (fun z => teq 60 z u) = inT t u from rfl, w_neB]
  refine ⟨false, rfl, ?_⟩
  simp only [Bool.false_eq_true, if_false, w_pass]
  exact k h2 (y1.trans y2)
end
end K1
end L2.Lv
end
section
set_option maxRecDepth 100000
set_option maxHeartbeats 1000000
set_option autoImplicit false
namespace L2.Lv
namespace K1
open PySem
section
variable {o : Nat} {t u : Tr} {h : Hm} {P : D → Hm → Prop} {N : En → Hm → Prop} {R : D → Hm → Prop} {x0 x1 x2 x5 x6 x7 x8 x9 : Option D} {e : En}
def ch_junk (c : CT) : MS := mFor (mSrc (mLst (mCons (mC .non) (mCons (mC (.str [120])) (mCons (mC (.int 0)) (mCons (mTup (mCons (mC (.str [117, 115, 101])) (mCons (mC (.str [113])) mNil))) (mCons (mLst (mCons (mVar 3) mNil)) (mCons (mTup (mCons (mC (.str [117, 115, 101])) (mCons (mC (.int 5)) mNil))) (mCons mDict0 (mCons (mVar 4) mNil)))))))))) (gSet 9) (mIfS (mTb (mBin (pInO false 0 (c 17)) (mVar 9) (mVar 4))) (mRet (mC (.bl false))) mPass)
theorem w_dict0 : Ok (mDict0 e h) P ↔ P (.ref h.length) (h ++ [.dk []]) := Iff.rfl
theorem no_tree {x : D} (c : kd h x < 8) (c2 : kd h x ≠ 4) (hk : ∀ hx, Ext h hx → kd hx x = kd h x) : ∀ (hx : Hm) (Q : D → Hm → Prop), Ext h hx → Q (.bl false) hx → Ok (cl 48 7 [x] hx) Q := fun hx Q y k => form_no (m := 46) (by rw [hk hx y]; exact c) (by rw [hk hx y]; exact c2) k
theorem kd_keep {n : Nat} {ob : Ob} (q : h[n]? = some ob) : ∀ hx, Ext h hx → kd hx (.ref n) = kd h (.ref n) := fun hx y => by
  simp only [kd, q, y _ _ q]
theorem junk_ok (q : TermAt h o t) (g : good t) (hz : siz t ≤ 21) (k : ∀ (x9 : Option D) (h' : Hm), Ext h h' → N [x0, x1, x2, some (toD t), some (.ref o), x5, x6, x7, x8, x9] h') : OkS (ch_junk (cl 50) [x0, x1, x2, some (toD t), some (.ref o), x5, x6, x7, x8, x9] h) N R := by
  unfold ch_junk
  rw [w_for]
  refine w_src ?_
  simp only [w_ifS, w_bin, w_app, w_call, w_cons, w_nil, w_tup, w_lst, w_if, w_tb, w_not, w_and, w_or, w_c, w_v, w_un, w_int, w_intB, w_addI, w_subI, w_lt, w_le, w_gt, w_ge, w_eqI, w_methL, startE, List.map_cons, List.map_nil, List.cons_append, List.nil_append, List.getElem?_cons_zero, List.getElem?_cons_succ, List.set_cons_zero, List.set_cons_succ, ok1_some, at0, at1, at2, at3, w_ixT, List.length_cons, List.length_nil, Nat.reduceAdd, Nat.reduceSub, Nat.zero_add, List.replicate_succ, List.replicate_zero, w_dict0]
  refine ⟨by simp [big], ?_⟩
  refine ⟨by simp [big], ?_⟩
  refine ⟨by simp [big], ?_⟩
  refine ⟨by simp [big], ?_⟩
  have y1 : Ext h (h ++ [Ob.lst [toD t]]) := Ext.app
  have l1 := (app_at : (h ++ [Ob.lst [toD t]])[h.length]? = _)
  generalize h ++ [Ob.lst [toD t]] = h1 at y1 l1 ⊢
  have y2 : Ext h1 (h1 ++ [Ob.dk []]) := Ext.app
  have l2 := (app_at : (h1 ++ [Ob.dk []])[h1.length]? = _)
  generalize h1 ++ [Ob.dk []] = h2 at y2 l2 ⊢
  generalize hv : [D.non, D.str [120], D.int 0, D.tup [D.str [117, 115, 101], D.str [113]], D.ref h.length, D.tup [D.str [117, 115, 101], D.int 5], D.ref h1.length, D.ref o] = vs
  have lv : vs.length = 8 := by rw [← hv]; rfl
  have y3 : Ext h2 (h2 ++ [Ob.lst vs]) := Ext.app
  have l3 := (app_at : (h2 ++ [Ob.lst vs])[h2.length]? = _)
  generalize h2 ++ [Ob.lst vs] = h3 at y3 l3 ⊢
  have y12 := y1.trans y2
  have y123 := y12.trans y3
  refine .inr ⟨_, _, rfl, items_l l3, ?_⟩
  refine loop_of (xs := vs) (fun j e hx => (∃ x9, e = [x0, x1, x2, some (toD t), some (.ref o), x5, x6, x7, x8, x9]) ∧ Ext h3 hx) (fun j e hx v => nxt_live (items_l (v.2 _ _ l3))) ?_ ?_ 8 lots 0 _ _ (by rw [lv]) (by unfold lots; omega) ⟨⟨_, rfl⟩, Ext.refl⟩
  · rintro j x e hx hj ⟨⟨z9, rfl⟩, v1⟩
    refine ⟨_, rfl, ?_⟩
    show OkS (mIfS _ _ _ [x0, x1, x2, some (toD t), some (.ref o), x5, x6, x7, x8, some x] hx) _ _
    rw [w_ifS]
    simp only [w_ifS, w_bin, w_app, w_call, w_cons, w_nil, w_tup, w_lst, w_if, w_tb, w_not, w_and, w_or, w_c, w_v, w_un, w_int, w_intB, w_addI, w_subI, w_lt, w_le, w_gt, w_ge, w_eqI, w_methL, startE, List.map_cons, List.map_nil, List.cons_append, List.nil_append, List.getElem?_cons_zero, List.getElem?_cons_succ, List.set_cons_zero, List.set_cons_succ, ok1_some, at0, at1, at2, at3, w_ixT, List.length_cons, List.length_nil, Nat.reduceAdd, Nat.reduceSub, Nat.zero_add, List.replicate_succ, List.replicate_zero]
    have tx := q.ext (y123.trans v1)
    have tx' := tx
    obtain ⟨_, _, _, a, _⟩ := tx'
    refine w_inO a ?_
    have fin : ∀ h', Ext hx h' → ∃ tt, D.bl false = D.bl tt ∧ ∃ b, (D.bl (if false = true then !tt else tt)) = D.bl b ∧ (if b = true then R (.bl false) h' else OkS (mPass [x0, x1, x2, some (toD t), some (.ref o), x5, x6, x7, x8, some x] h') ((fun j e hx => (∃ x9, e = [x0, x1, x2, some (toD t), some (.ref o), x5, x6, x7, x8, x9]) ∧ Ext h3 hx) (j + 1)) R) := fun h' y => ⟨false, rfl, false, rfl, ⟨⟨_, rfl⟩, v1.trans y⟩⟩
    have hm := List.mem_of_getElem? hj
    rw [← hv] at hm
    simp only [List.mem_cons, List.not_mem_nil, or_false] at hm
    rcases hm with rfl | rfl | rfl | rfl | rfl | rfl | rfl | rfl
    · exact contains_no (m := 46) (no_tree (by simp [kd]) (by simp [kd]) fun _ _ => rfl) fin
    · exact contains_no (m := 46) (no_tree (by simp [kd]) (by simp [kd]) fun _ _ => rfl) fin
    · exact contains_no (m := 46) (no_tree (by simp [kd]) (by simp [kd]) fun _ _ => rfl) fin
    · exact contains_q (m := 46) tx g (by omega) fin
    · have l := v1 _ _ (y3 _ _ (y2 _ _ l1))
      exact contains_no (m := 46) (no_tree (by simp [kd, l]) (by simp [kd, l]) (kd_keep l)) fin
    · exact contains_no (m := 46) (fun hx Q _ k => form_u5 k) fin
    · have l := v1 _ _ (y3 _ _ l2)
      exact contains_no (m := 46) (no_tree (by simp [kd, l]) (by simp [kd, l]) (kd_keep l)) fin
    · exact contains_no (m := 46) (no_tree (by simp [kd, a]) (by simp [kd, a]) (kd_keep a)) fin
  · rintro e hx ⟨⟨z9, rfl⟩, v1⟩
    exact k z9 hx (y123.trans v1)
def ch_bad (c : CT) : MS := mFor (mSrc (mLst (mCons (mC .non) (mCons (mNeg (mC (.int 1))) (mCons (mApp (pLenO 0 (c 15)) (mCons (mVar 4) mNil)) (mCons (mC (.bl true)) (mCons (mC (.str [48])) (mCons (mTup (mCons (mC (.int 0)) mNil)) mNil)))))))) (gSet 9) (mIfS (mTb (mBin pNe (mTold 2 x_38 (mGetO 0 (c 16) (mVar 4) (mVar 9))) (mLst (mCons (mC (.str [110, 111])) (mCons (mApp pRepr (mCons (mVar 9) mNil)) mNil))))) (mRet (mC (.bl false))) mPass)
theorem w_told {M : Hm → D → Re D} {a : ME} {d : D} {h1 : Hm} (q : a e h = .ex 2 d h1) (o : Ok (M h1 d) P) : Ok (mTold 2 M a e h) P := by
  unfold mTold
  rw [q]
  simp only [if_true]
  exact ok_noEx o
theorem getO_ex {a b : ME} {m : List D → Hm → Re D} {d d2 : D} {n : Nat} {fs : List (Nat × D)} (qa : a e h = .ok (.ref n) h) (qb : b e h = .ok d h) (q : h[n]? = some (.ins 0 fs)) (o : m [.ref n, d] h = .ex 2 d2 h) : mGetO 0 m a b e h = .ex 2 d2 h := by
  unfold mGetO mBin
  rw [qa]
  show (b e h).bind _ = _
  rw [qb]
  show pGetO 0 m (.ref n) d h = _
  unfold pGetO
  rw [if_pos (ins_is q)]
  exact o
theorem rp {d : D} (c1 : ∀ n h, okD (n + 1) h d = okD (n + 1) [] d) (c2 : ∀ n h, toP (n + 1) h d = toP (n + 1) [] d) (hy : Hm) : reprD hy d = reprD [] d := by
  unfold reprD
  rw [show deep = 109 + 1 from rfl, c1 109 hy, c2 109 hy]
theorem rp_tup (hy : Hm) : reprD hy (.tup [.int 0]) = reprD [] (.tup [.int 0]) := by
  unfold reprD
  rw [show deep = 108 + 1 + 1 from rfl]
  have e1 : okD (108 + 1 + 1) hy (.tup [.int 0]) = okD (108 + 1 + 1) [] (.tup [.int 0]) := by simp only [okD, List.all_cons, List.all_nil]
  have e2 : toP (108 + 1 + 1) hy (.tup [.int 0]) = toP (108 + 1 + 1) [] (.tup [.int 0]) := by simp only [toP, List.map_cons, List.map_nil]
  rw [e1, e2]
theorem bad_is {m : Nat} {x : D} (tx : TermAt h o t) (hz : siz t ≤ 21) (hm : x ∈ [D.non, D.int (-1), D.int (siz t : Nat), D.bl true, D.str [48], D.tup [D.int 0]]) : cl (m + 2) 16 [.ref o, x] h = .ex 2 x h ∧ rok x = true ∧ ∀ hy, reprD hy x = reprD [] x := by
  simp only [List.mem_cons, List.not_mem_nil, or_false] at hm
  rcases hm with rfl | rfl | rfl | rfl | rfl | rfl
  · exact ⟨bad_val (by simp [kd]) (by simp [kd]), rok_0, rp (fun _ _ => rfl) fun _ _ => rfl⟩
  · exact ⟨bad_int tx (.inl (by decide)), rok_1, rp (fun _ _ => rfl) fun _ _ => rfl⟩
  · exact ⟨bad_int tx (.inr (Int.le_refl _)), rok_int _ (by omega), rp (fun _ _ => rfl) fun _ _ => rfl⟩
  · exact ⟨bad_val (by simp [kd]) (by simp [kd]), rok_2, rp (fun _ _ => rfl) fun _ _ => rfl⟩
  · exact ⟨bad_val (by simp [kd]) (by simp [kd]), rok_3, rp (fun _ _ => rfl) fun _ _ => rfl⟩
  · exact ⟨bad_val (by simp [kd]) (by simp [kd]), rok_4, rp_tup⟩
theorem str_all {tt : List Nat} (r2 : (tt.all fun c => decide (c < 1114112)) = true) (n : Nat) : ([D.str [110, 111], D.str tt]).all (okD (n + 1) h) = true := by
  simp only [List.all_cons, List.all_nil, Bool.and_true, okD, r2]
  decide
theorem bad_ok (q : TermAt h o t) (hz : siz t ≤ 21) (k : ∀ (x9 : Option D) (h' : Hm), Ext h h' → N [x0, x1, x2, some (toD t), some (.ref o), x5, x6, x7, x8, x9] h') : OkS (ch_bad (cl 50) [x0, x1, x2, some (toD t), some (.ref o), x5, x6, x7, x8, x9] h) N R := by
  unfold ch_bad
  have q' := q
  obtain ⟨_, _, _, a0, _⟩ := q'
  rw [w_for]
  refine w_src ?_
  simp only [w_ifS, w_bin, w_app, w_call, w_cons, w_nil, w_tup, w_lst, w_if, w_tb, w_not, w_and, w_or, w_c, w_v, w_un, w_int, w_intB, w_addI, w_subI, w_lt, w_le, w_gt, w_ge, w_eqI, w_methL, startE, List.map_cons, List.map_nil, List.cons_append, List.nil_append, List.getElem?_cons_zero, List.getElem?_cons_succ, List.set_cons_zero, List.set_cons_succ, ok1_some, at0, at1, at2, at3, w_ixT, List.length_cons, List.length_nil, Nat.reduceAdd, Nat.reduceSub, Nat.zero_add, List.replicate_succ, List.replicate_zero, w_negI]
  refine ⟨_, rfl, ?_⟩
  refine w_lenO a0 (len_m (m := 49) q ⟨_, rfl, by omega, ?_⟩)
  refine ⟨by simp [big], ?_⟩
  refine ⟨by simp [big], ?_⟩
  generalize hv : [D.non, D.int (-1), D.int (siz t : Nat), D.bl true, D.str [48], D.tup [D.int 0]] = vs
  have lv : vs.length = 6 := by rw [← hv]; rfl
  have y3 : Ext h (h ++ [Ob.lst vs]) := Ext.app
  have l3 := (app_at : (h ++ [Ob.lst vs])[h.length]? = _)
  generalize h ++ [Ob.lst vs] = h3 at y3 l3 ⊢
  refine .inr ⟨_, _, rfl, items_l l3, ?_⟩
  refine loop_of (xs := vs) (fun j e hx => (∃ x9, e = [x0, x1, x2, some (toD t), some (.ref o), x5, x6, x7, x8, x9]) ∧ Ext h3 hx) (fun j e hx v => nxt_live (items_l (v.2 _ _ l3))) ?_ ?_ 6 lots 0 _ _ (by rw [lv]) (by unfold lots; omega) ⟨⟨_, rfl⟩, Ext.refl⟩
  · rintro j x e hx hj ⟨⟨z9, rfl⟩, v1⟩
    refine ⟨_, rfl, ?_⟩
    show OkS (mIfS _ _ _ [x0, x1, x2, some (toD t), some (.ref o), x5, x6, x7, x8, some x] hx) _ _
    have tx := q.ext (y3.trans v1)
    have a := v1 _ _ (y3 _ _ a0)
    have hm := List.mem_of_getElem? hj
    rw [← hv] at hm
    have w := bad_is (m := 48) tx hz hm
    obtain ⟨w1, w2, w3⟩ := w
    obtain ⟨tt, r1, r2⟩ := rok_is w2
    rw [w_ifS, w_tb, w_bin]
    refine w_told (getO_ex rfl rfl a w1) ?_
    have e38 : x_38 hx x = newL [.str [110, 111], .str tt] hx := by
      unfold x_38 xLst xCons xRepr xC xF xNil
      simp only [w3 hx, r1]
    rw [e38, w_newL]
    refine ⟨by simp [big], ?_⟩
    have y4 : Ext hx (hx ++ [Ob.lst [.str [110, 111], .str tt]]) := Ext.app
    have l4 := (app_at : (hx ++ [Ob.lst [.str [110, 111], .str tt]])[hx.length]? = _)
    generalize hx ++ [Ob.lst [.str [110, 111], .str tt]] = h4 at y4 l4 ⊢
    have er : pRepr [x] h4 = .ok (.str tt) h4 := by
      unfold pRepr
      simp only [w3 h4, r1]
    simp only [w_ifS, w_bin, w_app, w_call, w_cons, w_nil, w_tup, w_lst, w_if, w_tb, w_not, w_and, w_or, w_c, w_v, w_un, w_int, w_intB, w_addI, w_subI, w_lt, w_le, w_gt, w_ge, w_eqI, w_methL, startE, List.map_cons, List.map_nil, List.cons_append, List.nil_append, List.getElem?_cons_zero, List.getElem?_cons_succ, List.set_cons_zero, List.set_cons_succ, ok1_some, at0, at1, at2, at3, w_ixT, List.length_cons, List.length_nil, Nat.reduceAdd, Nat.reduceSub, Nat.zero_add, List.replicate_succ, List.replicate_zero]
    rw [er, ok_ok]
    refine ⟨by simp [big], ?_⟩
    have al := str_all (h := h4 ++ [Ob.lst [.str [110, 111], .str tt]]) r2 108
    have y5 : Ext h4 (h4 ++ [Ob.lst [.str [110, 111], .str tt]]) := Ext.app
    rw [w_neL (items_l (y5 _ _ l4)) (items_l app_at) al]
    refine ⟨false, rfl, ?_⟩
    simp only [Bool.false_eq_true, if_false, w_pass]
    exact ⟨⟨_, rfl⟩, (v1.trans y4).trans y5⟩
  · rintro e hx ⟨⟨z9, rfl⟩, v1⟩
    exact k z9 hx (y3.trans v1)
end
end K1
end L2.Lv
end
section
set_option maxRecDepth 100000
set_option maxHeartbeats 1000000
set_option autoImplicit false
namespace L2.Lv
namespace K1
open PySem
theorem Src0.ext {h h' : Hm} {s : Nat} (q : Src0 h s) (x : Ext h h') : Src0 h' s := by
  obtain ⟨a, b, c, d⟩ := q
  exact ⟨a, b, x _ _ c, d⟩
def ch_body (c : CT) : MS :=
  (mSeq (mSet 2 (mCall (c 27) (mCons (mVar 0) (mCons (mVar 1) mNil))))
  (mSeq (mSet 3 (mCall (c 35) (mCons (mVar 2) (mCons (mC (.int 20)) (mCons (mC (.int 6)) mNil)))))
  (mSeq (mSet 4 (mMake 0 (c 13) (mCons (mVar 3) mNil)))
  (mSeq (ch_told c)
  (mSeq (ch_each c)
  (mSeq (mSet 8 (mCall (c 35) (mCons (mVar 2) (mCons (mC (.int 20)) (mCons (mC (.int 6)) mNil)))))
  (mSeq (ch_in c)
  (mSeq (mIfS (sameT c 8) (mRet (mC (.bl false))) mPass)
  (mSeq (ch_junk c)
  (ch_bad c))))))))))
theorem body_is (c : CT) : b_41 c = mSeq (mFor (mRng1 (mCons (mApp (pMM maxI) (mCons (mC (.int 1)) (mCons (mApp (pMM minI) (mCons (mC (.int 8)) (mCons (mApp pLen (mCons (mVar 0) mNil)) mNil))) mNil))) mNil)) (gSet 1) (ch_body c)) (mRet (mC (.bl true))) := rfl
section
variable {ns : List Int} {h : Hm} {N : En → Hm → Prop} {R : D → Hm → Prop} {x2 x3 x4 x5 x6 x7 x8 x9 : Option D}
theorem turn_ok {kk : Int} (h0 : h[0]? = some (.frz (ns.map D.int))) (k0 : 0 ≤ kk) (k1 : kk < 100) (k : ∀ (x2 x3 x4 x5 x6 x7 x8 x9 : Option D) (h' : Hm), h'[0]? = some (.frz (ns.map D.int)) → N [some (.ref 0), some (.int kk), x2, x3, x4, x5, x6, x7, x8, x9] h') : OkS (ch_body (cl 50) [some (.ref 0), some (.int kk), x2, x3, x4, x5, x6, x7, x8, x9] h) N R := by
  have hl := lt_of_at h0
  unfold ch_body
  rw [w_seq, w_set]
  simp only [w_ifS, w_bin, w_app, w_call, w_cons, w_nil, w_tup, w_lst, w_if, w_tb, w_not, w_and, w_or, w_c, w_v, w_un, w_int, w_intB, w_addI, w_subI, w_lt, w_le, w_gt, w_ge, w_eqI, w_methL, startE, List.map_cons, List.map_nil, List.cons_append, List.nil_append, List.getElem?_cons_zero, List.getElem?_cons_succ, List.set_cons_zero, List.set_cons_succ, ok1_some, at0, at1, at2, at3, w_ixT, List.length_cons, List.length_nil, Nat.reduceAdd, Nat.reduceSub, Nat.zero_add, List.replicate_succ, List.replicate_zero]
  refine pool_ok (m := 49) h0 k0 k1 fun s h1 es s1 y1 => ?_
  have z1 := y1 _ _ h0
  have s0 : (0 : Nat) ≠ s := by omega
  rw [w_seq, w_set]
  simp only [w_ifS, w_bin, w_app, w_call, w_cons, w_nil, w_tup, w_lst, w_if, w_tb, w_not, w_and, w_or, w_c, w_v, w_un, w_int, w_intB, w_addI, w_subI, w_lt, w_le, w_gt, w_ge, w_eqI, w_methL, startE, List.map_cons, List.map_nil, List.cons_append, List.nil_append, List.getElem?_cons_zero, List.getElem?_cons_succ, List.set_cons_zero, List.set_cons_succ, ok1_some, at0, at1, at2, at3, w_ixT, List.length_cons, List.length_nil, Nat.reduceAdd, Nat.reduceSub, Nat.zero_add, List.replicate_succ, List.replicate_zero]
  refine tree_ok (m := 6) s1 fun t h2 g hz _ s2 b2 => ?_
  have z2 := b2.2 _ _ s0 z1
  rw [w_seq, w_set]
  refine w_make ?_
  simp only [w_ifS, w_bin, w_app, w_call, w_cons, w_nil, w_tup, w_lst, w_if, w_tb, w_not, w_and, w_or, w_c, w_v, w_un, w_int, w_intB, w_addI, w_subI, w_lt, w_le, w_gt, w_ge, w_eqI, w_methL, startE, List.map_cons, List.map_nil, List.cons_append, List.nil_append, List.getElem?_cons_zero, List.getElem?_cons_succ, List.set_cons_zero, List.set_cons_succ, ok1_some, at0, at1, at2, at3, w_ixT, List.length_cons, List.length_nil, Nat.reduceAdd, Nat.reduceSub, Nat.zero_add, List.replicate_succ, List.replicate_zero]
  refine init_ok (m := 46) g (by omega) app_at fun h3 q3 b3 => ⟨rfl, ?_⟩
  have y3 : Ext h2 h3 := But.ext b3 rfl
  have so := Src0.lt s2
  have s3 := s2.ext y3
  have z3 := y3 _ _ z2
  rw [w_seq]
  refine toldT_ok q3 g hz fun x5 x6 h4 y4 => ?_
  rw [w_seq]
  refine each_ok (q3.ext y4) g hz fun x7 h5 y5 => ?_
  have y45 := y4.trans y5
  have s5 := s3.ext y45
  have z5 := y45 _ _ z3
  have q5 := q3.ext y45
  rw [w_seq, w_set]
  simp only [w_ifS, w_bin, w_app, w_call, w_cons, w_nil, w_tup, w_lst, w_if, w_tb, w_not, w_and, w_or, w_c, w_v, w_un, w_int, w_intB, w_addI, w_subI, w_lt, w_le, w_gt, w_ge, w_eqI, w_methL, startE, List.map_cons, List.map_nil, List.cons_append, List.nil_append, List.getElem?_cons_zero, List.getElem?_cons_succ, List.set_cons_zero, List.set_cons_succ, ok1_some, at0, at1, at2, at3, w_ixT, List.length_cons, List.length_nil, Nat.reduceAdd, Nat.reduceSub, Nat.zero_add, List.replicate_succ, List.replicate_zero]
  refine tree_ok (m := 6) s5 fun u h6 gu hu _ s6 b6 => ?_
  have z6 := b6.2 _ _ s0 z5
  have q6 := q5.but b6 so
  rw [w_seq]
  show OkS (ch_in (cl 50) [some (.ref 0), some (.int kk), some (.ref s), some (toD t), some (.ref h2.length), x5, x6, x7, some (toD u), x9] h6) _ _
  refine in_ok q6 g hz gu hu fun h7 y7 => ?_
  rw [w_seq, w_ifS]
  refine same_ok (q6.ext y7) g hz gu hu rfl rfl rfl fun h8 y8 => ?_
  simp only [Bool.false_eq_true, if_false, w_pass]
  have y78 := y7.trans y8
  rw [w_seq]
  refine junk_ok (q6.ext y78) g hz fun x9 h9 y9 => ?_
  have y789 := y78.trans y9
  refine bad_ok (q6.ext y789) hz fun x9 h10 y10 => ?_
  exact k _ _ _ _ _ _ _ _ _ (y10 _ _ (y789 _ _ z6))
end
theorem math (ns : List Int) (hl : ns.length ≤ 63) : ∃ h', mBody 1 10 (b_41 (cl 50)) [.ref 0] [.frz (ns.map D.int)] = .ok (.bl true) h' := by
  have o : Ok (mBody 1 10 (b_41 (cl 50)) [.ref 0] [.frz (ns.map D.int)]) (fun d _ => d = .bl true) := by
    refine ok_body rfl ?_
    rw [body_is, w_seq, w_for, w_rng1]
    have h0 : ([Ob.frz (ns.map D.int)] : Hm)[0]? = some (.frz (ns.map D.int)) := rfl
    simp only [w_ifS, w_bin, w_app, w_call, w_cons, w_nil, w_tup, w_lst, w_if, w_tb, w_not, w_and, w_or, w_c, w_v, w_un, w_int, w_intB, w_addI, w_subI, w_lt, w_le, w_gt, w_ge, w_eqI, w_methL, startE, List.map_cons, List.map_nil, List.cons_append, List.nil_append, List.getElem?_cons_zero, List.getElem?_cons_succ, List.set_cons_zero, List.set_cons_succ, ok1_some, at0, at1, at2, at3, w_ixT, List.length_cons, List.length_nil, Nat.reduceAdd, Nat.reduceSub, Nat.zero_add, List.replicate_succ, List.replicate_zero]
    rw [w_lenL (items_f h0), w_min2, w_max2]
    generalize hj : maxI 1 (minI 8 ((ns.map D.int).length : Nat)) = jj
    have b1 : 1 ≤ jj ∧ jj ≤ 8 := by
      rw [← hj]
      unfold maxI minI
      constructor <;> (repeat' split) <;> omega
    refine ⟨_, rfl, small_of (by omega) (by omega), ?_⟩
    refine loop_fix (fun j e hx => (∃ x1 x2 x3 x4 x5 x6 x7 x8 x9, e = [some (.ref 0), x1, x2, x3, x4, x5, x6, x7, x8, x9]) ∧ hx[0]? = some (.frz (ns.map D.int))) ?_ ?_ jj.toNat lots 0 _ _ (by rw [intsR_len]; omega) (by unfold lots; omega) ⟨⟨_, _, _, _, _, _, _, _, _, rfl⟩, h0⟩
    · rintro j x e hx hj ⟨⟨x1, x2, x3, x4, x5, x6, x7, x8, x9, rfl⟩, v⟩
      have jl : j < jj.toNat := by
        have := (List.getElem?_eq_some_iff.mp hj).1
        rw [intsR_len] at this
        exact this
      have ex : x = .int (j : Nat) := by
        unfold intsR at hj
        rw [List.getElem?_map, List.getElem?_range jl] at hj
        have := Option.some.inj hj
        rw [← this]
        simp
      subst ex
      refine ⟨_, rfl, ?_⟩
      exact turn_ok v (by omega) (by omega) fun x2 x3 x4 x5 x6 x7 x8 x9 h' z => ⟨⟨_, _, _, _, _, _, _, _, _, rfl⟩, z⟩
    · rintro e hx ⟨⟨x1, x2, x3, x4, x5, x6, x7, x8, x9, rfl⟩, v⟩
      rw [w_ret, w_c]
  revert o
  cases mBody 1 10 (b_41 (cl 50)) [.ref 0] [.frz (ns.map D.int)] with
  | ok d h' =>
    intro o
    have o : d = .bl true := o
    exact ⟨h', by rw [o]⟩
  | ex _ _ _ => exact fun o => o.elim
  | no => exact fun o => o.elim
end K1
end L2.Lv
end
section
set_option maxRecDepth 100000
set_option maxHeartbeats 4000000
set_option autoImplicit false
namespace L2.Lv
namespace K1
open PySem PySem.Spec PyProof.Rows
theorem all_mk {l : PySem.W.OpenLaw} {w : World} {K : PySem.W.Frag} {h : Heap} {mg : Str → Option Value} {fa0 : Addr} (X : K.In h) (Gn : h.Ns mainGlobals mg) (hfa : mg "law" = some (.ref fa0)) (own : LamX.OwnTab K fa0 h)
    {C0 : Addr}
    {C2 : Addr}
    {f2 : Addr} {od2 an2 : Option Addr} {sl2 : Array (Option Value)} {oc2 kV2 dc2 pm2 ct2 : Value} {cd2 : Value}
    {f4 : Addr} {od4 an4 : Option Addr} {sl4 : Array (Option Value)} {oc4 kV4 dc4 pm4 ct4 : Value} {cd4 : Value}
    {f5 : Addr} {od5 an5 : Option Addr} {sl5 : Array (Option Value)} {oc5 kV5 dc5 pm5 ct5 : Value} {cd5 : Value}
    {f6 : Addr} {od6 an6 : Option Addr} {sl6 : Array (Option Value)} {oc6 kV6 dc6 pm6 ct6 : Value} {cd6 : Value}
    {f7 : Addr} {od7 an7 : Option Addr} {sl7 : Array (Option Value)} {oc7 kV7 dc7 pm7 ct7 : Value} {cd7 : Value}
    {f8 : Addr} {od8 an8 : Option Addr} {sl8 : Array (Option Value)} {oc8 kV8 dc8 pm8 ct8 : Value} {cd8 : Value}
    {f9 : Addr} {od9 an9 : Option Addr} {sl9 : Array (Option Value)} {oc9 kV9 dc9 pm9 ct9 : Value} {cd9 : Value}
    {f10 : Addr} {od10 an10 : Option Addr} {sl10 : Array (Option Value)} {oc10 kV10 dc10 pm10 ct10 : Value} {cd10 : Value}
    {f11 : Addr} {od11 an11 : Option Addr} {sl11 : Array (Option Value)} {oc11 kV11 dc11 pm11 ct11 : Value} {cd11 : Value}
    {f12 : Addr} {od12 an12 : Option Addr} {sl12 : Array (Option Value)} {oc12 kV12 dc12 pm12 ct12 : Value} {cd12 : Value}
    {f13 : Addr} {od13 an13 : Option Addr} {sl13 : Array (Option Value)} {oc13 kV13 dc13 pm13 ct13 : Value} {cd13 : Value}
    {f14 : Addr} {od14 an14 : Option Addr} {sl14 : Array (Option Value)} {oc14 kV14 dc14 pm14 ct14 : Value} {cd14 : Value}
    {f15 : Addr} {od15 an15 : Option Addr} {sl15 : Array (Option Value)} {oc15 kV15 dc15 pm15 ct15 : Value} {cd15 : Value}
    {f16 : Addr} {od16 an16 : Option Addr} {sl16 : Array (Option Value)} {oc16 kV16 dc16 pm16 ct16 : Value} {cd16 : Value}
    {f17 : Addr} {od17 an17 : Option Addr} {sl17 : Array (Option Value)} {oc17 kV17 dc17 pm17 ct17 : Value} {cd17 : Value}
    {f19 : Addr} {od19 an19 : Option Addr} {sl19 : Array (Option Value)} {oc19 kV19 dc19 pm19 ct19 : Value} {cd19 : Value}
    {f20 : Addr} {od20 an20 : Option Addr} {sl20 : Array (Option Value)} {oc20 kV20 dc20 pm20 ct20 : Value} {cd20 : Value}
    {f21 : Addr} {od21 an21 : Option Addr} {sl21 : Array (Option Value)} {oc21 kV21 dc21 pm21 ct21 : Value} {cd21 : Value}
    {f22 : Addr} {od22 an22 : Option Addr} {sl22 : Array (Option Value)} {oc22 kV22 dc22 pm22 ct22 : Value} {cd22 : Value}
    {f23 : Addr} {od23 an23 : Option Addr} {sl23 : Array (Option Value)} {oc23 kV23 dc23 pm23 ct23 : Value} {cd23 : Value}
    {f27 : Addr} {od27 an27 : Option Addr} {sl27 : Array (Option Value)} {oc27 kV27 dc27 pm27 ct27 : Value} {cd27 : Value}
    {f28 : Addr} {od28 an28 : Option Addr} {sl28 : Array (Option Value)} {oc28 kV28 dc28 pm28 ct28 : Value} {cd28 : Value}
    {f29 : Addr} {od29 an29 : Option Addr} {sl29 : Array (Option Value)} {oc29 kV29 dc29 pm29 ct29 : Value} {cd29 : Value}
    {f30 : Addr} {od30 an30 : Option Addr} {sl30 : Array (Option Value)} {oc30 kV30 dc30 pm30 ct30 : Value} {cd30 : Value}
    {f31 : Addr} {od31 an31 : Option Addr} {sl31 : Array (Option Value)} {oc31 kV31 dc31 pm31 ct31 : Value} {cd31 : Value}
    {f32 : Addr} {od32 an32 : Option Addr} {sl32 : Array (Option Value)} {oc32 kV32 dc32 pm32 ct32 : Value} {cd32 : Value}
    {f33 : Addr} {od33 an33 : Option Addr} {sl33 : Array (Option Value)} {oc33 kV33 dc33 pm33 ct33 : Value} {cd33 : Value}
    {f34 : Addr} {od34 an34 : Option Addr} {sl34 : Array (Option Value)} {oc34 kV34 dc34 pm34 ct34 : Value} {cd34 : Value}
    {f35 : Addr} {od35 an35 : Option Addr} {sl35 : Array (Option Value)} {oc35 kV35 dc35 pm35 ct35 : Value} {cd35 : Value}
    {f36 : Addr} {od36 an36 : Option Addr} {sl36 : Array (Option Value)} {oc36 kV36 dc36 pm36 ct36 : Value} {cd36 : Value}
    {f37 : Addr} {od37 an37 : Option Addr} {sl37 : Array (Option Value)} {oc37 kV37 dc37 pm37 ct37 : Value} {cd37 : Value}
    {f38 : Addr} {od38 an38 : Option Addr} {sl38 : Array (Option Value)} {oc38 kV38 dc38 pm38 ct38 : Value} {cd38 : Value}
    {f39 : Addr} {od39 an39 : Option Addr} {sl39 : Array (Option Value)} {oc39 kV39 dc39 pm39 ct39 : Value} {cd39 : Value}
    {f40 : Addr} {od40 an40 : Option Addr} {sl40 : Array (Option Value)} {oc40 kV40 dc40 pm40 ct40 : Value} {cd40 : Value}
    {f41 : Addr} {od41 an41 : Option Addr} {sl41 : Array (Option Value)} {oc41 kV41 dc41 pm41 ct41 : Value}
    {cc Pt : Addr} {ec : Value} {ddc : Option Addr} {vsc : Array Value} {slc : Array (Option Value)} {flc : Str} {tfc tgc ttc : Tok} {flg txc : Int} {inf : Bool}
    {t_LONGEST_NAME : Tok}
    {t_MOST_BINDERS : Tok}
    {t_MOST_NODES : Tok}
    {t_MOST_ON_A_WAY : Tok}
    {d_SIZES : Addr} {es_SIZES : Array DictEntry} {en_SIZES : Nat}
    {xn2 xq2 : Str} {xb2 xm2 : List Value} {xN2 : Addr} {xs2 : List Str} {xu2 : List Value} {xa2 : Bool} {xc2 : Option Bool} {xd2 : Option Addr} {xk0_2 xk1_2 xk2_2 xk3_2 xk5_2 : Option Value}
    (n_C0 : PySem.W.nsIn K mainGlobals "Term" = some (some (.ref C0)))
    (pg0 : PySem.W.plainGet K C0 Str.empty = true)
    (hd0 : PySem.W.hasDictIn K C0 = true)
    (po0 : PySem.W.plainOver K C0 = true)
    (sa0 : PySem.W.findIn K (.ref C0) "__setattr__" = some (some (.builtin "object.__setattr__")))
    (ca0 : PySem.W.findIn K (.ref C0) "__class__" = some (some (.builtin "object.__class__")))
    (ob0 : PySem.W.mroIn K C0 (.type "object") = some true)
    (n_C2 : PySem.W.nsIn K mainGlobals "NoNode" = some (some (.ref C2)))
    (cn : PySem.W.specialIn K (.builtin "object.__class__") "__get__" = some (some (.builtin "getset_descriptor.__get__")))
    (ct : PySem.W.takesIn K (.builtin "object.__class__") = some true)
    (a2 : PySem.W.findIn K (.ref C2) "__init__" = some (some (.ref f2)))
    (l2 : K.lookup f2 = some ⟨oc2, od2, .func (PySem.W.fnOf "__init__" "NoNode.__init__" (defArgs st_2) (defBody st_2) (defScope st_2) .none kV2 dc2 pm2 an2 cd2 ct2), sl2⟩)
    (c2 : PySem.W.codeIn K cd2 "NoNode.__init__" = true)
    (k2 : PySem.W.keepIn K (.ref f2) = true)
    (a4 : PySem.W.nsIn K mainGlobals "is_name" = some (some (.ref f4)))
    (l4 : K.lookup f4 = some ⟨oc4, od4, .func (PySem.W.fnOf "is_name" "is_name" (defArgs st_4) (defBody st_4) (defScope st_4) .none kV4 dc4 pm4 an4 cd4 ct4), sl4⟩)
    (c4 : PySem.W.codeIn K cd4 "is_name" = true)
    (k4 : PySem.W.keepIn K (.ref f4) = true)
    (a5 : PySem.W.nsIn K mainGlobals "is_number" = some (some (.ref f5)))
    (l5 : K.lookup f5 = some ⟨oc5, od5, .func (PySem.W.fnOf "is_number" "is_number" (defArgs st_5) (defBody st_5) (defScope st_5) .none kV5 dc5 pm5 an5 cd5 ct5), sl5⟩)
    (c5 : PySem.W.codeIn K cd5 "is_number" = true)
    (k5 : PySem.W.keepIn K (.ref f5) = true)
    (a6 : PySem.W.nsIn K mainGlobals "is_tree" = some (some (.ref f6)))
    (l6 : K.lookup f6 = some ⟨oc6, od6, .func (PySem.W.fnOf "is_tree" "is_tree" (defArgs st_6) (defBody st_6) (defScope st_6) .none kV6 dc6 pm6 an6 cd6 ct6), sl6⟩)
    (c6 : PySem.W.codeIn K cd6 "is_tree" = true)
    (k6 : PySem.W.keepIn K (.ref f6) = true)
    (a7 : PySem.W.nsIn K mainGlobals "has_node_form" = some (some (.ref f7)))
    (l7 : K.lookup f7 = some ⟨oc7, od7, .func (PySem.W.fnOf "has_node_form" "has_node_form" (defArgs st_7) (defBody st_7) (defScope st_7) .none kV7 dc7 pm7 an7 cd7 ct7), sl7⟩)
    (c7 : PySem.W.codeIn K cd7 "has_node_form" = true)
    (k7 : PySem.W.keepIn K (.ref f7) = true)
    (a8 : PySem.W.nsIn K mainGlobals "trees_below" = some (some (.ref f8)))
    (l8 : K.lookup f8 = some ⟨oc8, od8, .func (PySem.W.fnOf "trees_below" "trees_below" (defArgs st_8) (defBody st_8) (defScope st_8) .none kV8 dc8 pm8 an8 cd8 ct8), sl8⟩)
    (c8 : PySem.W.codeIn K cd8 "trees_below" = true)
    (k8 : PySem.W.keepIn K (.ref f8) = true)
    (a9 : PySem.W.nsIn K mainGlobals "row_below" = some (some (.ref f9)))
    (l9 : K.lookup f9 = some ⟨oc9, od9, .func (PySem.W.fnOf "row_below" "row_below" (defArgs st_9) (defBody st_9) (defScope st_9) .none kV9 dc9 pm9 an9 cd9 ct9), sl9⟩)
    (c9 : PySem.W.codeIn K cd9 "row_below" = true)
    (k9 : PySem.W.keepIn K (.ref f9) = true)
    (a10 : PySem.W.nsIn K mainGlobals "nodes_of" = some (some (.ref f10)))
    (l10 : K.lookup f10 = some ⟨oc10, od10, .func (PySem.W.fnOf "nodes_of" "nodes_of" (defArgs st_10) (defBody st_10) (defScope st_10) .none kV10 dc10 pm10 an10 cd10 ct10), sl10⟩)
    (c10 : PySem.W.codeIn K cd10 "nodes_of" = true)
    (k10 : PySem.W.keepIn K (.ref f10) = true)
    (a11 : PySem.W.nsIn K mainGlobals "numbers_of" = some (some (.ref f11)))
    (l11 : K.lookup f11 = some ⟨oc11, od11, .func (PySem.W.fnOf "numbers_of" "numbers_of" (defArgs st_11) (defBody st_11) (defScope st_11) .none kV11 dc11 pm11 an11 cd11 ct11), sl11⟩)
    (c11 : PySem.W.codeIn K cd11 "numbers_of" = true)
    (k11 : PySem.W.keepIn K (.ref f11) = true)
    (a12 : PySem.W.nsIn K mainGlobals "depth_of" = some (some (.ref f12)))
    (l12 : K.lookup f12 = some ⟨oc12, od12, .func (PySem.W.fnOf "depth_of" "depth_of" (defArgs st_12) (defBody st_12) (defScope st_12) .none kV12 dc12 pm12 an12 cd12 ct12), sl12⟩)
    (c12 : PySem.W.codeIn K cd12 "depth_of" = true)
    (k12 : PySem.W.keepIn K (.ref f12) = true)
    (a13 : PySem.W.findIn K (.ref C0) "__init__" = some (some (.ref f13)))
    (l13 : K.lookup f13 = some ⟨oc13, od13, .func (PySem.W.fnOf "__init__" "Term.__init__" (defArgs st_13) (defBody st_13) (defScope st_13) .none kV13 dc13 pm13 an13 cd13 ct13), sl13⟩)
    (c13 : PySem.W.codeIn K cd13 "Term.__init__" = true)
    (k13 : PySem.W.keepIn K (.ref f13) = true)
    (a14 : PySem.W.findIn K (.ref C0) "tree" = some (some (.ref f14)))
    (l14 : K.lookup f14 = some ⟨oc14, od14, .func (PySem.W.fnOf "tree" "Term.tree" (defArgs st_14) (defBody st_14) (defScope st_14) .none kV14 dc14 pm14 an14 cd14 ct14), sl14⟩)
    (c14 : PySem.W.codeIn K cd14 "Term.tree" = true)
    (k14 : PySem.W.keepIn K (.ref f14) = true)
    (a15 : PySem.W.findIn K (.ref C0) "__len__" = some (some (.ref f15)))
    (l15 : K.lookup f15 = some ⟨oc15, od15, .func (PySem.W.fnOf "__len__" "Term.__len__" (defArgs st_15) (defBody st_15) (defScope st_15) .none kV15 dc15 pm15 an15 cd15 ct15), sl15⟩)
    (c15 : PySem.W.codeIn K cd15 "Term.__len__" = true)
    (k15 : PySem.W.keepIn K (.ref f15) = true)
    (a16 : PySem.W.findIn K (.ref C0) "__getitem__" = some (some (.ref f16)))
    (l16 : K.lookup f16 = some ⟨oc16, od16, .func (PySem.W.fnOf "__getitem__" "Term.__getitem__" (defArgs st_16) (defBody st_16) (defScope st_16) .none kV16 dc16 pm16 an16 cd16 ct16), sl16⟩)
    (c16 : PySem.W.codeIn K cd16 "Term.__getitem__" = true)
    (k16 : PySem.W.keepIn K (.ref f16) = true)
    (a17 : PySem.W.findIn K (.ref C0) "__contains__" = some (some (.ref f17)))
    (l17 : K.lookup f17 = some ⟨oc17, od17, .func (PySem.W.fnOf "__contains__" "Term.__contains__" (defArgs st_17) (defBody st_17) (defScope st_17) .none kV17 dc17 pm17 an17 cd17 ct17), sl17⟩)
    (c17 : PySem.W.codeIn K cd17 "Term.__contains__" = true)
    (k17 : PySem.W.keepIn K (.ref f17) = true)
    (a19 : PySem.W.findIn K (.ref C0) "listed" = some (some (.ref f19)))
    (l19 : K.lookup f19 = some ⟨oc19, od19, .func (PySem.W.fnOf "listed" "Term.listed" (defArgs st_19) (defBody st_19) (defScope st_19) .none kV19 dc19 pm19 an19 cd19 ct19), sl19⟩)
    (c19 : PySem.W.codeIn K cd19 "Term.listed" = true)
    (k19 : PySem.W.keepIn K (.ref f19) = true)
    (a20 : PySem.W.findIn K (.ref C0) "binders" = some (some (.ref f20)))
    (l20 : K.lookup f20 = some ⟨oc20, od20, .func (PySem.W.fnOf "binders" "Term.binders" (defArgs st_20) (defBody st_20) (defScope st_20) .none kV20 dc20 pm20 an20 cd20 ct20), sl20⟩)
    (c20 : PySem.W.codeIn K cd20 "Term.binders" = true)
    (k20 : PySem.W.keepIn K (.ref f20) = true)
    (a21 : PySem.W.findIn K (.ref C0) "uses" = some (some (.ref f21)))
    (l21 : K.lookup f21 = some ⟨oc21, od21, .func (PySem.W.fnOf "uses" "Term.uses" (defArgs st_21) (defBody st_21) (defScope st_21) .none kV21 dc21 pm21 an21 cd21 ct21), sl21⟩)
    (c21 : PySem.W.codeIn K cd21 "Term.uses" = true)
    (k21 : PySem.W.keepIn K (.ref f21) = true)
    (a22 : PySem.W.findIn K (.ref C0) "depth" = some (some (.ref f22)))
    (l22 : K.lookup f22 = some ⟨oc22, od22, .func (PySem.W.fnOf "depth" "Term.depth" (defArgs st_22) (defBody st_22) (defScope st_22) .none kV22 dc22 pm22 an22 cd22 ct22), sl22⟩)
    (c22 : PySem.W.codeIn K cd22 "Term.depth" = true)
    (k22 : PySem.W.keepIn K (.ref f22) = true)
    (a23 : PySem.W.findIn K (.ref C0) "__eq__" = some (some (.ref f23)))
    (l23 : K.lookup f23 = some ⟨oc23, od23, .func (PySem.W.fnOf "__eq__" "Term.__eq__" (defArgs st_23) (defBody st_23) (defScope st_23) .none kV23 dc23 pm23 an23 cd23 ct23), sl23⟩)
    (c23 : PySem.W.codeIn K cd23 "Term.__eq__" = true)
    (k23 : PySem.W.keepIn K (.ref f23) = true)
    (a27 : PySem.W.nsIn K mainGlobals "_law_pool" = some (some (.ref f27)))
    (l27 : K.lookup f27 = some ⟨oc27, od27, .func (PySem.W.fnOf "_law_pool" "_law_pool" (defArgs st_27) (defBody st_27) (defScope st_27) .none kV27 dc27 pm27 an27 cd27 ct27), sl27⟩)
    (c27 : PySem.W.codeIn K cd27 "_law_pool" = true)
    (k27 : PySem.W.keepIn K (.ref f27) = true)
    (a28 : PySem.W.nsIn K mainGlobals "_law_take" = some (some (.ref f28)))
    (l28 : K.lookup f28 = some ⟨oc28, od28, .func (PySem.W.fnOf "_law_take" "_law_take" (defArgs st_28) (defBody st_28) (defScope st_28) .none kV28 dc28 pm28 an28 cd28 ct28), sl28⟩)
    (c28 : PySem.W.codeIn K cd28 "_law_take" = true)
    (k28 : PySem.W.keepIn K (.ref f28) = true)
    (a29 : PySem.W.nsIn K mainGlobals "_law_one" = some (some (.ref f29)))
    (l29 : K.lookup f29 = some ⟨oc29, od29, .func (PySem.W.fnOf "_law_one" "_law_one" (defArgs st_29) (defBody st_29) (defScope st_29) .none kV29 dc29 pm29 an29 cd29 ct29), sl29⟩)
    (c29 : PySem.W.codeIn K cd29 "_law_one" = true)
    (k29 : PySem.W.keepIn K (.ref f29) = true)
    (a30 : PySem.W.nsIn K mainGlobals "_law_words" = some (some (.ref f30)))
    (l30 : K.lookup f30 = some ⟨oc30, od30, .func (PySem.W.fnOf "_law_words" "_law_words" (defArgs st_30) (defBody st_30) (defScope st_30) .none kV30 dc30 pm30 an30 cd30 ct30), sl30⟩)
    (c30 : PySem.W.codeIn K cd30 "_law_words" = true)
    (k30 : PySem.W.keepIn K (.ref f30) = true)
    (a31 : PySem.W.nsIn K mainGlobals "_law_leaf" = some (some (.ref f31)))
    (l31 : K.lookup f31 = some ⟨oc31, od31, .func (PySem.W.fnOf "_law_leaf" "_law_leaf" (defArgs st_31) (defBody st_31) (defScope st_31) .none kV31 dc31 pm31 an31 cd31 ct31), sl31⟩)
    (c31 : PySem.W.codeIn K cd31 "_law_leaf" = true)
    (k31 : PySem.W.keepIn K (.ref f31) = true)
    (a32 : PySem.W.nsIn K mainGlobals "_law_grown" = some (some (.ref f32)))
    (l32 : K.lookup f32 = some ⟨oc32, od32, .func (PySem.W.fnOf "_law_grown" "_law_grown" (defArgs st_32) (defBody st_32) (defScope st_32) .none kV32 dc32 pm32 an32 cd32 ct32), sl32⟩)
    (c32 : PySem.W.codeIn K cd32 "_law_grown" = true)
    (k32 : PySem.W.keepIn K (.ref f32) = true)
    (a33 : PySem.W.nsIn K mainGlobals "_law_bound" = some (some (.ref f33)))
    (l33 : K.lookup f33 = some ⟨oc33, od33, .func (PySem.W.fnOf "_law_bound" "_law_bound" (defArgs st_33) (defBody st_33) (defScope st_33) .none kV33 dc33 pm33 an33 cd33 ct33), sl33⟩)
    (c33 : PySem.W.codeIn K cd33 "_law_bound" = true)
    (k33 : PySem.W.keepIn K (.ref f33) = true)
    (a34 : PySem.W.nsIn K mainGlobals "_law_nested" = some (some (.ref f34)))
    (l34 : K.lookup f34 = some ⟨oc34, od34, .func (PySem.W.fnOf "_law_nested" "_law_nested" (defArgs st_34) (defBody st_34) (defScope st_34) .none kV34 dc34 pm34 an34 cd34 ct34), sl34⟩)
    (c34 : PySem.W.codeIn K cd34 "_law_nested" = true)
    (k34 : PySem.W.keepIn K (.ref f34) = true)
    (a35 : PySem.W.nsIn K mainGlobals "_law_tree" = some (some (.ref f35)))
    (l35 : K.lookup f35 = some ⟨oc35, od35, .func (PySem.W.fnOf "_law_tree" "_law_tree" (defArgs st_35) (defBody st_35) (defScope st_35) .none kV35 dc35 pm35 an35 cd35 ct35), sl35⟩)
    (c35 : PySem.W.codeIn K cd35 "_law_tree" = true)
    (k35 : PySem.W.keepIn K (.ref f35) = true)
    (a36 : PySem.W.nsIn K mainGlobals "_law_below" = some (some (.ref f36)))
    (l36 : K.lookup f36 = some ⟨oc36, od36, .func (PySem.W.fnOf "_law_below" "_law_below" (defArgs st_36) (defBody st_36) (defScope st_36) .none kV36 dc36 pm36 an36 cd36 ct36), sl36⟩)
    (c36 : PySem.W.codeIn K cd36 "_law_below" = true)
    (k36 : PySem.W.keepIn K (.ref f36) = true)
    (a37 : PySem.W.nsIn K mainGlobals "_law_nodes" = some (some (.ref f37)))
    (l37 : K.lookup f37 = some ⟨oc37, od37, .func (PySem.W.fnOf "_law_nodes" "_law_nodes" (defArgs st_37) (defBody st_37) (defScope st_37) .none kV37 dc37 pm37 an37 cd37 ct37), sl37⟩)
    (c37 : PySem.W.codeIn K cd37 "_law_nodes" = true)
    (k37 : PySem.W.keepIn K (.ref f37) = true)
    (a38 : PySem.W.nsIn K mainGlobals "_law_tried" = some (some (.ref f38)))
    (l38 : K.lookup f38 = some ⟨oc38, od38, .func (PySem.W.fnOf "_law_tried" "_law_tried" (defArgs st_38) (defBody st_38) (defScope st_38) .none kV38 dc38 pm38 an38 cd38 ct38), sl38⟩)
    (c38 : PySem.W.codeIn K cd38 "_law_tried" = true)
    (k38 : PySem.W.keepIn K (.ref f38) = true)
    (a39 : PySem.W.nsIn K mainGlobals "_law_deep" = some (some (.ref f39)))
    (l39 : K.lookup f39 = some ⟨oc39, od39, .func (PySem.W.fnOf "_law_deep" "_law_deep" (defArgs st_39) (defBody st_39) (defScope st_39) .none kV39 dc39 pm39 an39 cd39 ct39), sl39⟩)
    (c39 : PySem.W.codeIn K cd39 "_law_deep" = true)
    (k39 : PySem.W.keepIn K (.ref f39) = true)
    (a40 : PySem.W.nsIn K mainGlobals "_law_told_right" = some (some (.ref f40)))
    (l40 : K.lookup f40 = some ⟨oc40, od40, .func (PySem.W.fnOf "_law_told_right" "_law_told_right" (defArgs st_40) (defBody st_40) (defScope st_40) .none kV40 dc40 pm40 an40 cd40 ct40), sl40⟩)
    (c40 : PySem.W.codeIn K cd40 "_law_told_right" = true)
    (k40 : PySem.W.keepIn K (.ref f40) = true)
    (a41 : PySem.W.nsIn K mainGlobals "law" = some (some (.ref f41)))
    (l41 : K.lookup f41 = some ⟨oc41, od41, .func (PySem.W.fnOf "law" "law" (defArgs st_41) (defBody st_41) (defScope st_41) .none kV41 dc41 pm41 an41 (.ref cc) ct41), sl41⟩)
    (c41 : PySem.W.codeIn K (.ref cc) "law" = true)
    (k41 : PySem.W.keepIn K (.ref f41) = true)
    (z_all : PySem.W.nsIn K mainGlobals "all" = some none)
    (z_bool : PySem.W.nsIn K mainGlobals "bool" = some none)
    (z_enumerate : PySem.W.nsIn K mainGlobals "enumerate" = some none)
    (z_int : PySem.W.nsIn K mainGlobals "int" = some none)
    (z_isinstance : PySem.W.nsIn K mainGlobals "isinstance" = some none)
    (z_len : PySem.W.nsIn K mainGlobals "len" = some none)
    (z_list : PySem.W.nsIn K mainGlobals "list" = some none)
    (z_max : PySem.W.nsIn K mainGlobals "max" = some none)
    (z_min : PySem.W.nsIn K mainGlobals "min" = some none)
    (z_range : PySem.W.nsIn K mainGlobals "range" = some none)
    (z_repr : PySem.W.nsIn K mainGlobals "repr" = some none)
    (z_str : PySem.W.nsIn K mainGlobals "str" = some none)
    (z_tuple : PySem.W.nsIn K mainGlobals "tuple" = some none)
    (g_LONGEST_NAME : PySem.W.nsIn K mainGlobals "LONGEST_NAME" = some (some (.int 8 t_LONGEST_NAME)))
    (g_MOST_BINDERS : PySem.W.nsIn K mainGlobals "MOST_BINDERS" = some (some (.int 60 t_MOST_BINDERS)))
    (g_MOST_NODES : PySem.W.nsIn K mainGlobals "MOST_NODES" = some (some (.int 400 t_MOST_NODES)))
    (g_MOST_ON_A_WAY : PySem.W.nsIn K mainGlobals "MOST_ON_A_WAY" = some (some (.int 100 t_MOST_ON_A_WAY)))
    (g_SIZES : PySem.W.nsIn K mainGlobals "SIZES" = some (some (.ref d_SIZES)))
    (dl_SIZES : K.lookup d_SIZES = some ⟨.type "dict", none, .dict es_SIZES en_SIZES, #[]⟩)
    (dk_SIZES : PySem.W.KeysLit w.params es_SIZES.toList)
    (ds_SIZES : (d_SIZES == sysModules) = false)
    (de_SIZES : es_SIZES.toList.map litE = kv_SIZES.map some)
    (ko0_Term : PySem.W.subIn K (.type "NoneType") (.ref C0) = some false)
    (ko1_Term : PySem.W.subIn K (.type "bool") (.ref C0) = some false)
    (ko2_Term : PySem.W.subIn K (.type "int") (.ref C0) = some false)
    (ko3_Term : PySem.W.subIn K (.type "str") (.ref C0) = some false)
    (ko4_Term : PySem.W.subIn K (.type "tuple") (.ref C0) = some false)
    (ko5_Term : PySem.W.subIn K (.type "list") (.ref C0) = some false)
    (ko6_Term : PySem.W.subIn K (.type "dict") (.ref C0) = some false)
    (kc_Term : PySem.W.isClsIn K C0 = true)
    (ky_Term : PySem.W.typeIn K (.ref C0) = some (.type "type"))
    (kt0_bool : PySem.W.subIn K (.ref C0) (.type "bool") = some false)
    (kt0_int : PySem.W.subIn K (.ref C0) (.type "int") = some false)
    (kt0_str : PySem.W.subIn K (.ref C0) (.type "str") = some false)
    (kt0_tuple : PySem.W.subIn K (.ref C0) (.type "tuple") = some false)
    (q17 : PySem.W.isFn K (.ref f17) = true)
    (q23 : PySem.W.isFn K (.ref f23) = true)
    (q16 : PySem.W.isFn K (.ref f16) = true)
    (gf0 : PySem.W.fnIn K f16 = true)
    (q15 : PySem.W.isFn K (.ref f15) = true)
    (no0_2 : PySem.W.findIn K (.ref C0) "_binders" = some none)
    (no0_4 : PySem.W.findIn K (.ref C0) "_depth" = some none)
    (no0_1 : PySem.W.findIn K (.ref C0) "_nodes" = some none)
    (no0_0 : PySem.W.findIn K (.ref C0) "_tree" = some none)
    (no0_3 : PySem.W.findIn K (.ref C0) "_uses" = some none)
    (q20 : PySem.W.isFn K (.ref f20) = true)
    (q22 : PySem.W.isFn K (.ref f22) = true)
    (q19 : PySem.W.isFn K (.ref f19) = true)
    (q14 : PySem.W.isFn K (.ref f14) = true)
    (q21 : PySem.W.isFn K (.ref f21) = true)
    (mm0 : PySem.W.makesIn K C0 = true)
    (mp0 : PySem.W.keepIn K (.ref C0) = true)
    (q13 : PySem.W.isFn K (.ref f13) = true)
    (nf0_0 : PySem.W.notFirst K C0 (.type "NoneType") = true)
    (nf0_1 : PySem.W.notFirst K C0 (.type "bool") = true)
    (nf0_2 : PySem.W.notFirst K C0 (.type "int") = true)
    (nf0_3 : PySem.W.notFirst K C0 (.type "str") = true)
    (nf0_4 : PySem.W.notFirst K C0 (.type "tuple") = true)
    (nf0_5 : PySem.W.notFirst K C0 (.type "list") = true)
    (nf0_6 : PySem.W.notFirst K C0 (.type "dict") = true)
    (nf0_7 : PySem.W.notFirst K C0 (.ref C0) = true)
    (xl2 : K.lookup C2 = some (excClassObj xn2 xq2 C2 xN2 xb2 xm2 true xs2 xu2 xa2 xc2 xd2 xk0_2 xk1_2 xk2_2 xk3_2 xk5_2 "ValueError.__new__"))
    (xr2 : PySem.HandSPX.refsVE xm2 = true)
    (xs_2 : PySem.W.findIn K (.ref C2) "__setattr__" = some (some (.builtin "object.__setattr__")))
    (xe2 : PySem.W.subIn K (.ref C2) (.type "BaseException") = some true)
    (xt2 : PySem.W.typeIn K (.ref C2) = some (.type "type"))
    (xp2 : PySem.W.keepIn K (.ref C2) = true)
    (xi2 : PySem.W.typeIn K (.ref f2) = some (.type "function"))
    (xo2 : PySem.W.findIn K (.ref C2) "index" = some none)
    (xg2 : PySem.W.findIn K (.ref C2) "__getattribute__" = some (some (.builtin "BaseException.__getattribute__")))
    (xh2 : PySem.W.findIn K (.ref C2) "__getattr__" = some none)
    (xD2 : PySem.W.hasDictIn K C2 = true)
    (xx2 : PySem.W.isClsIn K C2 = true)
    (xy2 : PySem.W.subIn K (.ref C2) (.ref C2) = some true)
    (lcc : K.lookup cc = some ⟨ec, ddc, .fields vsc, slc⟩)
    (le : ec = .type "code")
    (v11 : vsc[11]? = some (.ref Pt))
    (w11 : vsc.getD 11 .none = .ref Pt)
    (w18 : vsc.getD 18 .none = .str flc tfc)
    (w7 : vsc.getD 7 .none = .int flg tgc)
    (w9 : vsc.getD 9 .none = .bool inf)
    (w10 : vsc.getD 10 .none = .int txc ttc)
    (nP : K.lookup Pt = none)
    (cP : (cc == Pt) = false)
    (nl : noList K = true)
    (math : ∀ ns : List Int, ns.length ≤ 63 → ∃ h', mBody 1 10 (b_41 (cl 50)) [.ref 0] [.frz (ns.map D.int)] = .ok (.bl true) h') :
    LawG l w K (L2.CX l.prog w) 204 63 "_law_script" mg fa0 h := by
  have e := hfa.symm.trans (PySem.W.mg_of X Gn a41)
  cases e
  have T : Txt K w mg (fun c => match c with | 0 => C0 | 2 => C2 | _ => 0) [(Pt, lamq)] (fun j => match j with | 2 => f2 | 4 => f4 | 5 => f5 | 6 => f6 | 7 => f7 | 8 => f8 | 9 => f9 | 10 => f10 | 11 => f11 | 12 => f12 | 13 => f13 | 14 => f14 | 15 => f15 | 16 => f16 | 17 => f17 | 19 => f19 | 20 => f20 | 21 => f21 | 22 => f22 | 23 => f23 | 27 => f27 | 28 => f28 | 29 => f29 | 30 => f30 | 31 => f31 | 32 => f32 | 33 => f33 | 34 => f34 | 35 => f35 | 36 => f36 | 37 => f37 | 38 => f38 | 39 => f39 | 40 => f40 | 41 => fa0 | _ => 0) (fun j => match j with | 2 => PySem.W.fnOf "__init__" "NoNode.__init__" (defArgs st_2) (defBody st_2) (defScope st_2) .none kV2 dc2 pm2 an2 cd2 ct2 | 4 => PySem.W.fnOf "is_name" "is_name" (defArgs st_4) (defBody st_4) (defScope st_4) .none kV4 dc4 pm4 an4 cd4 ct4 | 5 => PySem.W.fnOf "is_number" "is_number" (defArgs st_5) (defBody st_5) (defScope st_5) .none kV5 dc5 pm5 an5 cd5 ct5 | 6 => PySem.W.fnOf "is_tree" "is_tree" (defArgs st_6) (defBody st_6) (defScope st_6) .none kV6 dc6 pm6 an6 cd6 ct6 | 7 => PySem.W.fnOf "has_node_form" "has_node_form" (defArgs st_7) (defBody st_7) (defScope st_7) .none kV7 dc7 pm7 an7 cd7 ct7 | 8 => PySem.W.fnOf "trees_below" "trees_below" (defArgs st_8) (defBody st_8) (defScope st_8) .none kV8 dc8 pm8 an8 cd8 ct8 | 9 => PySem.W.fnOf "row_below" "row_below" (defArgs st_9) (defBody st_9) (defScope st_9) .none kV9 dc9 pm9 an9 cd9 ct9 | 10 => PySem.W.fnOf "nodes_of" "nodes_of" (defArgs st_10) (defBody st_10) (defScope st_10) .none kV10 dc10 pm10 an10 cd10 ct10 | 11 => PySem.W.fnOf "numbers_of" "numbers_of" (defArgs st_11) (defBody st_11) (defScope st_11) .none kV11 dc11 pm11 an11 cd11 ct11 | 12 => PySem.W.fnOf "depth_of" "depth_of" (defArgs st_12) (defBody st_12) (defScope st_12) .none kV12 dc12 pm12 an12 cd12 ct12 | 13 => PySem.W.fnOf "__init__" "Term.__init__" (defArgs st_13) (defBody st_13) (defScope st_13) .none kV13 dc13 pm13 an13 cd13 ct13 | 14 => PySem.W.fnOf "tree" "Term.tree" (defArgs st_14) (defBody st_14) (defScope st_14) .none kV14 dc14 pm14 an14 cd14 ct14 | 15 => PySem.W.fnOf "__len__" "Term.__len__" (defArgs st_15) (defBody st_15) (defScope st_15) .none kV15 dc15 pm15 an15 cd15 ct15 | 16 => PySem.W.fnOf "__getitem__" "Term.__getitem__" (defArgs st_16) (defBody st_16) (defScope st_16) .none kV16 dc16 pm16 an16 cd16 ct16 | 17 => PySem.W.fnOf "__contains__" "Term.__contains__" (defArgs st_17) (defBody st_17) (defScope st_17) .none kV17 dc17 pm17 an17 cd17 ct17 | 19 => PySem.W.fnOf "listed" "Term.listed" (defArgs st_19) (defBody st_19) (defScope st_19) .none kV19 dc19 pm19 an19 cd19 ct19 | 20 => PySem.W.fnOf "binders" "Term.binders" (defArgs st_20) (defBody st_20) (defScope st_20) .none kV20 dc20 pm20 an20 cd20 ct20 | 21 => PySem.W.fnOf "uses" "Term.uses" (defArgs st_21) (defBody st_21) (defScope st_21) .none kV21 dc21 pm21 an21 cd21 ct21 | 22 => PySem.W.fnOf "depth" "Term.depth" (defArgs st_22) (defBody st_22) (defScope st_22) .none kV22 dc22 pm22 an22 cd22 ct22 | 23 => PySem.W.fnOf "__eq__" "Term.__eq__" (defArgs st_23) (defBody st_23) (defScope st_23) .none kV23 dc23 pm23 an23 cd23 ct23 | 27 => PySem.W.fnOf "_law_pool" "_law_pool" (defArgs st_27) (defBody st_27) (defScope st_27) .none kV27 dc27 pm27 an27 cd27 ct27 | 28 => PySem.W.fnOf "_law_take" "_law_take" (defArgs st_28) (defBody st_28) (defScope st_28) .none kV28 dc28 pm28 an28 cd28 ct28 | 29 => PySem.W.fnOf "_law_one" "_law_one" (defArgs st_29) (defBody st_29) (defScope st_29) .none kV29 dc29 pm29 an29 cd29 ct29 | 30 => PySem.W.fnOf "_law_words" "_law_words" (defArgs st_30) (defBody st_30) (defScope st_30) .none kV30 dc30 pm30 an30 cd30 ct30 | 31 => PySem.W.fnOf "_law_leaf" "_law_leaf" (defArgs st_31) (defBody st_31) (defScope st_31) .none kV31 dc31 pm31 an31 cd31 ct31 | 32 => PySem.W.fnOf "_law_grown" "_law_grown" (defArgs st_32) (defBody st_32) (defScope st_32) .none kV32 dc32 pm32 an32 cd32 ct32 | 33 => PySem.W.fnOf "_law_bound" "_law_bound" (defArgs st_33) (defBody st_33) (defScope st_33) .none kV33 dc33 pm33 an33 cd33 ct33 | 34 => PySem.W.fnOf "_law_nested" "_law_nested" (defArgs st_34) (defBody st_34) (defScope st_34) .none kV34 dc34 pm34 an34 cd34 ct34 | 35 => PySem.W.fnOf "_law_tree" "_law_tree" (defArgs st_35) (defBody st_35) (defScope st_35) .none kV35 dc35 pm35 an35 cd35 ct35 | 36 => PySem.W.fnOf "_law_below" "_law_below" (defArgs st_36) (defBody st_36) (defScope st_36) .none kV36 dc36 pm36 an36 cd36 ct36 | 37 => PySem.W.fnOf "_law_nodes" "_law_nodes" (defArgs st_37) (defBody st_37) (defScope st_37) .none kV37 dc37 pm37 an37 cd37 ct37 | 38 => PySem.W.fnOf "_law_tried" "_law_tried" (defArgs st_38) (defBody st_38) (defScope st_38) .none kV38 dc38 pm38 an38 cd38 ct38 | 39 => PySem.W.fnOf "_law_deep" "_law_deep" (defArgs st_39) (defBody st_39) (defScope st_39) .none kV39 dc39 pm39 an39 cd39 ct39 | 40 => PySem.W.fnOf "_law_told_right" "_law_told_right" (defArgs st_40) (defBody st_40) (defScope st_40) .none kV40 dc40 pm40 an40 cd40 ct40 | 41 => PySem.W.fnOf "law" "law" (defArgs st_41) (defBody st_41) (defScope st_41) .none kV41 dc41 pm41 an41 (.ref cc) ct41 | _ => PySem.W.fnOf "law" "law" (defArgs st_41) (defBody st_41) (defScope st_41) .none kV41 dc41 pm41 an41 (.ref cc) ct41) d_SIZES := {
    u4 := fun_mk (st := st_4) l4 c4 k4
    m4 := PySem.W.mg_of X Gn a4
    b4 := (fun_mk (st := st_4) l4 c4 k4).binds (ps := ["value"]) fun _ _ _ _ _ _ us hl => match us, hl with | [_], _ => rfl
    u5 := fun_mk (st := st_5) l5 c5 k5
    m5 := PySem.W.mg_of X Gn a5
    b5 := (fun_mk (st := st_5) l5 c5 k5).binds (ps := ["value"]) fun _ _ _ _ _ _ us hl => match us, hl with | [_], _ => rfl
    u6 := fun_mk (st := st_6) l6 c6 k6
    m6 := PySem.W.mg_of X Gn a6
    b6 := (fun_mk (st := st_6) l6 c6 k6).binds (ps := ["value"]) fun _ _ _ _ _ _ us hl => match us, hl with | [_], _ => rfl
    u7 := fun_mk (st := st_7) l7 c7 k7
    m7 := PySem.W.mg_of X Gn a7
    b7 := (fun_mk (st := st_7) l7 c7 k7).binds (ps := ["value"]) fun _ _ _ _ _ _ us hl => match us, hl with | [_], _ => rfl
    u8 := fun_mk (st := st_8) l8 c8 k8
    m8 := PySem.W.mg_of X Gn a8
    b8 := (fun_mk (st := st_8) l8 c8 k8).binds (ps := ["node"]) fun _ _ _ _ _ _ us hl => match us, hl with | [_], _ => rfl
    u9 := fun_mk (st := st_9) l9 c9 k9
    m9 := PySem.W.mg_of X Gn a9
    b9 := (fun_mk (st := st_9) l9 c9 k9).binds (ps := ["row"]) fun _ _ _ _ _ _ us hl => match us, hl with | [_], _ => rfl
    u10 := fun_mk (st := st_10) l10 c10 k10
    m10 := PySem.W.mg_of X Gn a10
    b10 := (fun_mk (st := st_10) l10 c10 k10).binds (ps := ["tree"]) fun _ _ _ _ _ _ us hl => match us, hl with | [_], _ => rfl
    u11 := fun_mk (st := st_11) l11 c11 k11
    m11 := PySem.W.mg_of X Gn a11
    b11 := (fun_mk (st := st_11) l11 c11 k11).binds (ps := ["kind", "nodes"]) fun _ _ _ _ _ _ us hl => match us, hl with | [_, _], _ => rfl
    u12 := fun_mk (st := st_12) l12 c12 k12
    m12 := PySem.W.mg_of X Gn a12
    b12 := (fun_mk (st := st_12) l12 c12 k12).binds (ps := ["tree"]) fun _ _ _ _ _ _ us hl => match us, hl with | [_], _ => rfl
    u13 := fun_mk (st := st_13) l13 c13 k13
    b13 := (fun_mk (st := st_13) l13 c13 k13).binds (ps := ["self", "tree"]) fun _ _ _ _ _ _ us hl => match us, hl with | [_, _], _ => rfl
    u14 := fun_mk (st := st_14) l14 c14 k14
    b14 := (fun_mk (st := st_14) l14 c14 k14).binds (ps := ["self"]) fun _ _ _ _ _ _ us hl => match us, hl with | [_], _ => rfl
    u15 := fun_mk (st := st_15) l15 c15 k15
    b15 := (fun_mk (st := st_15) l15 c15 k15).binds (ps := ["self"]) fun _ _ _ _ _ _ us hl => match us, hl with | [_], _ => rfl
    u16 := fun_mk (st := st_16) l16 c16 k16
    b16 := (fun_mk (st := st_16) l16 c16 k16).binds (ps := ["self", "at"]) fun _ _ _ _ _ _ us hl => match us, hl with | [_, _], _ => rfl
    u17 := fun_mk (st := st_17) l17 c17 k17
    b17 := (fun_mk (st := st_17) l17 c17 k17).binds (ps := ["self", "x"]) fun _ _ _ _ _ _ us hl => match us, hl with | [_, _], _ => rfl
    u19 := fun_mk (st := st_19) l19 c19 k19
    b19 := (fun_mk (st := st_19) l19 c19 k19).binds (ps := ["self"]) fun _ _ _ _ _ _ us hl => match us, hl with | [_], _ => rfl
    u20 := fun_mk (st := st_20) l20 c20 k20
    b20 := (fun_mk (st := st_20) l20 c20 k20).binds (ps := ["self"]) fun _ _ _ _ _ _ us hl => match us, hl with | [_], _ => rfl
    u21 := fun_mk (st := st_21) l21 c21 k21
    b21 := (fun_mk (st := st_21) l21 c21 k21).binds (ps := ["self"]) fun _ _ _ _ _ _ us hl => match us, hl with | [_], _ => rfl
    u22 := fun_mk (st := st_22) l22 c22 k22
    b22 := (fun_mk (st := st_22) l22 c22 k22).binds (ps := ["self"]) fun _ _ _ _ _ _ us hl => match us, hl with | [_], _ => rfl
    u23 := fun_mk (st := st_23) l23 c23 k23
    b23 := (fun_mk (st := st_23) l23 c23 k23).binds (ps := ["self", "other"]) fun _ _ _ _ _ _ us hl => match us, hl with | [_, _], _ => rfl
    u27 := fun_mk (st := st_27) l27 c27 k27
    m27 := PySem.W.mg_of X Gn a27
    b27 := (fun_mk (st := st_27) l27 c27 k27).binds (ps := ["_law_script", "_law_k"]) fun _ _ _ _ _ _ us hl => match us, hl with | [_, _], _ => rfl
    u28 := fun_mk (st := st_28) l28 c28 k28
    m28 := PySem.W.mg_of X Gn a28
    b28 := (fun_mk (st := st_28) l28 c28 k28).binds (ps := ["_law_source", "_law_top"]) fun _ _ _ _ _ _ us hl => match us, hl with | [_, _], _ => rfl
    u29 := fun_mk (st := st_29) l29 c29 k29
    m29 := PySem.W.mg_of X Gn a29
    b29 := (fun_mk (st := st_29) l29 c29 k29).binds (ps := ["_law_source", "_law_things"]) fun _ _ _ _ _ _ us hl => match us, hl with | [_, _], _ => rfl
    u30 := fun_mk (st := st_30) l30 c30 k30
    m30 := PySem.W.mg_of X Gn a30
    b30 := (fun_mk (st := st_30) l30 c30 k30).binds (ps := ["_law_source"]) fun _ _ _ _ _ _ us hl => match us, hl with | [_], _ => rfl
    u31 := fun_mk (st := st_31) l31 c31 k31
    m31 := PySem.W.mg_of X Gn a31
    b31 := (fun_mk (st := st_31) l31 c31 k31).binds (ps := ["_law_source", "_law_words_here"]) fun _ _ _ _ _ _ us hl => match us, hl with | [_, _], _ => rfl
    u32 := fun_mk (st := st_32) l32 c32 k32
    m32 := PySem.W.mg_of X Gn a32
    b32 := (fun_mk (st := st_32) l32 c32 k32).binds (ps := ["_law_source", "_law_words_here", "_law_room"]) fun _ _ _ _ _ _ us hl => match us, hl with | [_, _, _], _ => rfl
    u33 := fun_mk (st := st_33) l33 c33 k33
    m33 := PySem.W.mg_of X Gn a33
    b33 := (fun_mk (st := st_33) l33 c33 k33).binds (ps := ["_law_source", "_law_words_here", "_law_room"]) fun _ _ _ _ _ _ us hl => match us, hl with | [_, _, _], _ => rfl
    u34 := fun_mk (st := st_34) l34 c34 k34
    m34 := PySem.W.mg_of X Gn a34
    b34 := (fun_mk (st := st_34) l34 c34 k34).binds (ps := ["_law_source", "_law_words_here", "_law_deep_here"]) fun _ _ _ _ _ _ us hl => match us, hl with | [_, _, _], _ => rfl
    u35 := fun_mk (st := st_35) l35 c35 k35
    m35 := PySem.W.mg_of X Gn a35
    b35 := (fun_mk (st := st_35) l35 c35 k35).binds (ps := ["_law_source", "_law_most_nodes", "_law_most_binders"]) fun _ _ _ _ _ _ us hl => match us, hl with | [_, _, _], _ => rfl
    u36 := fun_mk (st := st_36) l36 c36 k36
    m36 := PySem.W.mg_of X Gn a36
    b36 := (fun_mk (st := st_36) l36 c36 k36).binds (ps := ["_law_tree_here"]) fun _ _ _ _ _ _ us hl => match us, hl with | [_], _ => rfl
    u37 := fun_mk (st := st_37) l37 c37 k37
    m37 := PySem.W.mg_of X Gn a37
    b37 := (fun_mk (st := st_37) l37 c37 k37).binds (ps := ["_law_tree_here"]) fun _ _ _ _ _ _ us hl => match us, hl with | [_], _ => rfl
    u39 := fun_mk (st := st_39) l39 c39 k39
    m39 := PySem.W.mg_of X Gn a39
    b39 := (fun_mk (st := st_39) l39 c39 k39).binds (ps := ["_law_tree_here"]) fun _ _ _ _ _ _ us hl => match us, hl with | [_], _ => rfl
    u40 := fun_mk (st := st_40) l40 c40 k40
    m40 := PySem.W.mg_of X Gn a40
    b40 := (fun_mk (st := st_40) l40 c40 k40).binds (ps := ["_law_tree_here", "_law_made"]) fun _ _ _ _ _ _ us hl => match us, hl with | [_, _], _ => rfl
    u41 := fun_mk (st := st_41) l41 c41 k41
    m41 := PySem.W.mg_of X Gn a41
    b41 := (fun_mk (st := st_41) l41 c41 k41).binds (ps := ["_law_script"]) fun _ _ _ _ _ _ us hl => match us, hl with | [_], _ => rfl
    u2 := fun_mk (st := st_2) l2 c2 k2
    b2 := (fun_mk (st := st_2) l2 c2 k2).binds (ps := ["self", "index"]) fun _ _ _ _ _ _ us hl => match us, hl with | [_, _], _ => rfl
    u38 := fun_mk (st := st_38) l38 c38 k38
    m38 := PySem.W.mg_of X Gn a38
    b38 := (fun_mk (st := st_38) l38 c38 k38).binds (ps := ["_law_function"]) fun _ _ _ _ _ _ us hl => match us, hl with | [_], _ => rfl
    z_all := PySem.W.mg_none_of X Gn z_all
    z_bool := PySem.W.mg_none_of X Gn z_bool
    z_enumerate := PySem.W.mg_none_of X Gn z_enumerate
    z_int := PySem.W.mg_none_of X Gn z_int
    z_isinstance := PySem.W.mg_none_of X Gn z_isinstance
    z_len := PySem.W.mg_none_of X Gn z_len
    z_list := PySem.W.mg_none_of X Gn z_list
    z_max := PySem.W.mg_none_of X Gn z_max
    z_min := PySem.W.mg_none_of X Gn z_min
    z_range := PySem.W.mg_none_of X Gn z_range
    z_repr := PySem.W.mg_none_of X Gn z_repr
    z_str := PySem.W.mg_none_of X Gn z_str
    z_tuple := PySem.W.mg_none_of X Gn z_tuple
    g_LONGEST_NAME := ⟨_, PySem.W.mg_of X Gn g_LONGEST_NAME⟩
    g_MOST_BINDERS := ⟨_, PySem.W.mg_of X Gn g_MOST_BINDERS⟩
    g_MOST_NODES := ⟨_, PySem.W.mg_of X Gn g_MOST_NODES⟩
    g_MOST_ON_A_WAY := ⟨_, PySem.W.mg_of X Gn g_MOST_ON_A_WAY⟩
    l_SIZES := ⟨es_SIZES, en_SIZES, ⟨dl_SIZES, dk_SIZES, ds_SIZES⟩, de_SIZES⟩
    g_SIZES := PySem.W.mg_of X Gn g_SIZES
    g_NoNode := PySem.W.mg_of X Gn n_C2
    g_Term := PySem.W.mg_of X Gn n_C0
    kt_Term := fun j hj => match j, hj with | 0, _ => kit_cls ko0_Term kc_Term ky_Term rfl | 1, _ => kit_cls ko1_Term kc_Term ky_Term rfl | 2, _ => kit_cls ko2_Term kc_Term ky_Term rfl | 3, _ => kit_cls ko3_Term kc_Term ky_Term rfl | 4, _ => kit_cls ko4_Term kc_Term ky_Term rfl | 5, _ => kit_cls ko5_Term kc_Term ky_Term rfl | 6, _ => kit_cls ko6_Term kc_Term ky_Term rfl | 7, _ => kit_self | n + 8, hj => absurd hj (by omega)
    kt_bool := fun j hj => match j, hj with | 0, _ => kit_ty (by decide +kernel) | 1, _ => kit_ty (by decide +kernel) | 2, _ => kit_ty (by decide +kernel) | 3, _ => kit_ty (by decide +kernel) | 4, _ => kit_ty (by decide +kernel) | 5, _ => kit_ty (by decide +kernel) | 6, _ => kit_ty (by decide +kernel) | 7, _ => kit_sub kt0_bool (by decide +kernel) rfl | n + 8, hj => absurd hj (by omega)
    kt_int := fun j hj => match j, hj with | 0, _ => kit_ty (by decide +kernel) | 1, _ => kit_ty (by decide +kernel) | 2, _ => kit_ty (by decide +kernel) | 3, _ => kit_ty (by decide +kernel) | 4, _ => kit_ty (by decide +kernel) | 5, _ => kit_ty (by decide +kernel) | 6, _ => kit_ty (by decide +kernel) | 7, _ => kit_sub kt0_int (by decide +kernel) rfl | n + 8, hj => absurd hj (by omega)
    kt_str := fun j hj => match j, hj with | 0, _ => kit_ty (by decide +kernel) | 1, _ => kit_ty (by decide +kernel) | 2, _ => kit_ty (by decide +kernel) | 3, _ => kit_ty (by decide +kernel) | 4, _ => kit_ty (by decide +kernel) | 5, _ => kit_ty (by decide +kernel) | 6, _ => kit_ty (by decide +kernel) | 7, _ => kit_sub kt0_str (by decide +kernel) rfl | n + 8, hj => absurd hj (by omega)
    kt_tuple := fun j hj => match j, hj with | 0, _ => kit_ty (by decide +kernel) | 1, _ => kit_ty (by decide +kernel) | 2, _ => kit_ty (by decide +kernel) | 3, _ => kit_ty (by decide +kernel) | 4, _ => kit_ty (by decide +kernel) | 5, _ => kit_ty (by decide +kernel) | 6, _ => kit_ty (by decide +kernel) | 7, _ => kit_sub kt0_tuple (by decide +kernel) rfl | n + 8, hj => absurd hj (by omega)
    kn := ⟨cn, ct, fun c hc => match c, hc with | 0, _ => ⟨⟨pg0, hd0, po0, sa0⟩, ca0, ob0⟩ | n + 1, hc => absurd hc (by omega)⟩
    d0_contains := ⟨a17, q17⟩
    d0_eq := ⟨a23, q23⟩
    d0_getitem := ⟨a16, q16⟩
    d0_getfn := gf0
    d0_len := ⟨a15, q15⟩
    f2 := fun c hc => by rcases List.mem_cons.mp hc with rfl | hc; exact ⟨⟨pg0, hd0, po0, sa0⟩, no0_2⟩; cases hc
    f4 := fun c hc => by rcases List.mem_cons.mp hc with rfl | hc; exact ⟨⟨pg0, hd0, po0, sa0⟩, no0_4⟩; cases hc
    f1 := fun c hc => by rcases List.mem_cons.mp hc with rfl | hc; exact ⟨⟨pg0, hd0, po0, sa0⟩, no0_1⟩; cases hc
    f0 := fun c hc => by rcases List.mem_cons.mp hc with rfl | hc; exact ⟨⟨pg0, hd0, po0, sa0⟩, no0_0⟩; cases hc
    f3 := fun c hc => by rcases List.mem_cons.mp hc with rfl | hc; exact ⟨⟨pg0, hd0, po0, sa0⟩, no0_3⟩; cases hc
    e20 := ⟨⟨pg0, hd0, po0, sa0⟩, ⟨a20, q20, k20⟩⟩
    e22 := ⟨⟨pg0, hd0, po0, sa0⟩, ⟨a22, q22, k22⟩⟩
    e19 := ⟨⟨pg0, hd0, po0, sa0⟩, ⟨a19, q19, k19⟩⟩
    e14 := ⟨⟨pg0, hd0, po0, sa0⟩, ⟨a14, q14, k14⟩⟩
    e21 := ⟨⟨pg0, hd0, po0, sa0⟩, ⟨a21, q21, k21⟩⟩
    mk0 := ⟨mm0, a13, q13, mp0⟩
    nf0 := fun j hj => match j, hj with | 0, _ => nf0_0 | 1, _ => nf0_1 | 2, _ => nf0_2 | 3, _ => nf0_3 | 4, _ => nf0_4 | 5, _ => nf0_5 | 6, _ => nf0_6 | 7, _ => nf0_7 | n + 8, hj => absurd hj (by omega)
    o2 := ⟨⟨⟨_, _, _, _, _, _, _, _, _, _, _, _, _, _, _, xl2, xr2⟩, xs_2, xe2, xt2, xp2⟩, a2, xi2⟩
    on2 := xo2
    x2 := ⟨xg2, xh2, xe2, xD2, xo2⟩
    xm2 := exm_own xe2 xx2 xt2 xy2
  }
  have hP := own cc Pt _ _ _ _ _ _ l41 rfl rfl lcc v11
  subst le
  refine ⟨PySem.W.fnOf "law" "law" (defArgs st_41) (defBody st_41) (defScope st_41) .none kV41 dc41 pm41 an41 (.ref cc) ct41, [(cc, Pt)], spM (GG K (fun c => match c with | 0 => C0 | 2 => C2 | _ => 0) [(Pt, lamq)]) (mBody 1 10 (b_41 (cl 50))), fun b hb => ?_, fun b hb => ?_, fun p hp => ?_, fun s u => .of_eq rfl, noList_at nl, fun H a o ns hl _ hT ha => ?_, fun base Kb Nb tb => ?_⟩
  · cases List.mem_singleton.mp hb
    exact hP
  · cases List.mem_singleton.mp hb
    exact nP
  · cases List.mem_singleton.mp hp
    exact ⟨_, _, flc, tfc, flg, tgc, inf, txc, ttc, X _ _ lcc, rfl, rfl, v11, w11, w18, w7, w9, w10, fun z => absurd z (beq_eq_false_iff_ne.mp cP)⟩
  · refine start_law ha (fun p hp => ?_) (math ns hl)
    cases List.mem_singleton.mp hp
    exact LamX.TabS.nil (hT Pt (List.mem_singleton.mpr rfl))
  · exact ok_41 T (lev T 50) rfl rfl (tb (cc, Pt) (List.mem_singleton.mpr rfl))
end K1
end L2.Lv
end
section
open PySem PySem.W PyProof.Rows
set_option maxRecDepth 100000 in
set_option maxHeartbeats 0 in
theorem PySem.Challenge.cw_livenames_k01_trees_and_terms_told_holds : PySem.Challenge.rw_livenames_k01_trees_and_terms_told.Holds := by
  w_on; o_law; k_head; (case hw => w_witness2)
  k_fill
  refine L2.Lv.walkG (l := PySem.Challenge.rw_livenames_k01_trees_and_terms_told) (n := 63) (k := 204) (x := "_law_script") (CX := fun w => L2.CX PySem.Challenge.rw_livenames_k01_trees_and_terms_told.prog w) rfl (by decide) rfl ⟨rfl, by decide, by decide⟩ (by decide +kernel) (fun w h Y => PySem.W.km_in_of Y) ?F ?CX
  case CX => exact fun w H s e s' q => by obtain ⟨_, _, _, _, _, _, _, _, _, _, _, _, z⟩ := q; exact z.elim
  case F =>
    intro w mg fa h Y KX Gn hmg own
    refine' L2.Lv.K1.all_mk KX Gn hmg own ?hh_n_C0 ?hh_pg0 ?hh_hd0 ?hh_po0 ?hh_sa0 ?hh_ca0 ?hh_ob0 ?hh_n_C2 ?hh_cn ?hh_ct ?hh_a2 ?hh_l2 ?hh_c2 ?hh_k2 ?hh_a4 ?hh_l4 ?hh_c4 ?hh_k4 ?hh_a5 ?hh_l5 ?hh_c5 ?hh_k5 ?hh_a6 ?hh_l6 ?hh_c6 ?hh_k6 ?hh_a7 ?hh_l7 ?hh_c7 ?hh_k7 ?hh_a8 ?hh_l8 ?hh_c8 ?hh_k8 ?hh_a9 ?hh_l9 ?hh_c9 ?hh_k9 ?hh_a10 ?hh_l10 ?hh_c10 ?hh_k10 ?hh_a11 ?hh_l11 ?hh_c11 ?hh_k11 ?hh_a12 ?hh_l12 ?hh_c12 ?hh_k12 ?hh_a13 ?hh_l13 ?hh_c13 ?hh_k13 ?hh_a14 ?hh_l14 ?hh_c14 ?hh_k14 ?hh_a15 ?hh_l15 ?hh_c15 ?hh_k15 ?hh_a16 ?hh_l16 ?hh_c16 ?hh_k16 ?hh_a17 ?hh_l17 ?hh_c17 ?hh_k17 ?hh_a19 ?hh_l19 ?hh_c19 ?hh_k19 ?hh_a20 ?hh_l20 ?hh_c20 ?hh_k20 ?hh_a21 ?hh_l21 ?hh_c21 ?hh_k21 ?hh_a22 ?hh_l22 ?hh_c22 ?hh_k22 ?hh_a23 ?hh_l23 ?hh_c23 ?hh_k23 ?hh_a27 ?hh_l27 ?hh_c27 ?hh_k27 ?hh_a28 ?hh_l28 ?hh_c28 ?hh_k28 ?hh_a29 ?hh_l29 ?hh_c29 ?hh_k29 ?hh_a30 ?hh_l30 ?hh_c30 ?hh_k30 ?hh_a31 ?hh_l31 ?hh_c31 ?hh_k31 ?hh_a32 ?hh_l32 ?hh_c32 ?hh_k32 ?hh_a33 ?hh_l33 ?hh_c33 ?hh_k33 ?hh_a34 ?hh_l34 ?hh_c34 ?hh_k34 ?hh_a35 ?hh_l35 ?hh_c35 ?hh_k35 ?hh_a36 ?hh_l36 ?hh_c36 ?hh_k36 ?hh_a37 ?hh_l37 ?hh_c37 ?hh_k37 ?hh_a38 ?hh_l38 ?hh_c38 ?hh_k38 ?hh_a39 ?hh_l39 ?hh_c39 ?hh_k39 ?hh_a40 ?hh_l40 ?hh_c40 ?hh_k40 ?hh_a41 ?hh_l41 ?hh_c41 ?hh_k41 ?hh_z_all ?hh_z_bool ?hh_z_enumerate ?hh_z_int ?hh_z_isinstance ?hh_z_len ?hh_z_list ?hh_z_max ?hh_z_min ?hh_z_range ?hh_z_repr ?hh_z_str ?hh_z_tuple ?hh_g_LONGEST_NAME ?hh_g_MOST_BINDERS ?hh_g_MOST_NODES ?hh_g_MOST_ON_A_WAY ?hh_g_SIZES ?hh_dl_SIZES ?hh_dk_SIZES ?hh_ds_SIZES ?hh_de_SIZES ?hh_ko0_Term ?hh_ko1_Term ?hh_ko2_Term ?hh_ko3_Term ?hh_ko4_Term ?hh_ko5_Term ?hh_ko6_Term ?hh_kc_Term ?hh_ky_Term ?hh_kt0_bool ?hh_kt0_int ?hh_kt0_str ?hh_kt0_tuple ?hh_q17 ?hh_q23 ?hh_q16 ?hh_gf0 ?hh_q15 ?hh_no0_2 ?hh_no0_4 ?hh_no0_1 ?hh_no0_0 ?hh_no0_3 ?hh_q20 ?hh_q22 ?hh_q19 ?hh_q14 ?hh_q21 ?hh_mm0 ?hh_mp0 ?hh_q13 ?hh_nf0_0 ?hh_nf0_1 ?hh_nf0_2 ?hh_nf0_3 ?hh_nf0_4 ?hh_nf0_5 ?hh_nf0_6 ?hh_nf0_7 ?hh_xl2 ?hh_xr2 ?hh_xs_2 ?hh_xe2 ?hh_xt2 ?hh_xp2 ?hh_xi2 ?hh_xo2 ?hh_xg2 ?hh_xh2 ?hh_xD2 ?hh_xx2 ?hh_xy2 ?hh_lcc ?hh_le ?hh_v11 ?hh_w11 ?hh_w18 ?hh_w7 ?hh_w9 ?hh_w10 ?hh_nP ?hh_cP ?hh_nl ?math
    (case hh_n_C0 => k_is)
    (case hh_pg0 => k_is)
    (case hh_hd0 => k_is)
    (case hh_po0 => k_is)
    (case hh_sa0 => k_is)
    (case hh_ca0 => k_is)
    (case hh_ob0 => k_is)
    (case hh_n_C2 => k_is)
    (case hh_cn => k_is)
    (case hh_ct => k_is)
    (case hh_a2 => k_is)
    (case hh_l2 => k_is)
    (case hh_c2 => k_is)
    (case hh_k2 => k_is)
    (case hh_a4 => k_is)
    (case hh_l4 => k_is)
    (case hh_c4 => k_is)
    (case hh_k4 => k_is)
    (case hh_a5 => k_is)
    (case hh_l5 => k_is)
    (case hh_c5 => k_is)
    (case hh_k5 => k_is)
    (case hh_a6 => k_is)
    (case hh_l6 => k_is)
    (case hh_c6 => k_is)
    (case hh_k6 => k_is)
    (case hh_a7 => k_is)
    (case hh_l7 => k_is)
    (case hh_c7 => k_is)
    (case hh_k7 => k_is)
    (case hh_a8 => k_is)
    (case hh_l8 => k_is)
    (case hh_c8 => k_is)
    (case hh_k8 => k_is)
    (case hh_a9 => k_is)
    (case hh_l9 => k_is)
    (case hh_c9 => k_is)
    (case hh_k9 => k_is)
    (case hh_a10 => k_is)
    (case hh_l10 => k_is)
    (case hh_c10 => k_is)
    (case hh_k10 => k_is)
    (case hh_a11 => k_is)
    (case hh_l11 => k_is)
    (case hh_c11 => k_is)
    (case hh_k11 => k_is)
    (case hh_a12 => k_is)
    (case hh_l12 => k_is)
    (case hh_c12 => k_is)
    (case hh_k12 => k_is)
    (case hh_a13 => k_is)
    (case hh_l13 => k_is)
    (case hh_c13 => k_is)
    (case hh_k13 => k_is)
    (case hh_a14 => k_is)
    (case hh_l14 => k_is)
    (case hh_c14 => k_is)
    (case hh_k14 => k_is)
    (case hh_a15 => k_is)
    (case hh_l15 => k_is)
    (case hh_c15 => k_is)
    (case hh_k15 => k_is)
    (case hh_a16 => k_is)
    (case hh_l16 => k_is)
    (case hh_c16 => k_is)
    (case hh_k16 => k_is)
    (case hh_a17 => k_is)
    (case hh_l17 => k_is)
    (case hh_c17 => k_is)
    (case hh_k17 => k_is)
    (case hh_a19 => k_is)
    (case hh_l19 => k_is)
    (case hh_c19 => k_is)
    (case hh_k19 => k_is)
    (case hh_a20 => k_is)
    (case hh_l20 => k_is)
    (case hh_c20 => k_is)
    (case hh_k20 => k_is)
    (case hh_a21 => k_is)
    (case hh_l21 => k_is)
    (case hh_c21 => k_is)
    (case hh_k21 => k_is)
    (case hh_a22 => k_is)
    (case hh_l22 => k_is)
    (case hh_c22 => k_is)
    (case hh_k22 => k_is)
    (case hh_a23 => k_is)
    (case hh_l23 => k_is)
    (case hh_c23 => k_is)
    (case hh_k23 => k_is)
    (case hh_a27 => k_is)
    (case hh_l27 => k_is)
    (case hh_c27 => k_is)
    (case hh_k27 => k_is)
    (case hh_a28 => k_is)
    (case hh_l28 => k_is)
    (case hh_c28 => k_is)
    (case hh_k28 => k_is)
    (case hh_a29 => k_is)
    (case hh_l29 => k_is)
    (case hh_c29 => k_is)
    (case hh_k29 => k_is)
    (case hh_a30 => k_is)
    (case hh_l30 => k_is)
    (case hh_c30 => k_is)
    (case hh_k30 => k_is)
    (case hh_a31 => k_is)
    (case hh_l31 => k_is)
    (case hh_c31 => k_is)
    (case hh_k31 => k_is)
    (case hh_a32 => k_is)
    (case hh_l32 => k_is)
    (case hh_c32 => k_is)
    (case hh_k32 => k_is)
    (case hh_a33 => k_is)
    (case hh_l33 => k_is)
    (case hh_c33 => k_is)
    (case hh_k33 => k_is)
    (case hh_a34 => k_is)
    (case hh_l34 => k_is)
    (case hh_c34 => k_is)
    (case hh_k34 => k_is)
    (case hh_a35 => k_is)
    (case hh_l35 => k_is)
    (case hh_c35 => k_is)
    (case hh_k35 => k_is)
    (case hh_a36 => k_is)
    (case hh_l36 => k_is)
    (case hh_c36 => k_is)
    (case hh_k36 => k_is)
    (case hh_a37 => k_is)
    (case hh_l37 => k_is)
    (case hh_c37 => k_is)
    (case hh_k37 => k_is)
    (case hh_a38 => k_is)
    (case hh_l38 => k_is)
    (case hh_c38 => k_is)
    (case hh_k38 => k_is)
    (case hh_a39 => k_is)
    (case hh_l39 => k_is)
    (case hh_c39 => k_is)
    (case hh_k39 => k_is)
    (case hh_a40 => k_is)
    (case hh_l40 => k_is)
    (case hh_c40 => k_is)
    (case hh_k40 => k_is)
    (case hh_a41 => k_is)
    (case hh_l41 => k_is)
    (case hh_c41 => k_is)
    (case hh_k41 => k_is)
    (case hh_z_all => k_is)
    (case hh_z_bool => k_is)
    (case hh_z_enumerate => k_is)
    (case hh_z_int => k_is)
    (case hh_z_isinstance => k_is)
    (case hh_z_len => k_is)
    (case hh_z_list => k_is)
    (case hh_z_max => k_is)
    (case hh_z_min => k_is)
    (case hh_z_range => k_is)
    (case hh_z_repr => k_is)
    (case hh_z_str => k_is)
    (case hh_z_tuple => k_is)
    (case hh_g_LONGEST_NAME => k_is)
    (case hh_g_MOST_BINDERS => k_is)
    (case hh_g_MOST_NODES => k_is)
    (case hh_g_MOST_ON_A_WAY => k_is)
    (case hh_g_SIZES => k_is)
    (case hh_dl_SIZES => k_is)
    (case hh_dk_SIZES => exact ⟨⟨_, _, rfl, rfl⟩, ⟨_, _, rfl, rfl⟩, ⟨_, _, rfl, rfl⟩, trivial⟩)
    (case hh_ds_SIZES => first | rfl | k_is)
    (case hh_de_SIZES => rfl)
    (case hh_ko0_Term => k_is)
    (case hh_ko1_Term => k_is)
    (case hh_ko2_Term => k_is)
    (case hh_ko3_Term => k_is)
    (case hh_ko4_Term => k_is)
    (case hh_ko5_Term => k_is)
    (case hh_ko6_Term => k_is)
    (case hh_kc_Term => k_is)
    (case hh_ky_Term => k_is)
    (case hh_kt0_bool => k_is)
    (case hh_kt0_int => k_is)
    (case hh_kt0_str => k_is)
    (case hh_kt0_tuple => k_is)
    (case hh_q17 => k_is)
    (case hh_q23 => k_is)
    (case hh_q16 => k_is)
    (case hh_gf0 => k_is)
    (case hh_q15 => k_is)
    (case hh_no0_2 => k_is)
    (case hh_no0_4 => k_is)
    (case hh_no0_1 => k_is)
    (case hh_no0_0 => k_is)
    (case hh_no0_3 => k_is)
    (case hh_q20 => k_is)
    (case hh_q22 => k_is)
    (case hh_q19 => k_is)
    (case hh_q14 => k_is)
    (case hh_q21 => k_is)
    (case hh_mm0 => k_is)
    (case hh_mp0 => k_is)
    (case hh_q13 => k_is)
    (case hh_nf0_0 => k_is)
    (case hh_nf0_1 => k_is)
    (case hh_nf0_2 => k_is)
    (case hh_nf0_3 => k_is)
    (case hh_nf0_4 => k_is)
    (case hh_nf0_5 => k_is)
    (case hh_nf0_6 => k_is)
    (case hh_nf0_7 => k_is)
    (case hh_xl2 => k_is)
    (case hh_xr2 => first | rfl | k_is)
    (case hh_xs_2 => k_is)
    (case hh_xe2 => k_is)
    (case hh_xt2 => k_is)
    (case hh_xp2 => k_is)
    (case hh_xi2 => k_is)
    (case hh_xo2 => k_is)
    (case hh_xg2 => k_is)
    (case hh_xh2 => k_is)
    (case hh_xD2 => k_is)
    (case hh_xx2 => k_is)
    (case hh_xy2 => k_is)
    (case hh_lcc => k_is)
    (case hh_le => first | rfl | k_is)
    (case hh_v11 => first | rfl | k_is)
    (case hh_w11 => first | rfl | k_is)
    (case hh_w18 => first | rfl | k_is)
    (case hh_w7 => first | rfl | k_is)
    (case hh_w9 => first | rfl | k_is)
    (case hh_w10 => first | rfl | k_is)
    (case hh_nP => first | rfl | k_is)
    (case hh_cP => first | rfl | k_is)
    (case hh_nl => first | rfl | k_is)
    case math => exact L2.Lv.K1.math
end
